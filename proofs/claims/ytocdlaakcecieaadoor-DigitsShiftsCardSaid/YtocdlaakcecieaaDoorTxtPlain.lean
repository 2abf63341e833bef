/-
  Plain facts on decimal texts: the digits of a number, pieces of nine of them, what a text stands for.
-/
import Derived.Test.YtocdlaakcecieaaDoorGBase
import Derived.Lib.ItoaNum
import Derived.Lib.ParseIntB
import Derived.Lib.Strings
set_option maxRecDepth 8192
namespace Go.Proofs.YtocdlaakcecieaaDoor
open Go.Lib

/-- the last k digits of v, noughts ahead -/
def padD : Nat → Nat → List UInt8
  | 0, _ => []
  | k + 1, v => padD k (v / 10) ++ [UInt8.ofNat (48 + v % 10)]

theorem padD_length (k : Nat) : ∀ v, (padD k v).length = k := by
  induction k with
  | zero => intro v; rfl
  | succ k ih => intro v; rw [padD, List.length_append, ih]; rfl

theorem padD_add (a : Nat) (b : Nat) : ∀ v, padD (a + b) v = padD a (v / 10 ^ b) ++ padD b v := by
  induction b with
  | zero => intro v; simp [padD]
  | succ b ih =>
    intro v
    rw [← Nat.add_assoc, padD, ih, padD, ← List.append_assoc, Nat.div_div_eq_div_mul, Nat.pow_succ, Nat.mul_comm 10]

theorem padD_mod (k : Nat) : ∀ v, padD k (v % 10 ^ k) = padD k v := by
  induction k with
  | zero => intro v; rfl
  | succ k ih =>
    intro v
    rw [padD, padD, Nat.pow_succ, Nat.mod_mul_left_div_self, ih, Nat.mod_mul_left_mod]

theorem padD_zero (k : Nat) : padD k 0 = List.replicate k 48 := by
  induction k with
  | zero => rfl
  | succ k ih => rw [padD, Nat.zero_div, ih, List.replicate_succ']; rfl

theorem nDigits_le (k : Nat) : ∀ v, v < 10 ^ (k + 1) → nDigits v ≤ k + 1 := by
  induction k with
  | zero => intro v h; rw [nDigits_small (by omega)]; exact Nat.le_refl _
  | succ k ih =>
    intro v h
    by_cases h1 : v < 10
    · rw [nDigits_small h1]; omega
    · rw [nDigits_big h1]
      have h2 := ih (v / 10) (by rw [Nat.pow_succ] at h; omega)
      omega

theorem padD_dec (k : Nat) : ∀ v, nDigits v ≤ k → padD k v = List.replicate (k - nDigits v) 48 ++ decDigits v := by
  induction k with
  | zero => intro v h; have := nDigits_pos v; omega
  | succ k ih =>
    intro v h
    rw [padD]
    by_cases h1 : v < 10
    · rw [nDigits_small h1, decDigits_one h1, Nat.div_eq_of_lt h1, padD_zero, Nat.mod_eq_of_lt h1]; rfl
    · rw [nDigits_big h1] at h ⊢
      rw [ih _ (by omega), decDigits.eq_def v, dif_neg h1, List.append_assoc, Nat.add_sub_add_right]

theorem decDigits_split (b : Nat) : ∀ n, 10 ^ b ≤ n → decDigits n = decDigits (n / 10 ^ b) ++ padD b n := by
  induction b with
  | zero => intro n _; simp [padD]
  | succ b ih =>
    intro n h
    have hp : 0 < 10 ^ b := Nat.pow_pos (by omega)
    rw [Nat.pow_succ] at h
    have h1 : ¬ n < 10 := by omega
    rw [decDigits.eq_def n, dif_neg h1, ih (n / 10) (by omega), padD, List.append_assoc, Nat.div_div_eq_div_mul, Nat.pow_succ, Nat.mul_comm 10]

/-- the piece of nine digits at place j -/
def piece (n j : Nat) : Nat := n / 10 ^ (9 * j) % 1000000000
theorem piece_lt (n j : Nat) : piece n j < 1000000000 := Nat.mod_lt _ (by omega)
/-- the lowest K pieces -/
def pcs (n K : Nat) : List Nat := (List.range K).map (piece n)
theorem pcs_length (n K : Nat) : (pcs n K).length = K := by simp [pcs]
theorem pcs_succ (n K : Nat) : pcs n (K + 1) = pcs n K ++ [piece n K] := by simp [pcs, List.range_succ]
theorem pcs_getD (n K j : Nat) (h : j < K) : (pcs n K).getD j 0 = piece n j := by simp [pcs, List.getD, h]
theorem pcs_lt (n K : Nat) : ∀ x ∈ pcs n K, x < 4294967296 := by
  intro x hx
  obtain ⟨j, _, rfl⟩ := List.mem_map.1 hx
  have := piece_lt n j
  omega
theorem pow9 : (10 : Nat) ^ 9 = 1000000000 := by decide
theorem left_succ (n k : Nat) : n / 10 ^ (9 * k) / 1000000000 = n / 10 ^ (9 * (k + 1)) := by
  rw [Nat.div_div_eq_div_mul, ← pow9, ← Nat.pow_add]
  congr 2

/-- the text while its pieces are laid in: the highest one, k of the lower ones -/
def txtAt (n L k : Nat) : List UInt8 := decDigits (n / 10 ^ (9 * L)) ++ (List.replicate (9 * (L - k)) 48 ++ padD (9 * k) n)

theorem txtAt_length (n L k : Nat) (_h : k ≤ L) : (txtAt n L k).length = nDigits (n / 10 ^ (9 * L)) + 9 * L := by
  unfold txtAt
  rw [List.length_append, List.length_append, decDigits_length, padD_length, List.length_replicate]
  omega

theorem txtAt_zero (n L : Nat) : txtAt n L 0 = decDigits (n / 10 ^ (9 * L)) ++ List.replicate (9 * L) 48 := by
  unfold txtAt
  rw [Nat.mul_zero, padD, List.append_nil, Nat.sub_zero]

theorem txtAt_all (n L : Nat) (h : L = 0 ∨ 10 ^ (9 * L) ≤ n) : txtAt n L L = decDigits n := by
  unfold txtAt
  rw [Nat.sub_self, Nat.mul_zero]
  rcases h with rfl | h
  · simp [padD]
  · rw [decDigits_split (9 * L) n h]; rfl

theorem txtAt_succ (n L k : Nat) (_h : k < L) : txtAt n L (k + 1) = decDigits (n / 10 ^ (9 * L)) ++ (List.replicate (9 * (L - k - 1)) 48 ++ (padD 9 (piece n k) ++ padD (9 * k) n)) := by
  unfold txtAt piece
  rw [← pow9, padD_mod, ← padD_add, show L - (k + 1) = L - k - 1 by omega, show 9 + 9 * k = 9 * (k + 1) by omega]

/-- what digits stand for -/
def digVal (l : List UInt8) : Nat := l.foldl (fun a c => a * 10 + (c.toNat - 48)) 0
def isDig (c : UInt8) : Bool := decide (48 ≤ c.toNat) && decide (c.toNat ≤ 57)
def allDig (l : List UInt8) : Bool := l.all isDig

theorem isDig_iff {c : UInt8} : isDig c = true ↔ 48 ≤ c.toNat ∧ c.toNat ≤ 57 := by simp [isDig]
theorem allDig_nil : allDig [] = true := rfl
theorem allDig_cons {c : UInt8} {l : List UInt8} : allDig (c :: l) = (isDig c && allDig l) := by simp [allDig]
theorem allDig_append {a b : List UInt8} : allDig (a ++ b) = (allDig a && allDig b) := by simp [allDig]
theorem allDig_mem {l : List UInt8} (h : allDig l = true) : ∀ c ∈ l, isDig c = true := List.all_eq_true.1 h
theorem allDig_take {l : List UInt8} (h : allDig l = true) (k : Nat) : allDig (l.take k) = true := List.all_eq_true.2 fun c hc => allDig_mem h c (List.mem_of_mem_take hc)
theorem allDig_drop {l : List UInt8} (h : allDig l = true) (k : Nat) : allDig (l.drop k) = true := List.all_eq_true.2 fun c hc => allDig_mem h c (List.mem_of_mem_drop hc)

theorem foldl_dig (l : List UInt8) : ∀ a, l.foldl (fun a c => a * 10 + (c.toNat - 48)) a = a * 10 ^ l.length + digVal l := by
  unfold digVal
  induction l with
  | nil => intro a; simp
  | cons c l ih =>
    intro a
    rw [List.foldl_cons, List.foldl_cons, ih, ih (0 * 10 + _), List.length_cons, Nat.pow_succ, Nat.zero_mul, Nat.zero_add, Nat.add_mul, Nat.mul_assoc, Nat.mul_comm 10, Nat.add_assoc]

theorem digVal_nil : digVal [] = 0 := rfl
theorem digVal_append (a b : List UInt8) : digVal (a ++ b) = digVal a * 10 ^ b.length + digVal b := by
  rw [digVal.eq_def (a ++ b), List.foldl_append, foldl_dig b]; rfl
theorem digVal_one (c : UInt8) : digVal [c] = c.toNat - 48 := by simp [digVal]
theorem digVal_snoc (a : List UInt8) (c : UInt8) : digVal (a ++ [c]) = digVal a * 10 + (c.toNat - 48) := by
  rw [digVal_append, digVal_one]; rfl
theorem digVal_cons (c : UInt8) (l : List UInt8) : digVal (c :: l) = (c.toNat - 48) * 10 ^ l.length + digVal l := by
  rw [← digVal_one, ← digVal_append]; rfl

theorem digVal_lt {l : List UInt8} (h : allDig l = true) : digVal l < 10 ^ l.length := by
  induction l with
  | nil => simp [digVal]
  | cons c l ih =>
    rw [allDig_cons, Bool.and_eq_true] at h
    have h1 := isDig_iff.1 h.1
    have h2 := ih h.2
    have h3 : (c.toNat - 48) * 10 ^ l.length ≤ 9 * 10 ^ l.length := Nat.mul_le_mul_right _ (by omega)
    rw [digVal_cons, List.length_cons, Nat.pow_succ]
    omega

theorem ofNat_toNat {d : Nat} (h : d < 10) : (UInt8.ofNat (48 + d)).toNat = 48 + d := by
  rw [UInt8.toNat_ofNat']
  exact Nat.mod_eq_of_lt (by omega)
theorem isDig_of {d : Nat} (h : d < 10) : isDig (UInt8.ofNat (48 + d)) = true := by
  rw [isDig_iff, ofNat_toNat h]; omega
theorem of_toNat {c : UInt8} (h : isDig c = true) : UInt8.ofNat (48 + (c.toNat - 48)) = c := by
  have h1 := isDig_iff.1 h
  rw [show 48 + (c.toNat - 48) = c.toNat by omega]
  simp

theorem dec_all (n : Nat) : allDig (decDigits n) = true := by
  induction n using Nat.strongRecOn with
  | _ n ih =>
    by_cases h : n < 10
    · rw [decDigits_one h, allDig_cons, isDig_of h]; rfl
    · rw [decDigits.eq_def n, dif_neg h, allDig_append, ih (n / 10) (by omega), allDig_cons, isDig_of (by omega)]; rfl

theorem dec_val (n : Nat) : digVal (decDigits n) = n := by
  induction n using Nat.strongRecOn with
  | _ n ih =>
    by_cases h : n < 10
    · rw [decDigits_one h, digVal_one, ofNat_toNat h]; omega
    · rw [decDigits.eq_def n, dif_neg h, digVal_snoc, ih (n / 10) (by omega), ofNat_toNat (by omega)]; omega

theorem dec_ne (n : Nat) : decDigits n ≠ [] := by
  intro h
  have h1 := decDigits_length n
  rw [h] at h1
  have := nDigits_pos n
  simp at h1
  omega

/-- the first digit of a number that is not 0 is not 0 -/
theorem dec_head (n : Nat) (h0 : 0 < n) : (decDigits n).head? ≠ some 48 := by
  induction n using Nat.strongRecOn with
  | _ n ih =>
    by_cases h : n < 10
    · rw [decDigits_one h]
      intro e
      simp only [List.head?_cons, Option.some.injEq] at e
      have h1 := ofNat_toNat h
      rw [e] at h1
      have h2 : (48 : UInt8).toNat = 48 := rfl
      omega
    · rw [decDigits.eq_def n, dif_neg h]
      have h1 := ih (n / 10) (by omega) (by omega)
      cases hd : decDigits (n / 10) with
      | nil => exact absurd hd (dec_ne _)
      | cons c r => rw [hd] at h1; simpa using h1

/-- digits without noughts ahead are those of what they stand for -/
theorem dec_of_digVal (k : Nat) : ∀ l : List UInt8, l.length = k + 1 → allDig l = true → (l.head? ≠ some 48 ∨ l.length = 1) → decDigits (digVal l) = l := by
  induction k with
  | zero =>
    intro l hl ha _
    match l, hl with
    | [c], _ =>
      rw [allDig_cons, Bool.and_eq_true] at ha
      have h1 := isDig_iff.1 ha.1
      rw [digVal_one, decDigits_one (by omega), of_toNat ha.1]
  | succ k ih =>
    intro l hl ha hh
    obtain ⟨r, c, rfl⟩ : ∃ r c, l = r ++ [c] := ⟨l.dropLast, l.getLast (by intro e; rw [e] at hl; simp at hl), (List.dropLast_concat_getLast _).symm⟩
    have hr : r.length = k + 1 := by simpa using hl
    rw [allDig_append, Bool.and_eq_true] at ha
    have hc : isDig c = true := by have := ha.2; rw [allDig_cons, Bool.and_eq_true] at this; exact this.1
    have h1 := isDig_iff.1 hc
    match r, hr with
    | d :: r, hr =>
      have hd : (d :: r).head? ≠ some 48 := by
        rcases hh with hh | hh
        · simpa using hh
        · simp at hh
      have h2 := ih (d :: r) hr ha.1 (.inl hd)
      have h3 : 0 < digVal (d :: r) := by
        rw [digVal_cons]
        have h4 : isDig d = true := by have := ha.1; rw [allDig_cons, Bool.and_eq_true] at this; exact this.1
        have h5 := isDig_iff.1 h4
        have h6 : d.toNat ≠ 48 := fun e => hd (by rw [List.head?_cons]; congr 1; exact UInt8.toNat_inj.1 e)
        have : 0 < (d.toNat - 48) * 10 ^ r.length := Nat.mul_pos (by omega) (Nat.pow_pos (by omega))
        omega
      rw [digVal_snoc, decDigits.eq_def, dif_neg (by omega), show (digVal (d :: r) * 10 + (c.toNat - 48)) / 10 = digVal (d :: r) by omega, h2, show (digVal (d :: r) * 10 + (c.toNat - 48)) % 10 = c.toNat - 48 by omega, of_toNat hc]

theorem dec_times (n k : Nat) (h : 0 < n) : decDigits (n * 10 ^ k) = decDigits n ++ List.replicate k 48 := by
  have hp : 0 < 10 ^ k := Nat.pow_pos (by omega)
  rw [decDigits_split k (n * 10 ^ k) (Nat.le_mul_of_pos_left _ h), Nat.mul_div_cancel _ hp, ← padD_mod, Nat.mul_mod_left, padD_zero]

/-- the digits of the reference, the highest one first -/
theorem dec_limbs (n : Nat) (h : 0 < n) : ((Dg.limbs n).reverse.map fun d => UInt8.ofNat (48 + d)) = decDigits n := by
  induction n using Nat.strongRecOn with
  | _ n ih =>
    rw [Dg.limbs_pos h, List.reverse_cons, List.map_append]
    by_cases h1 : n < 10
    · rw [Nat.div_eq_of_lt h1, Dg.limbs_zero, decDigits_one h1, Nat.mod_eq_of_lt h1]; rfl
    · rw [ih (n / 10) (by omega) (by omega), decDigits.eq_def n, dif_neg h1]; rfl

/-- what a text's digits are, the lowest one first -/
def lowDig (l : List UInt8) : List Nat := l.reverse.map fun c => c.toNat - 48

theorem lowDig_limbs {l : List UInt8} (ha : allDig l = true) (hl : l ≠ []) (hh : l.head? ≠ some 48) : lowDig l = Dg.limbs (digVal l) := by
  obtain ⟨k, hk⟩ : ∃ k, l.length = k + 1 := ⟨l.length - 1, by have := List.length_pos_iff.2 hl; omega⟩
  have h1 := dec_of_digVal k l hk ha (.inl hh)
  have h0 : 0 < digVal l := by
    rcases Nat.eq_zero_or_pos (digVal l) with h | h
    · rw [h] at h1
      rw [← h1] at hh
      exact absurd (by rw [decDigits_one (by omega)]; rfl) hh
    · exact h
  rw [← dec_limbs _ h0] at h1
  unfold lowDig
  rw [← h1, ← List.map_reverse, List.reverse_reverse, List.map_map]
  have h2 : ∀ d ∈ Dg.limbs (digVal l), ((fun c : UInt8 => c.toNat - 48) ∘ fun d => UInt8.ofNat (48 + d)) d = id d := by
    intro d hd
    have h3 := Dg.wf_limbs _ d hd
    simp only [Function.comp, id]
    rw [ofNat_toNat h3]
    omega
  rw [h1, List.map_congr_left h2, List.map_id]

/-- short rows of digits as the library reads them -/
theorem parseM_ok (M : Nat) : ∀ (l : List UInt8) (acc : Nat), allDig l = true → acc * 10 ^ l.length + digVal l ≤ M → acc < 10 ^ 9 → (∀ k, k ≤ l.length → acc * 10 ^ k + digVal (l.take k) < 10 ^ 10) → parseUintM M acc l = .ok (acc * 10 ^ l.length + digVal l) := by
  intro l
  induction l with
  | nil => intro acc _ _ _ _; simp [parseUintM, digVal]
  | cons c l ih =>
    intro acc ha hM hlt hk
    rw [allDig_cons, Bool.and_eq_true] at ha
    have h1 := isDig_iff.1 ha.1
    have hk1 := hk 1 (by simp)
    simp only [List.take_succ_cons, List.take_zero, digVal_one, Nat.pow_one] at hk1
    have hp : 1 ≤ 10 ^ l.length := Nat.one_le_pow _ _ (by omega)
    have e : acc * 10 ^ (c :: l).length + digVal (c :: l) = (acc * 10 + (c.toNat - 48)) * 10 ^ l.length + digVal l := by
      rw [digVal_cons, List.length_cons, Nat.pow_succ, Nat.add_mul, Nat.mul_assoc, Nat.mul_comm 10, Nat.add_assoc]
    rw [e] at hM ⊢
    have h2 : acc * 10 + (c.toNat - 48) ≤ (acc * 10 + (c.toNat - 48)) * 10 ^ l.length := Nat.le_mul_of_pos_right _ hp
    unfold parseUintM
    rw [if_pos h1, if_neg (by omega), if_neg (by omega)]
    by_cases hl : l = []
    · subst hl
      simp [parseUintM, digVal]
    · refine ih _ ha.2 hM ?_ (fun k hk' => ?_)
      · have h3 := hk 2 (by have := List.length_pos_iff.2 hl; simp; omega)
        have h4 : acc * 10 ^ 2 = acc * 100 := rfl
        have h5 : digVal ((c :: l).take 2) ≥ (c.toNat - 48) * 10 := by
          cases l with
          | nil => exact absurd rfl hl
          | cons d l => simp only [List.take_succ_cons, List.take_zero]; rw [digVal_cons]; simp
        omega
      · have h3 := hk (k + 1) (by simp; omega)
        rw [List.take_succ_cons, digVal_cons, List.length_take, Nat.min_eq_left hk', Nat.pow_succ] at h3
        rw [Nat.add_mul, Nat.mul_assoc, Nat.mul_comm 10, Nat.add_assoc]
        exact h3

theorem parse9_ok {l : List UInt8} (ha : allDig l = true) (hl : l ≠ []) (h9 : l.length ≤ 9) : parseUintB 32 l = .ok (digVal l) := by
  have hv := digVal_lt ha
  have hp : 10 ^ l.length ≤ 10 ^ 9 := Nat.pow_le_pow_right (by omega) h9
  rw [pow9] at hp
  unfold parseUintB
  rw [if_neg hl]
  have h := parseM_ok (2 ^ 32 - 1) l 0 ha (by rw [Nat.zero_mul, Nat.zero_add]; omega) (by omega) (fun k hk => by
    have h1 := digVal_lt (allDig_take ha k)
    have h2 : 10 ^ (l.take k).length ≤ 10 ^ 9 := Nat.pow_le_pow_right (by omega) (by rw [List.length_take]; omega)
    rw [Nat.zero_mul, Nat.zero_add]
    omega)
  rw [Nat.zero_mul, Nat.zero_add] at h
  exact h

/-! ### what a text stands for -/
/-- a text without its sign -/
def unsign (l : List UInt8) : List UInt8 := trimPrefix l [45]
/-- a number's text -/
def numB (l : List UInt8) : Bool := decide (unsign l ≠ []) && allDig (unsign l) && (decide ((unsign l).head? ≠ some 48) || decide (l = [48]))

theorem numB_iff {l : List UInt8} : numB l = true ↔ unsign l ≠ [] ∧ allDig (unsign l) = true ∧ ((unsign l).head? ≠ some 48 ∨ l = [48]) := by
  simp only [numB, Bool.and_eq_true, Bool.or_eq_true, decide_eq_true_iff, and_assoc]

theorem unsign_neg (l : List UInt8) : hasPrefix (45 :: l) [45] = true ∧ unsign (45 :: l) = l := by
  simp [unsign, trimPrefix, hasPrefix, List.isPrefixOf]
theorem unsign_pos {l : List UInt8} (h : allDig l = true) : hasPrefix l [45] = false ∧ unsign l = l := by
  have h1 : hasPrefix l [45] = false := by
    cases l with
    | nil => rfl
    | cons c l =>
      rw [allDig_cons, Bool.and_eq_true] at h
      have h2 := isDig_iff.1 h.1
      simp only [hasPrefix, List.isPrefixOf, Bool.and_true]
      rw [beq_eq_false_iff_ne]
      intro e
      rw [← e] at h2
      have : (45 : UInt8).toNat = 45 := rfl
      omega
  exact ⟨h1, by unfold unsign trimPrefix; rw [h1]; rfl⟩
theorem minus_cases (l : List UInt8) : (∃ r, l = 45 :: r) ∨ (hasPrefix l [45] = false ∧ unsign l = l) := by
  cases l with
  | nil => exact .inr ⟨rfl, rfl⟩
  | cons c r =>
    by_cases h : c = 45
    · exact .inl ⟨r, by rw [h]⟩
    · have h1 : hasPrefix (c :: r) [45] = false := by
        simp only [hasPrefix, List.isPrefixOf, Bool.and_true]
        rw [beq_eq_false_iff_ne]
        exact fun e => h e.symm
      exact .inr ⟨h1, by unfold unsign trimPrefix; rw [h1]; rfl⟩

end Go.Proofs.YtocdlaakcecieaaDoor

/-
  In one: TxtPlain, TxtNum, TxtShelf, TxtLib, TxtRep, TxtBytes, TxtMem, TxtCont.
-/
import Derived.Test.YteceomlbnajihaaGreatDoorGBase
import Derived.Lib.ItoaNum
import Derived.Lib.ParseIntB
import Derived.Lib.Strings
import Derived.Test.YteceomlbnajihaaGreatDoorGWInt
import Derived.Laws.Concat
import Derived.Shelf.Small.Wraps
import Derived.Shelf.Pu.ParseUintPublic10
import Derived.Shelf.Strconv.Itoa2
import Derived.Shelf.Strconv.Itoa1
import Derived.Shelf.LaysM
import Derived.Test.YteceomlbnajihaaGreatDoorRows
import Derived.Lib.AppendIntMem
import Derived.Lib.ItoaMem
import Derived.Shelf.Strings.Repeat
import Derived.Lib.MakeNoZero
import Derived.Laws.CopyOwn
import Derived.Deep.Cut
import Derived.Deep.DeepCutAuto
import Derived.Deep.LoopGhost
import Derived.Deep.RegionLaw
import Derived.Deep.RegionHeld3
import Derived.Lib.BufferWrite
set_option maxRecDepth 8192
/- Plain facts on decimal texts: the digits of a number, pieces of nine of them, what a text stands for. -/
namespace Go.Proofs.YteceomlbnajihaaGreatDoor
open Go.Lib

/-- the last k digits of v, noughts ahead -/
def padD : Nat → Nat → List UInt8
  | 0, _ => []
  | k + 1, v => padD k (v / 10) ++ [UInt8.ofNat (48 + v % 10)]

theorem padD_length (k : Nat) : ∀ v, (padD k v).length = k := by
  induction k with
  | zero => intro v; rfl
  | succ k ih => intro v; rw [padD, List.length_append, ih]; rfl

theorem padD_add (a : Nat) (b : Nat) : ∀ v, padD (a + b) v = padD a (v / 10 ^ b) ++ padD b v := by
  induction b with
  | zero => intro v; simp [padD]
  | succ b ih =>
    intro v
    rw [← Nat.add_assoc, padD, ih, padD, ← List.append_assoc, Nat.div_div_eq_div_mul, Nat.pow_succ, Nat.mul_comm 10]

theorem padD_mod (k : Nat) : ∀ v, padD k (v % 10 ^ k) = padD k v := by
  induction k with
  | zero => intro v; rfl
  | succ k ih =>
    intro v
    rw [padD, padD, Nat.pow_succ, Nat.mod_mul_left_div_self, ih, Nat.mod_mul_left_mod]

theorem padD_zero (k : Nat) : padD k 0 = List.replicate k 48 := by
  induction k with
  | zero => rfl
  | succ k ih => rw [padD, Nat.zero_div, ih, List.replicate_succ']; rfl

theorem nDigits_le (k : Nat) : ∀ v, v < 10 ^ (k + 1) → nDigits v ≤ k + 1 := by
  induction k with
  | zero => intro v h; rw [nDigits_small (by omega)]; exact Nat.le_refl _
  | succ k ih =>
    intro v h
    by_cases h1 : v < 10
    · rw [nDigits_small h1]; omega
    · rw [nDigits_big h1]
      have h2 := ih (v / 10) (by rw [Nat.pow_succ] at h; omega)
      omega

theorem padD_dec (k : Nat) : ∀ v, nDigits v ≤ k → padD k v = List.replicate (k - nDigits v) 48 ++ decDigits v := by
  induction k with
  | zero => intro v h; have := nDigits_pos v; omega
  | succ k ih =>
    intro v h
    rw [padD]
    by_cases h1 : v < 10
    · rw [nDigits_small h1, decDigits_one h1, Nat.div_eq_of_lt h1, padD_zero, Nat.mod_eq_of_lt h1]; rfl
    · rw [nDigits_big h1] at h ⊢
      rw [ih _ (by omega), decDigits.eq_def v, dif_neg h1, List.append_assoc, Nat.add_sub_add_right]

theorem decDigits_split (b : Nat) : ∀ n, 10 ^ b ≤ n → decDigits n = decDigits (n / 10 ^ b) ++ padD b n := by
  induction b with
  | zero => intro n _; simp [padD]
  | succ b ih =>
    intro n h
    have hp : 0 < 10 ^ b := Nat.pow_pos (by omega)
    rw [Nat.pow_succ] at h
    have h1 : ¬ n < 10 := by omega
    rw [decDigits.eq_def n, dif_neg h1, ih (n / 10) (by omega), padD, List.append_assoc, Nat.div_div_eq_div_mul, Nat.pow_succ, Nat.mul_comm 10]

/-- the piece of nine digits at place j -/
def piece (n j : Nat) : Nat := n / 10 ^ (9 * j) % 1000000000
theorem piece_lt (n j : Nat) : piece n j < 1000000000 := Nat.mod_lt _ (by omega)
/-- the lowest K pieces -/
def pcs (n K : Nat) : List Nat := (List.range K).map (piece n)
theorem pcs_length (n K : Nat) : (pcs n K).length = K := by simp [pcs]
theorem pcs_succ (n K : Nat) : pcs n (K + 1) = pcs n K ++ [piece n K] := by simp [pcs, List.range_succ]
theorem pcs_getD (n K j : Nat) (h : j < K) : (pcs n K).getD j 0 = piece n j := by simp [pcs, List.getD, h]
theorem pcs_lt (n K : Nat) : ∀ x ∈ pcs n K, x < 4294967296 := by
  intro x hx
  obtain ⟨j, _, rfl⟩ := List.mem_map.1 hx
  have := piece_lt n j
  omega
theorem pow9 : (10 : Nat) ^ 9 = 1000000000 := by decide
theorem left_succ (n k : Nat) : n / 10 ^ (9 * k) / 1000000000 = n / 10 ^ (9 * (k + 1)) := by
  rw [Nat.div_div_eq_div_mul, ← pow9, ← Nat.pow_add]
  congr 2

/-- the text while its pieces are laid in: the highest one, k of the lower ones -/
def txtAt (n L k : Nat) : List UInt8 := decDigits (n / 10 ^ (9 * L)) ++ (List.replicate (9 * (L - k)) 48 ++ padD (9 * k) n)

theorem txtAt_length (n L k : Nat) (_h : k ≤ L) : (txtAt n L k).length = nDigits (n / 10 ^ (9 * L)) + 9 * L := by
  unfold txtAt
  rw [List.length_append, List.length_append, decDigits_length, padD_length, List.length_replicate]
  omega

theorem txtAt_zero (n L : Nat) : txtAt n L 0 = decDigits (n / 10 ^ (9 * L)) ++ List.replicate (9 * L) 48 := by
  unfold txtAt
  rw [Nat.mul_zero, padD, List.append_nil, Nat.sub_zero]

theorem txtAt_all (n L : Nat) (h : L = 0 ∨ 10 ^ (9 * L) ≤ n) : txtAt n L L = decDigits n := by
  unfold txtAt
  rw [Nat.sub_self, Nat.mul_zero]
  rcases h with rfl | h
  · simp [padD]
  · rw [decDigits_split (9 * L) n h]; rfl

theorem txtAt_succ (n L k : Nat) (_h : k < L) : txtAt n L (k + 1) = decDigits (n / 10 ^ (9 * L)) ++ (List.replicate (9 * (L - k - 1)) 48 ++ (padD 9 (piece n k) ++ padD (9 * k) n)) := by
  unfold txtAt piece
  rw [← pow9, padD_mod, ← padD_add, show L - (k + 1) = L - k - 1 by omega, show 9 + 9 * k = 9 * (k + 1) by omega]

/-- what digits stand for -/
def digVal (l : List UInt8) : Nat := l.foldl (fun a c => a * 10 + (c.toNat - 48)) 0
def isDig (c : UInt8) : Bool := decide (48 ≤ c.toNat) && decide (c.toNat ≤ 57)
def allDig (l : List UInt8) : Bool := l.all isDig

theorem isDig_iff {c : UInt8} : isDig c = true ↔ 48 ≤ c.toNat ∧ c.toNat ≤ 57 := by simp [isDig]
theorem allDig_nil : allDig [] = true := rfl
theorem allDig_cons {c : UInt8} {l : List UInt8} : allDig (c :: l) = (isDig c && allDig l) := by simp [allDig]
theorem allDig_append {a b : List UInt8} : allDig (a ++ b) = (allDig a && allDig b) := by simp [allDig]
theorem allDig_mem {l : List UInt8} (h : allDig l = true) : ∀ c ∈ l, isDig c = true := List.all_eq_true.1 h
theorem allDig_take {l : List UInt8} (h : allDig l = true) (k : Nat) : allDig (l.take k) = true := List.all_eq_true.2 fun c hc => allDig_mem h c (List.mem_of_mem_take hc)
theorem allDig_drop {l : List UInt8} (h : allDig l = true) (k : Nat) : allDig (l.drop k) = true := List.all_eq_true.2 fun c hc => allDig_mem h c (List.mem_of_mem_drop hc)

theorem foldl_dig (l : List UInt8) : ∀ a, l.foldl (fun a c => a * 10 + (c.toNat - 48)) a = a * 10 ^ l.length + digVal l := by
  unfold digVal
  induction l with
  | nil => intro a; simp
  | cons c l ih =>
    intro a
    rw [List.foldl_cons, List.foldl_cons, ih, ih (0 * 10 + _), List.length_cons, Nat.pow_succ, Nat.zero_mul, Nat.zero_add, Nat.add_mul, Nat.mul_assoc, Nat.mul_comm 10, Nat.add_assoc]

theorem digVal_nil : digVal [] = 0 := rfl
theorem digVal_append (a b : List UInt8) : digVal (a ++ b) = digVal a * 10 ^ b.length + digVal b := by
  rw [digVal.eq_def (a ++ b), List.foldl_append, foldl_dig b]; rfl
theorem digVal_one (c : UInt8) : digVal [c] = c.toNat - 48 := by simp [digVal]
theorem digVal_snoc (a : List UInt8) (c : UInt8) : digVal (a ++ [c]) = digVal a * 10 + (c.toNat - 48) := by
  rw [digVal_append, digVal_one]; rfl
theorem digVal_cons (c : UInt8) (l : List UInt8) : digVal (c :: l) = (c.toNat - 48) * 10 ^ l.length + digVal l := by
  rw [← digVal_one, ← digVal_append]; rfl

theorem digVal_lt {l : List UInt8} (h : allDig l = true) : digVal l < 10 ^ l.length := by
  induction l with
  | nil => simp [digVal]
  | cons c l ih =>
    rw [allDig_cons, Bool.and_eq_true] at h
    have h1 := isDig_iff.1 h.1
    have h2 := ih h.2
    have h3 : (c.toNat - 48) * 10 ^ l.length ≤ 9 * 10 ^ l.length := Nat.mul_le_mul_right _ (by omega)
    rw [digVal_cons, List.length_cons, Nat.pow_succ]
    omega

theorem ofNat_toNat {d : Nat} (h : d < 10) : (UInt8.ofNat (48 + d)).toNat = 48 + d := by
  rw [UInt8.toNat_ofNat']
  exact Nat.mod_eq_of_lt (by omega)
theorem isDig_of {d : Nat} (h : d < 10) : isDig (UInt8.ofNat (48 + d)) = true := by
  rw [isDig_iff, ofNat_toNat h]; omega
theorem of_toNat {c : UInt8} (h : isDig c = true) : UInt8.ofNat (48 + (c.toNat - 48)) = c := by
  have h1 := isDig_iff.1 h
  rw [show 48 + (c.toNat - 48) = c.toNat by omega]
  simp

theorem dec_all (n : Nat) : allDig (decDigits n) = true := by
  induction n using Nat.strongRecOn with
  | _ n ih =>
    by_cases h : n < 10
    · rw [decDigits_one h, allDig_cons, isDig_of h]; rfl
    · rw [decDigits.eq_def n, dif_neg h, allDig_append, ih (n / 10) (by omega), allDig_cons, isDig_of (by omega)]; rfl

theorem dec_val (n : Nat) : digVal (decDigits n) = n := by
  induction n using Nat.strongRecOn with
  | _ n ih =>
    by_cases h : n < 10
    · rw [decDigits_one h, digVal_one, ofNat_toNat h]; omega
    · rw [decDigits.eq_def n, dif_neg h, digVal_snoc, ih (n / 10) (by omega), ofNat_toNat (by omega)]; omega

theorem dec_ne (n : Nat) : decDigits n ≠ [] := by
  intro h
  have h1 := decDigits_length n
  rw [h] at h1
  have := nDigits_pos n
  simp at h1
  omega

/-- the first digit of a number that is not 0 is not 0 -/
theorem dec_head (n : Nat) (h0 : 0 < n) : (decDigits n).head? ≠ some 48 := by
  induction n using Nat.strongRecOn with
  | _ n ih =>
    by_cases h : n < 10
    · rw [decDigits_one h]
      intro e
      simp only [List.head?_cons, Option.some.injEq] at e
      have h1 := ofNat_toNat h
      rw [e] at h1
      have h2 : (48 : UInt8).toNat = 48 := rfl
      omega
    · rw [decDigits.eq_def n, dif_neg h]
      have h1 := ih (n / 10) (by omega) (by omega)
      cases hd : decDigits (n / 10) with
      | nil => exact absurd hd (dec_ne _)
      | cons c r => rw [hd] at h1; simpa using h1

/-- digits without noughts ahead are those of what they stand for -/
theorem dec_of_digVal (k : Nat) : ∀ l : List UInt8, l.length = k + 1 → allDig l = true → (l.head? ≠ some 48 ∨ l.length = 1) → decDigits (digVal l) = l := by
  induction k with
  | zero =>
    intro l hl ha _
    match l, hl with
    | [c], _ =>
      rw [allDig_cons, Bool.and_eq_true] at ha
      have h1 := isDig_iff.1 ha.1
      rw [digVal_one, decDigits_one (by omega), of_toNat ha.1]
  | succ k ih =>
    intro l hl ha hh
    obtain ⟨r, c, rfl⟩ : ∃ r c, l = r ++ [c] := ⟨l.dropLast, l.getLast (by intro e; rw [e] at hl; simp at hl), (List.dropLast_concat_getLast _).symm⟩
    have hr : r.length = k + 1 := by simpa using hl
    rw [allDig_append, Bool.and_eq_true] at ha
    have hc : isDig c = true := by have := ha.2; rw [allDig_cons, Bool.and_eq_true] at this; exact this.1
    have h1 := isDig_iff.1 hc
    match r, hr with
    | d :: r, hr =>
      have hd : (d :: r).head? ≠ some 48 := by
        rcases hh with hh | hh
        · simpa using hh
        · simp at hh
      have h2 := ih (d :: r) hr ha.1 (.inl hd)
      have h3 : 0 < digVal (d :: r) := by
        rw [digVal_cons]
        have h4 : isDig d = true := by have := ha.1; rw [allDig_cons, Bool.and_eq_true] at this; exact this.1
        have h5 := isDig_iff.1 h4
        have h6 : d.toNat ≠ 48 := fun e => hd (by rw [List.head?_cons]; congr 1; exact UInt8.toNat_inj.1 e)
        have : 0 < (d.toNat - 48) * 10 ^ r.length := Nat.mul_pos (by omega) (Nat.pow_pos (by omega))
        omega
      rw [digVal_snoc, decDigits.eq_def, dif_neg (by omega), show (digVal (d :: r) * 10 + (c.toNat - 48)) / 10 = digVal (d :: r) by omega, h2, show (digVal (d :: r) * 10 + (c.toNat - 48)) % 10 = c.toNat - 48 by omega, of_toNat hc]

theorem dec_times (n k : Nat) (h : 0 < n) : decDigits (n * 10 ^ k) = decDigits n ++ List.replicate k 48 := by
  have hp : 0 < 10 ^ k := Nat.pow_pos (by omega)
  rw [decDigits_split k (n * 10 ^ k) (Nat.le_mul_of_pos_left _ h), Nat.mul_div_cancel _ hp, ← padD_mod, Nat.mul_mod_left, padD_zero]

/-- the digits of the reference, the highest one first -/
theorem dec_limbs (n : Nat) (h : 0 < n) : ((Dg.limbs n).reverse.map fun d => UInt8.ofNat (48 + d)) = decDigits n := by
  induction n using Nat.strongRecOn with
  | _ n ih =>
    rw [Dg.limbs_pos h, List.reverse_cons, List.map_append]
    by_cases h1 : n < 10
    · rw [Nat.div_eq_of_lt h1, Dg.limbs_zero, decDigits_one h1, Nat.mod_eq_of_lt h1]; rfl
    · rw [ih (n / 10) (by omega) (by omega), decDigits.eq_def n, dif_neg h1]; rfl

/-- what a text's digits are, the lowest one first -/
def lowDig (l : List UInt8) : List Nat := l.reverse.map fun c => c.toNat - 48

theorem lowDig_limbs {l : List UInt8} (ha : allDig l = true) (hl : l ≠ []) (hh : l.head? ≠ some 48) : lowDig l = Dg.limbs (digVal l) := by
  obtain ⟨k, hk⟩ : ∃ k, l.length = k + 1 := ⟨l.length - 1, by have := List.length_pos_iff.2 hl; omega⟩
  have h1 := dec_of_digVal k l hk ha (.inl hh)
  have h0 : 0 < digVal l := by
    rcases Nat.eq_zero_or_pos (digVal l) with h | h
    · rw [h] at h1
      rw [← h1] at hh
      exact absurd (by rw [decDigits_one (by omega)]; rfl) hh
    · exact h
  rw [← dec_limbs _ h0] at h1
  unfold lowDig
  rw [← h1, ← List.map_reverse, List.reverse_reverse, List.map_map]
  have h2 : ∀ d ∈ Dg.limbs (digVal l), ((fun c : UInt8 => c.toNat - 48) ∘ fun d => UInt8.ofNat (48 + d)) d = id d := by
    intro d hd
    have h3 := Dg.wf_limbs _ d hd
    simp only [Function.comp, id]
    rw [ofNat_toNat h3]
    omega
  rw [h1, List.map_congr_left h2, List.map_id]

/-- short rows of digits as the library reads them -/
theorem parseM_ok (M : Nat) : ∀ (l : List UInt8) (acc : Nat), allDig l = true → acc * 10 ^ l.length + digVal l ≤ M → acc < 10 ^ 9 → (∀ k, k ≤ l.length → acc * 10 ^ k + digVal (l.take k) < 10 ^ 10) → parseUintM M acc l = .ok (acc * 10 ^ l.length + digVal l) := by
  intro l
  induction l with
  | nil => intro acc _ _ _ _; simp [parseUintM, digVal]
  | cons c l ih =>
    intro acc ha hM hlt hk
    rw [allDig_cons, Bool.and_eq_true] at ha
    have h1 := isDig_iff.1 ha.1
    have hk1 := hk 1 (by simp)
    simp only [List.take_succ_cons, List.take_zero, digVal_one, Nat.pow_one] at hk1
    have hp : 1 ≤ 10 ^ l.length := Nat.one_le_pow _ _ (by omega)
    have e : acc * 10 ^ (c :: l).length + digVal (c :: l) = (acc * 10 + (c.toNat - 48)) * 10 ^ l.length + digVal l := by
      rw [digVal_cons, List.length_cons, Nat.pow_succ, Nat.add_mul, Nat.mul_assoc, Nat.mul_comm 10, Nat.add_assoc]
    rw [e] at hM ⊢
    have h2 : acc * 10 + (c.toNat - 48) ≤ (acc * 10 + (c.toNat - 48)) * 10 ^ l.length := Nat.le_mul_of_pos_right _ hp
    unfold parseUintM
    rw [if_pos h1, if_neg (by omega), if_neg (by omega)]
    by_cases hl : l = []
    · subst hl
      simp [parseUintM, digVal]
    · refine ih _ ha.2 hM ?_ (fun k hk' => ?_)
      · have h3 := hk 2 (by have := List.length_pos_iff.2 hl; simp; omega)
        have h4 : acc * 10 ^ 2 = acc * 100 := rfl
        have h5 : digVal ((c :: l).take 2) ≥ (c.toNat - 48) * 10 := by
          cases l with
          | nil => exact absurd rfl hl
          | cons d l => simp only [List.take_succ_cons, List.take_zero]; rw [digVal_cons]; simp
        omega
      · have h3 := hk (k + 1) (by simp; omega)
        rw [List.take_succ_cons, digVal_cons, List.length_take, Nat.min_eq_left hk', Nat.pow_succ] at h3
        rw [Nat.add_mul, Nat.mul_assoc, Nat.mul_comm 10, Nat.add_assoc]
        exact h3

theorem parse9_ok {l : List UInt8} (ha : allDig l = true) (hl : l ≠ []) (h9 : l.length ≤ 9) : parseUintB 32 l = .ok (digVal l) := by
  have hv := digVal_lt ha
  have hp : 10 ^ l.length ≤ 10 ^ 9 := Nat.pow_le_pow_right (by omega) h9
  rw [pow9] at hp
  unfold parseUintB
  rw [if_neg hl]
  have h := parseM_ok (2 ^ 32 - 1) l 0 ha (by rw [Nat.zero_mul, Nat.zero_add]; omega) (by omega) (fun k hk => by
    have h1 := digVal_lt (allDig_take ha k)
    have h2 : 10 ^ (l.take k).length ≤ 10 ^ 9 := Nat.pow_le_pow_right (by omega) (by rw [List.length_take]; omega)
    rw [Nat.zero_mul, Nat.zero_add]
    omega)
  rw [Nat.zero_mul, Nat.zero_add] at h
  exact h

/-! ### what a text stands for -/
/-- a text without its sign -/
def unsign (l : List UInt8) : List UInt8 := trimPrefix l [45]
/-- a number's text -/
def numB (l : List UInt8) : Bool := decide (unsign l ≠ []) && allDig (unsign l) && (decide ((unsign l).head? ≠ some 48) || decide (l = [48]))

theorem numB_iff {l : List UInt8} : numB l = true ↔ unsign l ≠ [] ∧ allDig (unsign l) = true ∧ ((unsign l).head? ≠ some 48 ∨ l = [48]) := by
  simp only [numB, Bool.and_eq_true, Bool.or_eq_true, decide_eq_true_iff, and_assoc]

theorem unsign_neg (l : List UInt8) : hasPrefix (45 :: l) [45] = true ∧ unsign (45 :: l) = l := by
  simp [unsign, trimPrefix, hasPrefix, List.isPrefixOf]
theorem unsign_pos {l : List UInt8} (h : allDig l = true) : hasPrefix l [45] = false ∧ unsign l = l := by
  have h1 : hasPrefix l [45] = false := by
    cases l with
    | nil => rfl
    | cons c l =>
      rw [allDig_cons, Bool.and_eq_true] at h
      have h2 := isDig_iff.1 h.1
      simp only [hasPrefix, List.isPrefixOf, Bool.and_true]
      rw [beq_eq_false_iff_ne]
      intro e
      rw [← e] at h2
      have : (45 : UInt8).toNat = 45 := rfl
      omega
  exact ⟨h1, by unfold unsign trimPrefix; rw [h1]; rfl⟩
theorem minus_cases (l : List UInt8) : (∃ r, l = 45 :: r) ∨ (hasPrefix l [45] = false ∧ unsign l = l) := by
  cases l with
  | nil => exact .inr ⟨rfl, rfl⟩
  | cons c r =>
    by_cases h : c = 45
    · exact .inl ⟨r, by rw [h]⟩
    · have h1 : hasPrefix (c :: r) [45] = false := by
        simp only [hasPrefix, List.isPrefixOf, Bool.and_true]
        rw [beq_eq_false_iff_ne]
        exact fun e => h e.symm
      exact .inr ⟨h1, by unfold unsign trimPrefix; rw [h1]; rfl⟩

end Go.Proofs.YteceomlbnajihaaGreatDoor

/- Plain facts on the texts of whole numbers: of which number a text is, and back. -/
namespace Go.Proofs.YteceomlbnajihaaGreatDoor
open Go.Lib

/-- the number that a text stands for -/
def numZ (l : List UInt8) : Int := zOf (hasPrefix l [45]) (digVal (unsign l))

theorem itoa_neg' {z : Int} (h : z < 0) : itoa z = 45 :: decDigits z.natAbs := by unfold itoa; rw [if_pos h]
theorem itoa_pos' {z : Int} (h : 0 ≤ z) : itoa z = decDigits z.natAbs := by
  unfold itoa
  rw [if_neg (by omega), show z.toNat = z.natAbs by omega]

theorem itoa_sign (z : Int) : hasPrefix (itoa z) [45] = decide (z < 0) ∧ unsign (itoa z) = decDigits z.natAbs := by
  by_cases h : z < 0
  · rw [itoa_neg' h, decide_eq_true h]; exact unsign_neg _
  · rw [itoa_pos' (by omega), decide_eq_false h]; exact unsign_pos (dec_all _)

theorem numZ_itoa (z : Int) : numZ (itoa z) = z := by
  unfold numZ
  rw [(itoa_sign z).1, (itoa_sign z).2, dec_val, zOf_can]

theorem dec_48 {n : Nat} : (decDigits n).head? ≠ some 48 ∨ decDigits n = [48] := by
  rcases Nat.eq_zero_or_pos n with h | h
  · subst h; right; rw [decDigits_one (by omega)]; rfl
  · exact .inl (dec_head n h)

theorem numB_itoa (z : Int) : numB (itoa z) = true := by
  rw [numB_iff, (itoa_sign z).2]
  refine ⟨dec_ne _, dec_all _, ?_⟩
  by_cases h : z < 0
  · exact .inl (dec_head _ (by omega))
  · rw [itoa_pos' (by omega)]; exact dec_48

theorem numB_digits {l : List UInt8} (h : numB l = true) : decDigits (digVal (unsign l)) = unsign l := by
  obtain ⟨h1, h2, h3⟩ := numB_iff.1 h
  refine dec_of_digVal ((unsign l).length - 1) _ (by have := List.length_pos_iff.2 h1; omega) h2 ?_
  rcases h3 with h3 | h3
  · exact .inl h3
  · subst h3; exact .inr rfl

/-- no number's text has a sign before 0 -/
theorem numB_pos {l : List UInt8} (h : numB l = true) (hm : hasPrefix l [45] = true) : 0 < digVal (unsign l) := by
  have h0 := numB_digits h
  obtain ⟨h1, h2, h3⟩ := numB_iff.1 h
  rcases Nat.eq_zero_or_pos (digVal (unsign l)) with h4 | h4
  · rw [h4, decDigits_one (by omega)] at h0
    rcases h3 with h3 | h3
    · rw [← h0] at h3; exact absurd rfl h3
    · subst h3; exact absurd hm (by decide)
  · exact h4

theorem numB_sign {l : List UInt8} (h : numB l = true) : hasPrefix l [45] = decide (numZ l < 0) := by
  unfold numZ
  rw [zOf_neg]
  cases hm : hasPrefix l [45] with
  | false => rfl
  | true => have := numB_pos h hm; simp [this]

theorem numZ_abs (l : List UInt8) : (numZ l).natAbs = digVal (unsign l) := zOf_abs _ _

theorem itoa_numZ {l : List UInt8} (h : numB l = true) : itoa (numZ l) = l := by
  have h0 := numB_digits h
  have hs := numB_sign h
  rcases minus_cases l with ⟨r, rfl⟩ | ⟨hm, hu⟩
  · rw [(unsign_neg r).1] at hs
    have h1 : numZ (45 :: r) < 0 := of_decide_eq_true hs.symm
    rw [itoa_neg' h1, numZ_abs, h0, (unsign_neg r).2]
  · rw [hm] at hs
    have h1 := of_decide_eq_false hs.symm
    rw [itoa_pos' (by omega), numZ_abs, h0, hu]

theorem itoa_inj {x y : Int} (h : itoa x = itoa y) : x = y := by rw [← numZ_itoa x, h, numZ_itoa]

theorem itoa_ne_iff (x y : Int) : decide (itoa x = itoa y) = decide (x = y) := by
  rw [decide_eq_decide]; exact ⟨itoa_inj, fun h => by rw [h]⟩

theorem bd_digits {z : Int} {k : Nat} (h : Bd z k) : nDigits z.natAbs ≤ 10 * k + 1 := by
  refine nDigits_le (10 * k) _ ?_
  unfold Bd at h
  refine Nat.lt_of_lt_of_le h ?_
  rw [Nat.pow_succ, Nat.pow_mul]
  exact Nat.le_trans (Nat.pow_le_pow_left (show 4294967296 ≤ 10 ^ 10 by decide) k) (Nat.le_mul_of_pos_right _ (by omega))

theorem itoa_len {z : Int} {k : Nat} (h : Bd z k) : (itoa z).length ≤ 10 * k + 2 := by
  have h1 := bd_digits h
  by_cases hz : z < 0
  · rw [itoa_neg' hz, List.length_cons, decDigits_length]; omega
  · rw [itoa_pos' (by omega), decDigits_length]; omega

theorem itoa_zero : itoa 0 = [48] := by rw [itoa_pos' (by omega)]; exact decDigits_one (by omega)

theorem itoa_times {z : Int} (h : z ≠ 0) (k : Nat) : itoa (z * 10 ^ k) = itoa z ++ List.replicate k 48 := by
  have hp : (0 : Int) < 10 ^ k := Int.pow_pos (by omega)
  have ha : (z * 10 ^ k).natAbs = z.natAbs * 10 ^ k := by
    rw [Int.natAbs_mul, Int.natAbs_pow]; rfl
  by_cases hz : z < 0
  · have h1 : z * 10 ^ k < 0 := Int.mul_neg_of_neg_of_pos hz hp
    rw [itoa_neg' hz, itoa_neg' h1, ha, dec_times _ _ (by omega)]; rfl
  · have h1 : 0 ≤ z * 10 ^ k := Int.mul_nonneg (by omega) (by omega)
    rw [itoa_pos' h1, itoa_pos' (show 0 ≤ z by omega), ha, dec_times _ _ (by omega)]

/-- a text with its sign put ahead of its digits -/
theorem num_minus {z : Int} (h : z ≠ 0) : numB (45 :: decDigits z.natAbs) = true ∧ numZ (45 :: decDigits z.natAbs) = -(z.natAbs : Int) := by
  have e : (45 : UInt8) :: decDigits z.natAbs = itoa (-(z.natAbs : Int)) := by
    rw [itoa_neg' (by omega)]; simp
  rw [e]
  exact ⟨numB_itoa _, numZ_itoa _⟩

theorem num_plain (n : Nat) : numB (decDigits n) = true ∧ numZ (decDigits n) = (n : Int) := by
  have e : decDigits n = itoa (n : Int) := by rw [itoa_pos' (by omega)]; simp
  rw [e]
  exact ⟨numB_itoa _, numZ_itoa _⟩

theorem str_add {P : Program} (W : World) (x y : List UInt8) (h : x.length + y.length ≤ 9223372036854775807) : (Op.stringOp .add ⟨x.toArray⟩ ⟨y.toArray⟩).run P W = .ok (.string ⟨(x ++ y).toArray⟩) W := by
  rw [run_string_add_sum W _ _ (by simpa [ByteArray.size] using h), ByteArray.mk_append_mk]

end Go.Proofs.YteceomlbnajihaaGreatDoor

/- What the shelf's contracts of strings.CutPrefix, strconv.ParseUint and of internal/strconv's digits ask of this program. -/
namespace Go.Proofs.YteceomlbnajihaaGreatDoor
open Go.Shelf
def Tryz.lays103_ren : Go.Shelf.Ren := ⟨fun | 103 => 90 | 206 => 132 | 210 => 114 | n => n, fun | 3 => 3 | 4 => 4 | 9 => 9 | 24 => 107 | n => n, fun n => n⟩
theorem Tryz.lays103 : Go.Proofs.Lays.n103 Tryz.prog Tryz.lays103_ren := {
  mixed := by kernel_rfl
  f103 := Tryz.func90.trans (congrArg some (by kernel_rfl))
  f206 := Tryz.func132.trans (congrArg some (by kernel_rfl))
  f210 := Tryz.func114.trans (congrArg some (by kernel_rfl))
  t3 := Tryz.underlying3
  a3 := Tryz.isAgg3
  z3 := Tryz.sizeOf3
  v3 := Tryz.zeroValue3
  t4 := Tryz.underlying4
  a4 := Tryz.isAgg4
  z4 := Tryz.sizeOf4
  v4 := Tryz.zeroValue4
  t9 := Tryz.underlying9
  a9 := Tryz.isAgg9
  z9 := Tryz.sizeOf9
  v9 := Tryz.zeroValue9
  t24 := Tryz.underlying107
  a24 := Tryz.isAgg107
  z24 := Tryz.sizeOf107
  v24 := Tryz.zeroValue107 }
def Tryz.laysPu14_ren : Go.Shelf.Ren := ⟨fun | 14 => 115 | 16 => 133 | 17 => 134 | 19 => 152 | 20 => 153 | 21 => 154 | 22 => 155 | 23 => 156 | 24 => 157 | 25 => 165 | 26 => 166 | 27 => 167 | 28 => 171 | 29 => 172 | 30 => 146 | 31 => 147 | 32 => 148 | 33 => 149 | 34 => 160 | 35 => 161 | 36 => 162 | 37 => 163 | 38 => 164 | 39 => 169 | 40 => 170 | n => n, fun | 0 => 0 | 2 => 2 | 3 => 3 | 4 => 4 | 5 => 5 | 9 => 9 | 20 => 20 | 21 => 21 | 22 => 87 | 24 => 136 | 25 => 137 | 34 => 167 | 36 => 130 | 37 => 104 | 39 => 169 | 44 => 178 | 47 => 180 | 48 => 181 | 50 => 183 | 52 => 161 | 55 => 164 | 59 => 173 | 60 => 79 | 61 => 174 | 65 => 184 | 66 => 185 | 67 => 187 | n => n, fun | 0 => 3 | 1 => 4 | 2 => 2 | 3 => 5 | 4 => 6 | n => n⟩
theorem Tryz.laysPu14 : Go.Proofs.LaysPu.n14 Tryz.prog Tryz.laysPu14_ren := {
  mixed := by kernel_rfl
  f14 := Tryz.func115.trans (congrArg some (by kernel_rfl))
  f16 := Tryz.func133.trans (congrArg some (by kernel_rfl))
  f17 := Tryz.func134.trans (congrArg some (by kernel_rfl))
  f19 := Tryz.func152.trans (congrArg some (by kernel_rfl))
  f20 := Tryz.func153.trans (congrArg some (by kernel_rfl))
  f21 := Tryz.func154.trans (congrArg some (by kernel_rfl))
  f22 := Tryz.func155.trans (congrArg some (by kernel_rfl))
  f23 := Tryz.func156.trans (congrArg some (by kernel_rfl))
  f24 := Tryz.func157.trans (congrArg some (by kernel_rfl))
  f25 := Tryz.func165.trans (congrArg some (by kernel_rfl))
  f26 := Tryz.func166.trans (congrArg some (by kernel_rfl))
  f27 := Tryz.func167.trans (congrArg some (by kernel_rfl))
  f28 := Tryz.func171.trans (congrArg some (by kernel_rfl))
  f29 := Tryz.func172.trans (congrArg some (by kernel_rfl))
  f30 := Tryz.func146.trans (congrArg some (by kernel_rfl))
  f31 := Tryz.func147.trans (congrArg some (by kernel_rfl))
  f32 := Tryz.func148.trans (congrArg some (by kernel_rfl))
  f33 := Tryz.func149.trans (congrArg some (by kernel_rfl))
  f34 := Tryz.func160.trans (congrArg some (by kernel_rfl))
  f35 := Tryz.func161.trans (congrArg some (by kernel_rfl))
  f36 := Tryz.func162.trans (congrArg some (by kernel_rfl))
  f37 := Tryz.func163.trans (congrArg some (by kernel_rfl))
  f38 := Tryz.func164.trans (congrArg some (by kernel_rfl))
  f39 := Tryz.func169.trans (congrArg some (by kernel_rfl))
  f40 := Tryz.func170.trans (congrArg some (by kernel_rfl))
  t0 := Tryz.underlying0
  a0 := Tryz.isAgg0
  z0 := Tryz.sizeOf0
  v0 := Tryz.zeroValue0
  i0 := by kernel_rfl
  t2 := Tryz.underlying2
  a2 := Tryz.isAgg2
  z2 := Tryz.sizeOf2
  v2 := Tryz.zeroValue2
  i2 := by kernel_rfl
  t3 := Tryz.underlying3
  a3 := Tryz.isAgg3
  z3 := Tryz.sizeOf3
  v3 := Tryz.zeroValue3
  i3 := by kernel_rfl
  t4 := Tryz.underlying4
  a4 := Tryz.isAgg4
  z4 := Tryz.sizeOf4
  v4 := Tryz.zeroValue4
  i4 := by kernel_rfl
  t5 := Tryz.underlying5
  a5 := Tryz.isAgg5
  z5 := Tryz.sizeOf5
  v5 := Tryz.zeroValue5
  i5 := by kernel_rfl
  t9 := Tryz.underlying9
  a9 := Tryz.isAgg9
  z9 := Tryz.sizeOf9
  v9 := Tryz.zeroValue9
  i9 := by kernel_rfl
  t20 := Tryz.underlying20
  a20 := Tryz.isAgg20
  z20 := Tryz.sizeOf20
  v20 := Tryz.zeroValue20
  i20 := by kernel_rfl
  t21 := Tryz.underlying21
  a21 := Tryz.isAgg21
  z21 := Tryz.sizeOf21
  v21 := Tryz.zeroValue21
  i21 := by kernel_rfl
  t22 := Tryz.underlying87
  a22 := Tryz.isAgg87
  z22 := Tryz.sizeOf87
  v22 := Tryz.zeroValue87
  i22 := by kernel_rfl
  t24 := Tryz.underlying136
  a24 := Tryz.isAgg136
  z24 := Tryz.sizeOf136
  v24 := Tryz.zeroValue136
  i24 := by kernel_rfl
  t25 := Tryz.underlying137
  a25 := Tryz.isAgg137
  z25 := Tryz.sizeOf137
  v25 := Tryz.zeroValue137
  i25 := by kernel_rfl
  t34 := Tryz.underlying167
  a34 := Tryz.isAgg167
  z34 := Tryz.sizeOf167
  v34 := Tryz.zeroValue167
  i34 := by kernel_rfl
  c34 := by kernel_rfl
  t36 := Tryz.underlying130
  a36 := Tryz.isAgg130
  z36 := Tryz.sizeOf130
  v36 := Tryz.zeroValue130
  i36 := by kernel_rfl
  t37 := Tryz.underlying104
  a37 := Tryz.isAgg104
  z37 := Tryz.sizeOf104
  v37 := Tryz.zeroValue104
  i37 := by kernel_rfl
  t39 := Tryz.underlying169
  a39 := Tryz.isAgg169
  z39 := Tryz.sizeOf169
  v39 := Tryz.zeroValue169
  i39 := by kernel_rfl
  t44 := Tryz.underlying178
  a44 := Tryz.isAgg178
  z44 := Tryz.sizeOf178
  v44 := Tryz.zeroValue178
  i44 := by kernel_rfl
  t47 := Tryz.underlying180
  a47 := Tryz.isAgg180
  z47 := Tryz.sizeOf180
  v47 := Tryz.zeroValue180
  i47 := by kernel_rfl
  t48 := Tryz.underlying181
  a48 := Tryz.isAgg181
  z48 := Tryz.sizeOf181
  v48 := Tryz.zeroValue181
  i48 := by kernel_rfl
  t50 := Tryz.underlying183
  a50 := Tryz.isAgg183
  z50 := Tryz.sizeOf183
  v50 := Tryz.zeroValue183
  i50 := by kernel_rfl
  t52 := Tryz.underlying161
  a52 := Tryz.isAgg161
  z52 := Tryz.sizeOf161
  v52 := Tryz.zeroValue161
  i52 := by kernel_rfl
  t55 := Tryz.underlying164
  a55 := Tryz.isAgg164
  z55 := Tryz.sizeOf164
  v55 := Tryz.zeroValue164
  i55 := by kernel_rfl
  t59 := Tryz.underlying173
  a59 := Tryz.isAgg173
  z59 := Tryz.sizeOf173
  v59 := Tryz.zeroValue173
  i59 := by kernel_rfl
  t60 := Tryz.underlying79
  a60 := Tryz.isAgg79
  z60 := Tryz.sizeOf79
  v60 := Tryz.zeroValue79
  i60 := by kernel_rfl
  t61 := Tryz.underlying174
  a61 := Tryz.isAgg174
  z61 := Tryz.sizeOf174
  t65 := Tryz.underlying184
  a65 := Tryz.isAgg184
  z65 := Tryz.sizeOf184
  v65 := Tryz.zeroValue184
  i65 := by kernel_rfl
  t66 := Tryz.underlying185
  a66 := Tryz.isAgg185
  z66 := Tryz.sizeOf185
  v66 := Tryz.zeroValue185
  i66 := by kernel_rfl
  t67 := Tryz.underlying187
  a67 := Tryz.isAgg187
  z67 := Tryz.sizeOf187
  v67 := Tryz.zeroValue187
  i67 := by kernel_rfl
  g0 := by kernel_rfl
  m0 := by kernel_rfl
  g1 := by kernel_rfl
  m1 := by kernel_rfl
  g2 := by kernel_rfl
  m2 := by kernel_rfl
  g3 := by kernel_rfl
  m3 := by kernel_rfl
  g4 := by kernel_rfl
  m4 := by kernel_rfl }
def Tryz.lays283_ren : Go.Shelf.Ren := ⟨fun | 283 => 146 | n => n, fun | 3 => 3 | 4 => 4 | 9 => 9 | n => n, fun n => n⟩
theorem Tryz.lays283 : Go.Proofs.Lays.n283 Tryz.prog Tryz.lays283_ren := {
  mixed := by kernel_rfl
  f283 := Tryz.func146.trans (congrArg some (by kernel_rfl))
  t3 := Tryz.underlying3
  a3 := Tryz.isAgg3
  z3 := Tryz.sizeOf3
  v3 := Tryz.zeroValue3
  t4 := Tryz.underlying4
  a4 := Tryz.isAgg4
  z4 := Tryz.sizeOf4
  v4 := Tryz.zeroValue4
  t9 := Tryz.underlying9
  a9 := Tryz.isAgg9
  z9 := Tryz.sizeOf9
  v9 := Tryz.zeroValue9 }
def Tryz.laysM284_ren : Go.Shelf.Ren := ⟨fun | 129 => 161 | 284 => 147 | 317 => 160 | 318 => 162 | n => n, fun | 0 => 0 | 3 => 3 | 4 => 4 | 5 => 5 | 9 => 9 | 46 => 130 | 53 => 87 | 212 => 173 | n => n, fun | 17 => 2 | n => n⟩
theorem Tryz.laysM284 : Go.Proofs.LaysM.n284 Tryz.prog Tryz.laysM284_ren := {
  mixed := by kernel_rfl
  f129 := Tryz.func161.trans (congrArg some (by kernel_rfl))
  f284 := Tryz.func147.trans (congrArg some (by kernel_rfl))
  f317 := Tryz.func160.trans (congrArg some (by kernel_rfl))
  f318 := Tryz.func162.trans (congrArg some (by kernel_rfl))
  t0 := Tryz.underlying0
  a0 := Tryz.isAgg0
  z0 := Tryz.sizeOf0
  v0 := Tryz.zeroValue0
  t3 := Tryz.underlying3
  a3 := Tryz.isAgg3
  z3 := Tryz.sizeOf3
  v3 := Tryz.zeroValue3
  t4 := Tryz.underlying4
  a4 := Tryz.isAgg4
  z4 := Tryz.sizeOf4
  v4 := Tryz.zeroValue4
  t5 := Tryz.underlying5
  a5 := Tryz.isAgg5
  z5 := Tryz.sizeOf5
  v5 := Tryz.zeroValue5
  t9 := Tryz.underlying9
  a9 := Tryz.isAgg9
  z9 := Tryz.sizeOf9
  v9 := Tryz.zeroValue9
  t46 := Tryz.underlying130
  a46 := Tryz.isAgg130
  z46 := Tryz.sizeOf130
  v46 := Tryz.zeroValue130
  t53 := Tryz.underlying87
  a53 := Tryz.isAgg87
  z53 := Tryz.sizeOf87
  v53 := Tryz.zeroValue87
  t212 := Tryz.underlying173
  a212 := Tryz.isAgg173
  z212 := Tryz.sizeOf173
  v212 := Tryz.zeroValue173
  g17 := by kernel_rfl
  i0 := by kernel_rfl
  i3 := by kernel_rfl
  i4 := by kernel_rfl
  i5 := by kernel_rfl
  i9 := by kernel_rfl
  i46 := by kernel_rfl
  i53 := by kernel_rfl
  i212 := by kernel_rfl
  m17 := by kernel_rfl }
def Tryz.lays285_ren : Go.Shelf.Ren := ⟨fun | 285 => 148 | n => n, fun | 0 => 0 | 3 => 3 | 4 => 4 | 5 => 5 | 9 => 9 | 37 => 104 | 51 => 79 | 53 => 87 | n => n, fun n => n⟩
theorem Tryz.lays285 : Go.Proofs.Lays.n285 Tryz.prog Tryz.lays285_ren := {
  mixed := by kernel_rfl
  f285 := Tryz.func148.trans (congrArg some (by kernel_rfl))
  t0 := Tryz.underlying0
  a0 := Tryz.isAgg0
  z0 := Tryz.sizeOf0
  v0 := Tryz.zeroValue0
  t3 := Tryz.underlying3
  a3 := Tryz.isAgg3
  z3 := Tryz.sizeOf3
  v3 := Tryz.zeroValue3
  t4 := Tryz.underlying4
  a4 := Tryz.isAgg4
  z4 := Tryz.sizeOf4
  v4 := Tryz.zeroValue4
  t5 := Tryz.underlying5
  a5 := Tryz.isAgg5
  z5 := Tryz.sizeOf5
  v5 := Tryz.zeroValue5
  t9 := Tryz.underlying9
  a9 := Tryz.isAgg9
  z9 := Tryz.sizeOf9
  v9 := Tryz.zeroValue9
  t37 := Tryz.underlying104
  a37 := Tryz.isAgg104
  z37 := Tryz.sizeOf104
  v37 := Tryz.zeroValue104
  t51 := Tryz.underlying79
  a51 := Tryz.isAgg79
  z51 := Tryz.sizeOf79
  v51 := Tryz.zeroValue79
  t53 := Tryz.underlying87
  a53 := Tryz.isAgg87
  z53 := Tryz.sizeOf87
  v53 := Tryz.zeroValue87 }
end Go.Proofs.YteceomlbnajihaaGreatDoor

/- The library's functions that write and read numbers, cut off a sign, repeat a string: contracts at this program. -/
namespace Go.Proofs.YteceomlbnajihaaGreatDoor
open Go.RowKit Go.Sort Go.Lib

/-- The library's table of powers of ten reads as its own text lays it. -/
def Tab (w : World) : Prop := Lib.TabIs Tryz.prog w ((Tryz.progGlobals[2]?.map (·.name)).getD default) .u64 Lib.pow10Tab

theorem Tab.below {w w' : World} (h : Tab w) (hb : Below w.heap.size w w') : Tab w' := Lib.tabBelow_of_tabIs h w' hb

theorem small_str (i : Nat) (h : i < 100) (w : World) :
    Calls Tryz.prog 146 #[.int .i64 (i : Int)] w fun e w' => e = .returned (.string ⟨(decDigits i).toArray⟩) ∧ w' = w := Any.internal_strconv_small Tryz.lays283 i h w

theorem numDigits_any (u : Nat) (h1 : 1 ≤ u) (h2 : u < 18446744073709551616) (w : World) (ht : Tab w) :
    Calls Tryz.prog 147 #[.int .u64 (u : Int)] w fun e w' => e = .returned (.int .i64 ((nDigits u : Nat) : Int)) ∧ w' = w := Any.internal_strconv_numDigits Tryz.laysM284 u h1 h2 w ht

theorem base10_any (blk off cap u : Nat) (d : Array UInt8) (w : World) (hH : Holds (fun (b : UInt8) => Value.int .u8 (b.toNat : Int)) w blk off d) (hu : u < 10 ^ d.size) (hu64 : u < 18446744073709551616) (hsz : d.size < 4611686018427387904) :
    Calls Tryz.prog 148 #[.slice (some ⟨blk, off, none⟩) d.size cap, .int .u64 (u : Int)] w fun e w' =>
      e = .returned (.tuple #[]) ∧ ∃ (n v' : Nat) (dk : Array UInt8), w' = (putRow (fun (b : UInt8) => Value.int .u8 (b.toNat : Int)) w blk off dk).drewN n ∧ FmtInv d.size u 0 v' dk := Any.internal_strconv_formatBase10 Tryz.lays285 blk off cap u d w hH hu hu64 hsz

set_option maxHeartbeats 1000000 in
theorem fmt_small (u : Nat) (hs : u < 100) (w : World) :
    Calls Tryz.prog 125 #[.int .u64 (u : Int), .int .i64 10] w (RetB (.string ⟨(decDigits u).toArray⟩) w) := by
  have h1 : ((u : Nat) : Int) < 100 := by omega
  go_enter Tryz.func125, Tryz.ntmps125
  go_wp2_with (go_at_call 146; refine (small_str u hs _).mono ?_; rintro e w' ⟨rfl, rfl⟩)
  go_ret
  exact ⟨rfl, Below.refl _ _⟩

set_option maxHeartbeats 1000000 in
theorem fmt_big (u : Nat) (hu : 100 ≤ u) (hu64 : u < 18446744073709551616) (w : World) (htab : Tab w) :
    Calls Tryz.prog 125 #[.int .u64 (u : Int), .int .i64 10] w (RetB (.string ⟨(decDigits u).toArray⟩) w) := by
  have iu : ¬ ((u : Nat) : Int) < 100 := by omega
  have hu1 : 1 ≤ u := by omega
  have hnd20 : nDigits u ≤ 20 := by have := numDigits_eq u hu1 hu64; split at this <;> omega
  have hal : Tryz.prog.arrayLen 161 = 24 := by simp [Program.arrayLen, Tryz.underlying161]
  have hsl : ∀ W, (Instr.sliceAt 161 (.pointer (some ⟨w.heap.size, 0, none⟩)) none (some (.int .i64 ((nDigits u : Nat) : Int))) none).run Tryz.prog W = .ok (.slice (some ⟨w.heap.size, 0, none⟩) (nDigits u) 24) W := fun W => by
    rw [run_sliceAt_array_h W 161 ⟨w.heap.size, 0, none⟩ (by simp [Program.arrayLen, Program.elem, Tryz.underlying161]) .i64 ((nDigits u : Nat) : Int) (by omega) (by rw [hal]; omega)]
    go_simp
  have hH0 := holds_zero0 w 161 (nDigits u) (by omega)
  have hfmt := base10_any w.heap.size 0 24 u (Array.replicate (nDigits u) 0) (w.alloc (.cells zeros24 161)) hH0 (by rw [Array.size_replicate]; exact lt_pow_nDigits u) hu64 (by rw [Array.size_replicate]; omega)
  rw [Array.size_replicate] at hfmt
  have HH0 := Lib.hid hH0
  have HT := Lib.hid htab
  clear hH0 hal htab
  go_enter Tryz.func125, Tryz.ntmps125
  go_wp2_with (go_at_call 147; refine (numDigits_any u hu1 hu64 _ (Lib.tabIs_alloc HT.out _)).mono ?_; rintro e w' ⟨rfl, rfl⟩)
  refine hfmt.mono ?_
  rintro e w' ⟨rfl, k, v', dk, rfl, hF⟩
  have hcv : (convert 104 9 (.slice (some ⟨w.heap.size, 0, none⟩) (nDigits u) 24)).run Tryz.prog ((putRow (fun (b : UInt8) => Value.int .u8 (b.toNat : Int)) (w.alloc (.cells zeros24 161)) w.heap.size 0 dk).drewN k) = .ok (.string ⟨(decDigits u).toArray⟩) ((putRow (fun (b : UInt8) => Value.int .u8 (b.toNat : Int)) (w.alloc (.cells zeros24 161)) w.heap.size 0 dk).drewN k) := by
    have h := run_convert_bytes_back (P := Tryz.prog) ((putRow (fun (b : UInt8) => Value.int .u8 (b.toNat : Int)) (w.alloc (.cells zeros24 161)) w.heap.size 0 dk).drewN k) 104 9 5 ⟨w.heap.size, 0, none⟩ 24 (decDigits u) Tryz.underlying104 Tryz.underlying5 Tryz.underlying9 (fun j hj => by
      rw [row_is_numeral hF j hj, Lib.add_plain, World.cell?_drewN]
      exact cell?_putRow (fun (b : UInt8) => Value.int .u8 (b.toNat : Int)) _ w.heap.size 0 _ dk HH0.out (by rw [hF.size, Array.size_replicate]) j (by rw [hF.size]; rw [decDigits_length] at hj; exact hj))
    rw [decDigits_length] at h
    exact h
  obtain ⟨os, eo⟩ := Lib.fin_at w (.cells zeros24 161) dk k 0
  have hnx : Hid (Below w.heap.size w ((putRow (fun (b : UInt8) => Value.int .u8 (b.toNat : Int)) (w.alloc (.cells zeros24 161)) w.heap.size 0 dk).drewN k)) := by rw [eo]; exact Lib.below_grow _ w (Nat.le_refl _) k os
  generalize (putRow (fun (b : UInt8) => Value.int .u8 (b.toNat : Int)) (w.alloc (.cells zeros24 161)) w.heap.size 0 dk).drewN k = W2 at hcv hnx ⊢
  clear eo HH0 hF
  go_wp2_with fail
  go_ret
  exact ⟨rfl, hnx.out⟩

theorem fmt_in (u : Nat) (hu : u < 18446744073709551616) (w : World) (ht : Tab w) :
    Calls Tryz.prog 125 #[.int .u64 (u : Int), .int .i64 10] w (RetB (.string ⟨(decDigits u).toArray⟩) w) := by
  rcases Nat.lt_or_ge u 100 with h | h
  · exact fmt_small u h w
  · exact fmt_big u h hu w ht

theorem fmt_any (u : Nat) (hu : u < 18446744073709551616) (w : World) (ht : Tab w) :
    Calls Tryz.prog 110 #[.int .u64 (u : Int), .int .i64 10] w (RetB (.string ⟨(decDigits u).toArray⟩) w) := by
  have HT := Lib.hid ht
  clear ht
  go_enter Tryz.func110, Tryz.ntmps110
  go_wp2_with fail
  refine (fmt_in u hu _ HT.out).mono ?_
  rintro e w' ⟨rfl, hB⟩
  go_wp2_with fail
  go_ret
  exact ⟨rfl, hB⟩

theorem cut_prefix (s p : ByteArray) (w : World) :
    Calls Tryz.prog 90 #[.string s, .string p] w fun e w' => e = .returned (.tuple #[.string ⟨(Lib.trimPrefix s.data.toList p.data.toList).toArray⟩, .bool (Lib.hasPrefix s.data.toList p.data.toList)]) ∧ w' = w := Any.strings_CutPrefix Tryz.lays103 s p w

/-- the text without its sign, and whether it had one -/
theorem cut_sign (s : ByteArray) (w : World) :
    Calls Tryz.prog 90 #[.string s, .string ⟨#[45]⟩] w fun e w' => e = .returned (.tuple #[.string ⟨(unsign s.data.toList).toArray⟩, .bool (hasPrefix s.data.toList [45])]) ∧ w' = w := cut_prefix s ⟨#[45]⟩ w

theorem parse_u32 (s : ByteArray) (hs : s.size ≤ 9) (h0 : 0 < s.size) (ha : allDig s.data.toList = true) (w : World) :
    Calls Tryz.prog 115 #[.string s, .int .i64 10, .int .i64 32] w (RetB (.tuple #[.int .u64 ((digVal s.data.toList : Nat) : Int), .nilIface]) w) := by
  have e : s.data.toList.length = s.size := (Lib.size_eq s).symm
  have hp : parseUintB 32 s.data.toList = .ok (digVal s.data.toList) := parse9_ok ha (fun h => by rw [h] at e; simp at e; omega) (by omega)
  refine Calls.mono (Any.strconv_ParseUint_10_at32_ok Tryz.laysPu14 s (by omega) _ hp w) ?_
  rintro e w' ⟨rfl, rfl | rfl⟩
  · exact ⟨rfl, Below.refl _ _⟩
  · exact ⟨rfl, Lib.bytesWorld_below _ _ _⟩

end Go.Proofs.YteceomlbnajihaaGreatDoor

/- What the shelf's contracts of strings.Repeat and math/bits.Mul ask of this program. -/
namespace Go.Proofs.YteceomlbnajihaaGreatDoor
open Go.Shelf
def Tryz.lays212_ren : Go.Shelf.Ren := ⟨fun | 212 => 111 | 263 => 126 | 264 => 127 | n => n, fun | 46 => 130 | 51 => 79 | 53 => 87 | 146 => 113 | 148 => 147 | n => n, fun n => n⟩
theorem Tryz.lays212 : Go.Proofs.Lays.n212 Tryz.prog Tryz.lays212_ren := {
  mixed := by kernel_rfl
  f212 := Tryz.func111.trans (congrArg some (by kernel_rfl))
  f263 := Tryz.func126.trans (congrArg some (by kernel_rfl))
  f264 := Tryz.func127.trans (congrArg some (by kernel_rfl))
  t46 := Tryz.underlying130
  a46 := Tryz.isAgg130
  z46 := Tryz.sizeOf130
  v46 := Tryz.zeroValue130
  t51 := Tryz.underlying79
  a51 := Tryz.isAgg79
  z51 := Tryz.sizeOf79
  v51 := Tryz.zeroValue79
  t53 := Tryz.underlying87
  a53 := Tryz.isAgg87
  z53 := Tryz.sizeOf87
  v53 := Tryz.zeroValue87
  t146 := Tryz.underlying113
  a146 := Tryz.isAgg113
  z146 := Tryz.sizeOf113
  v146 := Tryz.zeroValue113
  t148 := Tryz.underlying147
  a148 := Tryz.isAgg147
  z148 := Tryz.sizeOf147
  v148 := Tryz.zeroValue147 }
end Go.Proofs.YteceomlbnajihaaGreatDoor

/- The contract of bytes.Repeat, of one byte. -/
namespace Go.Proofs.YteceomlbnajihaaGreatDoor
open Go.RowKit

theorem Tryz.size_u8 : (Tryz.prog.info? 5).map (·.size) = some 1 := by kernel_rfl

theorem bmul_one (n : Nat) (hn : n < 18446744073709551616) (w : World) :
    Calls Tryz.prog 111 #[.int .u64 1, .int .u64 (n : Int)] w fun e w' => e = .returned (.tuple #[.int .u64 0, .int .u64 (n : Int)]) ∧ w = w' := by
  have h := Any.bits_Mul Tryz.lays212 1 n (by omega) hn w
  rw [Nat.one_mul, Nat.div_eq_of_lt hn, Nat.mod_eq_of_lt hn] at h
  exact h.mono fun _ _ h => ⟨h.1, h.2.symm⟩

/-- A block whose first k cells are the byte c. -/
def Filled (w : World) (g n k : Nat) (c : UInt8) : Prop :=
  ∃ cur : List Value, w.heap[g]? = some (.cells cur.toArray 5 (0, 0)) ∧ n ≤ cur.length ∧ ∀ j, j < k → cur[j]? = some (.int .u8 (c.toNat : Int))

/-- What a call leaves that answers a slice of n times the byte c, in a block of its own. -/
def NewFill (w : World) (n : Nat) (c : UInt8) (e : Ending) (w' : World) : Prop :=
  ∃ g, e = .returned (.slice (some ⟨g, 0, none⟩) n n) ∧ w.heap.size ≤ g ∧ Filled w' g n n c ∧ Below w.heap.size w w'

theorem splice_fill {cur : List Value} {k m : Nat} {c : UInt8} (h : ∀ j, j < k → cur[j]? = some (.int .u8 (c.toNat : Int))) (hk : k + m ≤ cur.length) :
    (splice cur k (List.replicate m (.int .u8 (c.toNat : Int)))).length = cur.length ∧ ∀ j, j < k + m → (splice cur k (List.replicate m (.int .u8 (c.toNat : Int))))[j]? = some (.int .u8 (c.toNat : Int)) := by
  unfold splice
  refine ⟨by simp; omega, fun j hj => ?_⟩
  by_cases h1 : j < k
  · rw [List.getElem?_append_left (by simp; omega), List.getElem?_take_of_lt h1, h j h1]
  · rw [List.getElem?_append_right (by simp; omega), List.length_take, Nat.min_eq_left (by omega), List.getElem?_append_left (by simp; omega), List.getElem?_replicate, if_pos (by omega)]

set_option maxHeartbeats 1000000 in
set_option maxRecDepth 100000 in
theorem brep_any (b o n : Nat) (c : UInt8) (w : World) (hc : w.cell? ⟨b, o, none⟩ = some (.int .u8 (c.toNat : Int))) (h0 : 0 < n) (hn : n ≤ 1000000000000) :
    Calls Tryz.prog 87 #[.slice (some ⟨b, o, none⟩) 1 1, .int .i64 (n : Int)] w (NewFill w n c) := by
  have e0 : (((n : Nat) : Int) == 0) = false := by simp; omega
  have i1 : (0 : Int) < ((n : Nat) : Int) := by omega
  have i2 : ((n : Nat) : Int) ≤ 1000000000000 := by omega
  obtain ⟨cs, hrun, hle, hmax⟩ := Lib.run_makeNoZero (P := Tryz.prog) w #[3] 104 5 Tryz.underlying104 n (by omega)
  have hcall : (callFunc 112 #[.int .i64 ((n : Nat) : Int)]).run Tryz.prog w = .ok (.value (.slice (some ⟨w.heap.size, 0, none⟩) n cs.size)) (w.drew.drew.alloc (.cells cs 5)) := by
    rw [run_callFunc_extern Tryz.func112 (by kernel_rfl) (by kernel_rfl) (by kernel_rfl) (e := Extern.BytealgMakeNoZero.makeNoZero #[3] #[104]) (by kernel_rfl), hrun]
    rfl
  clear hrun
  have HC := Lib.hid hc
  clear hc
  go_enter Tryz.func87, Tryz.ntmps87
  go_upto_if 42 with (first | (go_at_call 111; refine (bmul_one n (by omega) _).mono ?_; rintro e w' ⟨rfl, rfl⟩))
  go_cut [8] (fun s8 wx => w = wx ∧ ∃ m : Nat, 1 ≤ m ∧ m ≤ 1000000000000 ∧ s8 = .int .i64 (m : Int))
  case first =>
    go_wp2
    all_goals (go_meet; first | exact ⟨rfl, n, by omega, by omega, rfl⟩ | exact ⟨rfl, 8192, by omega, by omega, rfl⟩)
  case rest =>
    obtain ⟨rfl, m, hm1, hm2, rfl⟩ := hcut
    have HG : Hid (((w.alloc (.cells cs 5)).drew.drew).heap[w.heap.size]? = some (.cells cs.toList.toArray 5 (0, 0))) := by
      show (w.heap.push _)[w.heap.size]? = _
      rw [Array.getElem?_push_size, Array.toArray_toList]
    have HB : Hid (Below w.heap.size w ((w.alloc (.cells cs 5)).drew.drew)) := (((Below.refl _ _).alloc (Nat.le_refl _) _).drew).drew
    have hblt : b < w.heap.size := World.block_lt_of_cell? w _ HC.out
    have HS : Hid (0 < (List.replicate 1 (Value.int .u8 (c.toNat : Int))).length → some (⟨w.heap.size, 0, none⟩ : Addr) = some ⟨w.heap.size, 0, none⟩ ∧ ∃ ad, some (⟨b, o, none⟩ : Addr) = some ad ∧ ∀ j v, (List.replicate 1 (Value.int .u8 (c.toNat : Int)))[j]? = some v → ((w.alloc (.cells cs 5)).drew.drew).cell? (ad.add j) = some v) := by
      intro _
      refine ⟨rfl, _, rfl, fun j v hv => ?_⟩
      match j, hv with
      | 0, hv =>
        simp at hv
        subst hv
        exact (HB.out.cell (p := ⟨b, o, none⟩) hblt).trans HC.out
      | j + 1, hv => simp at hv
    have HL : Hid (n ≤ cs.toList.length) := by show _; rw [Array.length_toList]; exact hle
    have HN : Hid ((List.replicate 1 (Value.int .u8 (c.toNat : Int))).length = Nat.min 1 n) := by show _; rw [List.length_replicate]; exact (Nat.min_eq_left h0).symm
    have HT := Lib.hid (show 0 + (List.replicate 1 (Value.int .u8 (c.toNat : Int))).length ≤ cs.toList.length by rw [List.length_replicate]; have := HL.out; omega)
    have HO : Hid (∀ v ∈ List.replicate 1 (Value.int .u8 (c.toNat : Int)), v.oneCell' = true) := by intro v hv; rw [(List.mem_replicate.1 hv).2]; rfl
    clear hle hmax hblt
    go_wp2_with ((with_reducible refine wpList_copy_splice rfl (.tmp 58) (.tmp 59) 104 104 rfl 5 rfl Tryz.size_u8 _ _ _ _ _ _ rfl rfl w.heap.size 0 cs.toList 5 HG.out (List.replicate 1 (Value.int .u8 (c.toNat : Int))) HN.out HS.out HT.out HO.out w.heap.size w HB.out (Nat.le_refl _) ?_); intro w4 HG4 hb4)
    have HF : Hid (Filled w4 w.heap.size n 1 c) := by
      have h1 := splice_fill (cur := cs.toList) (k := 0) (m := 1) (c := c) (fun j hj => by omega) (by have := HL.out; omega)
      exact ⟨_, HG4.out, by rw [h1.1]; exact HL.out, fun j hj => h1.2 j (by omega)⟩
    have HB4 := Lib.hid hb4
    clear HG HB HS HL HG4 hb4 hcall HC HN HT HO
    go_loopg [10] (n - 1) (fun g s10 wx => ∃ k : Nat, 1 ≤ k ∧ k ≤ n ∧ s10 = .int .i64 (k : Int) ∧ Hid (n - k = g) ∧ Hid (Filled wx w.heap.size n k c) ∧ Hid (Below w.heap.size w wx))
    case atStart => exact ⟨1, Nat.le_refl _, h0, by simp, rfl, HF, HB4⟩
    case round =>
      clear HF HB4
      obtain ⟨k, hk1, hk2, rfl, HK, HF, HB⟩ := hrel
      by_cases hlt : k < n
      · obtain ⟨q, hq⟩ : ∃ q, q = min k m := ⟨_, rfl⟩
        obtain ⟨r, hr⟩ : ∃ r, r = min q (n - k) := ⟨_, rfl⟩
        obtain ⟨cur, hcur, hcl, hce⟩ := HF.out
        have hq1 : 1 ≤ q ∧ q ≤ k := by omega
        have hqn : ((q : Nat) : Int) ≤ ((n : Nat) : Int) := by omega
        have hr1 : 1 ≤ r ∧ k + r ≤ n ∧ r ≤ q := by omega
        have hmin : min ((k : Nat) : Int) ((m : Nat) : Int) = ((q : Nat) : Int) := by omega
        have hne : ¬ n = k := by omega
        have HC4 := Lib.hid hcur
        have HE := splice_fill (k := k) (m := r) hce (by omega)
        have HE1 : Hid (n ≤ (splice cur k (List.replicate r (.int .u8 (c.toNat : Int)))).length) := Nat.le_trans hcl (Nat.le_of_eq HE.1.symm)
        have HE2 := Lib.hid HE.2
        have HN := Lib.hid (show (List.replicate r (Value.int .u8 (c.toNat : Int))).length = Nat.min q (n - k) by rw [List.length_replicate]; exact hr)
        have HP : Hid (∀ j v, (List.replicate r (Value.int .u8 (c.toNat : Int)))[j]? = some v → wr.cell? ((⟨w.heap.size, 0, none⟩ : Addr).add j) = some v) := by
          intro j v hv
          have hj := (List.getElem?_eq_some_iff.1 hv).1
          rw [List.length_replicate] at hj
          rw [List.getElem?_replicate, if_pos hj] at hv
          cases hv
          rw [Addr.add_lit, Nat.zero_add, Lib.cell_of_heap hcur, List.getElem?_toArray, hce j (by omega)]
        have HT := Lib.hid (show k + (List.replicate r (Value.int .u8 (c.toNat : Int))).length ≤ cur.length by rw [List.length_replicate]; omega)
        have HO : Hid (∀ v ∈ List.replicate r (Value.int .u8 (c.toNat : Int)), v.oneCell' = true) := by intro v hv; rw [(List.mem_replicate.1 hv).2]; rfl
        have HR := Lib.hid hr1
        clear hr hq HE hcur hce hcl hr1 HF
        go_wp2_with fail
        refine wp_region_held_drew (S := fun _ => True) (by kernel_rfl) trivial (fun hH => ?_)
        refine anyH_world (fun w5 hW => ?_)
        have HC5 : Hid (w5.heap[w.heap.size]? = some (.cells cur.toArray 5 (0, 0))) := by rw [hW]; exact HC4.out
        have HB5 : Hid (Below w.heap.size w w5) := by rw [hW]; exact HB.out.drew
        have HP5 : Hid (∀ j v, (List.replicate r (Value.int .u8 (c.toNat : Int)))[j]? = some v → w5.cell? ((⟨w.heap.size, 0, none⟩ : Addr).add j) = some v) := by rw [hW]; exact HP.out
        clear hW HC4 HB HP
        refine step_on 0 rfl (by kernel_rfl) (fun _ _ _ h => h) (by rfl) hH (by intro w hS; go_simp <;> with_reducible rfl) ?_
        try simp only [nrm]
        refine step_on 1 rfl (by kernel_rfl) (fun _ _ _ h => h) (by rfl) hH (by intro w hS; go_simp <;> with_reducible rfl) ?_
        try simp only [nrm]
        refine step_on 2 rfl (by kernel_rfl) (fun _ _ _ h => h) (by rfl) hH (by intro w hS; go_simp <;> with_reducible rfl) ?_
        try simp only [nrm]
        refine step_on 3 rfl (by kernel_rfl) (fun _ _ _ h => h) (by rfl) hH (by intro w hS; go_simp <;> with_reducible rfl) ?_
        try simp only [nrm]
        refine step_on 4 rfl (by kernel_rfl) (fun _ _ _ h => h) (by rfl) hH (by intro w hS; go_simp <;> with_reducible rfl) ?_
        try simp only [nrm]
        refine step_on 5 rfl (by kernel_rfl) (fun _ _ _ h => h) (by rfl) hH (by intro w hS; go_simp <;> with_reducible rfl) ?_
        try simp only [nrm]
        refine step_on 6 rfl (by kernel_rfl) (fun _ _ _ h => h) (by rfl) hH (by intro w hS; go_simp <;> with_reducible rfl) ?_
        try simp only [nrm]
        refine step_one 7 rfl (by kernel_rfl) (fun K hK => ?_)
        refine step_copy_splice rfl (.tmp 70) (.tmp 73) 104 104 rfl 5 Tryz.underlying104 Tryz.size_u8 _ _ _ _ _ _ rfl rfl w.heap.size k cur 5 HC5.out (List.replicate r (Value.int .u8 (c.toNat : Int))) HN.out (fun _ => ⟨rfl, _, rfl, HP5.out⟩) HT.out HO.out w.heap.size w HB5.out (Nat.le_refl _) ?_
        intro w6 HG6 hb6
        refine hK.out _ _ trivial (fun h2 => ?_)
        clear hK K hH
        have hH := h2
        clear h2
        try simp only [nrm]
        have hlr : (List.replicate r (Value.int .u8 (c.toNat : Int))).length = r := List.length_replicate
        rw [hlr]
        have hr2 := HR.out
        have ib : ((k : Nat) : Int) + ((r : Nat) : Int) ≤ 1000000000000 := by omega
        clear hlr hr2
        refine step_on 8 rfl (by kernel_rfl) (fun _ _ _ h => h) (by rfl) hH (by intro w hS; go_simp <;> with_reducible rfl) ?_
        try simp only [nrm]
        refine step_on 9 rfl (by kernel_rfl) (fun _ _ _ h => h) (by rfl) hH (by intro w hS; go_simp <;> with_reducible rfl) ?_
        try simp only [nrm]
        refine wpAnyH_done (by kernel_rfl) ?_ _
        clear hH
        have hr3 := HR.out
        have HF6 : Hid (Filled w6 w.heap.size n (k + r) c) := ⟨_, HG6.out, HE1.out, HE2.out⟩
        have HB6 := Lib.hid hb6
        clear hr3 hb6
        have hwr : IntKind.i64.wrap (((k : Nat) : Int) + ((r : Nat) : Int)) = ((k + r : Nat) : Int) := by rw [IntKind.wrap_i64]; omega
        rw [hwr]
        clear hwr
        go_wp2_with fail
        go_roundg (n - (k + r))
        case measure => have := HR.out; have := HK.out; omega
        case rel => exact ⟨k + r, by have := HR.out; omega, HR.out.2.1, by go_num, rfl, HF6, HB6⟩
      · obtain rfl : k = n := by omega
        go_wp2_with fail
        go_ret
        exact ⟨_, rfl, Nat.le_refl _, HF.out, HB.out⟩

end Go.Proofs.YteceomlbnajihaaGreatDoor

/- Texts in memory: a block of bytes that reads as a text, a copy of a string into it. -/
namespace Go.Proofs.YteceomlbnajihaaGreatDoor
open Go.RowKit Go.Lib

/-- The first T cells of block g are the text l. -/
def TxtIs (w : World) (g T : Nat) (l : List UInt8) : Prop :=
  l.length = T ∧ ∃ cur : List Value, w.heap[g]? = some (.cells cur.toArray 5 (0, 0)) ∧ cur.take T = byteCells l

theorem TxtIs.of_fill {w : World} {g n : Nat} {c : UInt8} (h : Filled w g n n c) : TxtIs w g n (List.replicate n c) := by
  obtain ⟨cur, hc, hl, he⟩ := h
  refine ⟨List.length_replicate, cur, hc, ?_⟩
  apply List.ext_getElem?
  intro j
  by_cases hj : j < n
  · rw [List.getElem?_take_of_lt hj, he j hj]
    simp [byteCells, hj]
  · rw [List.getElem?_eq_none (by rw [List.length_take]; omega), List.getElem?_eq_none (by simp [byteCells]; omega)]

theorem TxtIs.row {w : World} {g T : Nat} {l : List UInt8} (h : TxtIs w g T l) : ∃ cur : List Value, w.heap[g]? = some (.cells cur.toArray 5 (0, 0)) ∧ T ≤ cur.length := by
  obtain ⟨hl, cur, hc, ht⟩ := h
  refine ⟨cur, hc, ?_⟩
  have := congrArg List.length ht
  rw [byteCells_length, hl, List.length_take] at this
  omega

theorem TxtIs.cell {w : World} {g T : Nat} {l : List UInt8} (h : TxtIs w g T l) (j : Nat) (hj : j < l.length) : w.cell? ⟨g, j, none⟩ = some (.int .u8 (l[j].toNat : Int)) := by
  obtain ⟨hl, cur, hc, ht⟩ := h
  rw [Lib.cell_of_heap hc, List.getElem?_toArray, ← List.getElem?_take_of_lt (show j < T by omega), ht]
  simp [byteCells, hj]

theorem take3 (A S D : List Value) (T : Nat) (h : A.length + S.length ≤ T) : (A ++ (S ++ D)).take T = A ++ (S ++ D.take (T - A.length - S.length)) := by
  rw [List.take_append, List.take_append, List.take_of_length_le (show A.length ≤ T by omega), List.take_of_length_le (show S.length ≤ T - A.length by omega)]

/-- 'copy(dst, s)', s a string that fits. -/
theorem wpList_copy_str {w : World} {ops : Array Oper} {rest : List Oper} {o : Oper} {a : Act} {Q : Exit → Act → World → Prop} (hgd : o.guard = none) (d s : Operand) (dT sT : TypeId)
    (ho : o.op = .call { callee := .builtin .copy, args := #[d, s], argTypes := #[dT, sT] }) (hu : Tryz.prog.underlying dT = some (.slice 5))
    (g off dLen dCap : Nat) (hd : a.eval d = .slice (some ⟨g, off, none⟩) dLen dCap) (str : List UInt8) (hs : a.eval s = .string ⟨str.toArray⟩)
    (T : Nat) (l : List UInt8) (hT : TxtIs w g T l) (hle : str.length ≤ dLen) (hfit : off + str.length ≤ T) (B : Nat) (w0 : World) (hb : Below B w0 w) (hBg : B ≤ g)
    (h : ∀ w', Hid (TxtIs w' g T (l.take off ++ (str ++ l.drop (off + str.length)))) → Below B w0 w' → wpList Tryz.prog ops Q rest (a.put o.dst (goInt str.length)) w') :
    wpList Tryz.prog ops Q (o :: rest) a w := by
  have hT0 := hT
  obtain ⟨hl, cur, hc, ht⟩ := hT
  obtain ⟨cur', hc', hcl⟩ := hT0.row
  have e : cur' = cur := by
    rw [hc] at hc'
    simpa using hc'.symm
  subst e
  have hsz : (⟨str.toArray⟩ : ByteArray).size = str.length := by rw [Lib.size_eq]
  have hr := run_copy_row_string (P := Tryz.prog) w dT sT o.type 5 g off dLen dCap ⟨str.toArray⟩ cur'.toArray 5 hu Tryz.size_u8 hc (by rw [hsz]; exact hle) (by rw [hsz]; simp; omega)
  rw [hsz] at hr
  refine wpList_plain hgd fun K hK => ?_
  unfold Oper.wp
  simp [execOp, ho, resolve, invoke, builtin, hd, hs, hr, Result.andThen]
  refine hK _ _ (h _ ?_ (below_setRow hb hBg _))
  have hT1 : T ≤ cur'.length := hcl
  refine ⟨?_, _, setRow_heap w g _ _ 5 _ hc, ?_⟩
  · rw [List.length_append, List.length_append, List.length_take, List.length_drop]; omega
  · have e1 : List.take off cur' = byteCells (l.take off) := by
      unfold byteCells at ht ⊢
      rw [List.map_take, ← ht, List.take_take, Nat.min_eq_left (by omega)]
    have e2 : List.take (T - off - str.length) (List.drop (off + str.length) cur') = byteCells (l.drop (off + str.length)) := by
      unfold byteCells at ht ⊢
      rw [List.map_drop, ← ht, List.drop_take]
      congr 1
      omega
    have e3 : (List.take off cur').length = off := by rw [List.length_take]; omega
    have e4 : (byteCells str).length = str.length := byteCells_length _
    have e5 := take3 (List.take off cur') (byteCells str) (List.drop (off + str.length) cur') T (by omega)
    rw [e3, e4] at e5
    rw [byteCells_append, byteCells_append, ← e1, ← e2]
    exact e5

end Go.Proofs.YteceomlbnajihaaGreatDoor

/- Plain facts: a text while its pieces are laid in. -/
namespace Go.Proofs.YteceomlbnajihaaGreatDoor
open Go.Lib

/-- the sign and the highest piece's digits -/
def headOf (m : Bool) (N L : Nat) : List UInt8 := (if m && decide (0 < piece N L) then [45] else []) ++ decDigits (piece N L)

/-- the text while its pieces are laid in: k of the lower ones -/
def cont (A : List UInt8) (N L k : Nat) : List UInt8 := A ++ (List.replicate (9 * (L - k)) 48 ++ padD (9 * k) N)

theorem cont_length (A : List UInt8) (N L k : Nat) (h : k ≤ L) : (cont A N L k).length = A.length + L * 9 := by
  unfold cont
  rw [List.length_append, List.length_append, List.length_replicate, padD_length]
  omega

theorem cont_zero (A : List UInt8) (N L : Nat) : A ++ List.drop (A.length) (List.replicate (A.length + L * 9) 48) = cont A N L 0 := by
  unfold cont
  rw [List.drop_replicate, Nat.mul_zero, padD, List.append_nil, Nat.sub_zero, Nat.add_sub_cancel_left, Nat.mul_comm]

theorem piece_digits (N k : Nat) : 1 ≤ (decDigits (piece N k)).length ∧ (decDigits (piece N k)).length ≤ 9 := by
  rw [decDigits_length]
  exact ⟨nDigits_pos _, nDigits_le 8 _ (by have := piece_lt N k; simpa using this)⟩

theorem cont_step (A : List UInt8) (N L k o : Nat) (h : k < L) (ho : o + (decDigits (piece N k)).length + 9 * k = A.length + L * 9) :
    (cont A N L k).take o ++ (decDigits (piece N k) ++ (cont A N L k).drop (o + (decDigits (piece N k)).length)) = cont A N L (k + 1) := by
  have hd := piece_digits N k
  have hp := padD_dec 9 (piece N k) (by rw [← decDigits_length]; exact hd.2)
  rw [← decDigits_length] at hp
  obtain ⟨ds, hds⟩ : ∃ ds, ds = decDigits (piece N k) := ⟨_, rfl⟩
  rw [← hds] at ho hd hp ⊢
  have e1 : padD (9 * (k + 1)) N = padD 9 (piece N k) ++ padD (9 * k) N := by
    rw [show 9 * (k + 1) = 9 + 9 * k by omega, padD_add, ← padD_mod 9, pow9]; rfl
  obtain ⟨r, hr⟩ : ∃ r, 9 * (L - k) = r + ds.length := ⟨9 * (L - k) - ds.length, by omega⟩
  have e2 : cont A N L k = (A ++ List.replicate r 48) ++ (List.replicate ds.length 48 ++ padD (9 * k) N) := by
    unfold cont
    rw [hr, ← List.replicate_append_replicate]
    simp only [List.append_assoc]
  have e3 : (A ++ List.replicate r (48 : UInt8)).length = o := by simp; omega
  have e4 : List.take o (cont A N L k) = A ++ List.replicate r 48 := by rw [e2, ← e3, List.take_left]
  have e5 : List.drop (o + ds.length) (cont A N L k) = padD (9 * k) N := by
    rw [e2, ← List.drop_drop, ← e3, List.drop_left]
    conv => lhs; arg 1; rw [← List.length_replicate (n := ds.length) (a := (48 : UInt8))]
    rw [List.drop_left]
  rw [e4, e5]
  unfold cont
  obtain ⟨r', hr'⟩ : ∃ r', r = r' + (9 - ds.length) := ⟨r - (9 - ds.length), by omega⟩
  rw [e1, hp, show 9 * (L - (k + 1)) = r' by omega, hr', ← List.replicate_append_replicate]
  simp only [List.append_assoc]

theorem head_text {m : Bool} {N L : Nat} (h1 : N / 10 ^ (9 * (L + 1)) = 0) (h2 : 1 < L + 1 → 0 < N / 10 ^ (9 * (L + 1 - 1))) : cont (headOf m N L) N L L = itoa (zOf m N) := by
  have hp : piece N L = N / 10 ^ (9 * L) := by
    unfold piece
    rw [← left_succ] at h1
    refine Nat.mod_eq_of_lt ?_
    rcases Nat.lt_or_ge (N / 10 ^ (9 * L)) 1000000000 with h | h
    · exact h
    · have := Nat.div_pos h (by omega); omega
  have h0 : 0 < N / 10 ^ (9 * L) ↔ 0 < N := by
    rcases Nat.eq_zero_or_pos L with h | h
    · subst h; simp
    · have h3 := h2 (by omega)
      rw [Nat.add_sub_cancel] at h3
      exact ⟨fun _ => Nat.lt_of_lt_of_le h3 (Nat.div_le_self _ _), fun _ => h3⟩
  have ht : decDigits (N / 10 ^ (9 * L)) ++ padD (9 * L) N = decDigits N := by
    have h4 := txtAt_all N L (by
      rcases Nat.eq_zero_or_pos L with h | h
      · exact .inl h
      · right
        have h3 := h2 (by omega)
        rw [Nat.add_sub_cancel] at h3
        exact (Nat.div_pos_iff.1 h3).2)
    unfold txtAt at h4
    rw [Nat.sub_self, Nat.mul_zero] at h4
    simpa using h4
  unfold cont headOf
  rw [Nat.sub_self, Nat.mul_zero, hp, List.append_assoc]
  show _ ++ (_ ++ padD (9 * L) N) = _
  rw [ht]
  have h5 : decide (0 < N / 10 ^ (9 * L)) = decide (0 < N) := by rw [decide_eq_decide]; exact h0
  rw [h5, ← zOf_neg]
  by_cases hz : zOf m N < 0
  · rw [itoa_neg' hz, zOf_abs, decide_eq_true hz]; rfl
  · rw [itoa_pos' (by omega), zOf_abs, decide_eq_false hz]; rfl

end Go.Proofs.YteceomlbnajihaaGreatDoor


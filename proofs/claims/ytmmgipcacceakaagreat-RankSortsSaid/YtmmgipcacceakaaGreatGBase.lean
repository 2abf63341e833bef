/- Plain, BitOps, Wraps, AddPlain, BitsPlain, ShlPlain, ShrPlain, DigPlain -/
import Derived.WalkKit
import Derived.Lib.Hide
import Derived.IntWalk
import Derived.Lib.BitFns
set_option maxHeartbeats 40000000
set_option maxRecDepth 100000
/- Plain facts on lists of limbs and numbers (no program): value, canonical form, the canonical limbs of a number. -/
namespace Go.Proofs.YtmmgipcacceakaaGreat
def val : List Nat → Nat
 | [] => 0
 | x :: xs => x + 4294967296 * val xs
def trimL : List Nat → List Nat
 | [] => []
 | x :: xs => if x = 0 ∧ trimL xs = [] then [] else x :: trimL xs
def nl (xs : List Nat) : Nat := (trimL xs).length
theorem nl_nil : nl [] = 0 := rfl
theorem trimL_append_zero (xs : List Nat) : trimL (xs ++ [0]) = trimL xs := by
 induction xs with
 | nil => simp [trimL]
 | cons x xs ih => simp [trimL, ih]
theorem trimL_snoc (xs : List Nat) {x : Nat} (h : x ≠ 0) : trimL (xs ++ [x]) = xs ++ [x] := by
 induction xs with
 | nil => simp [trimL, h]
 | cons y xs ih => simp [trimL, ih]
theorem trimL_take (xs : List Nat) : trimL xs = xs.take (nl xs) := by
 unfold nl
 induction xs with
 | nil => rfl
 | cons x xs ih =>
  unfold trimL
  split
  ·rfl
  ·simp only [List.length_cons, List.take_succ_cons]; rw [← ih]
theorem nl_le (xs : List Nat) : nl xs ≤ xs.length := by
 have h := congrArg List.length (trimL_take xs); rw [List.length_take] at h
 unfold nl at *
 omega
theorem take_succ_getD (xs : List Nat) (k : Nat) (h : k < xs.length) : xs.take (k + 1) = xs.take k ++ [xs.getD k 0] := by
 rw [List.take_succ_eq_append_getElem h]
 simp [List.getD, h]
theorem nl_take_zero (xs : List Nat) (k : Nat) (h : k < xs.length) (h0 : xs.getD k 0 = 0) : nl (xs.take (k + 1)) = nl (xs.take k) := by
 unfold nl
 rw [take_succ_getD xs k h, h0, trimL_append_zero]
theorem nl_take_pos (xs : List Nat) (k : Nat) (h : k < xs.length) (h0 : xs.getD k 0 ≠ 0) : nl (xs.take (k + 1)) = k + 1 := by
 unfold nl
 rw [take_succ_getD xs k h, trimL_snoc _ h0]
 simp; omega
def Wf (xs : List Nat) : Prop := ∀ x ∈ xs, x < 4294967296
theorem Wf.cons {x : Nat} {xs : List Nat} (h : Wf (x :: xs)) : x < 4294967296 ∧ Wf xs :=
 ⟨h x List.mem_cons_self, fun y hy => h y (List.mem_cons_of_mem _ hy)⟩
theorem val_nil : val [] = 0 := rfl
theorem val_cons (x : Nat) (xs : List Nat) : val (x :: xs) = x + 4294967296 * val xs := rfl
theorem val_trim (xs : List Nat) : val (trimL xs) = val xs := by
 induction xs with
 | nil => rfl
 | cons x xs ih =>
  unfold trimL
  split
  ·rename_i h
   rw [val_cons, ← ih, h.2, h.1]; rfl
  ·rw [val_cons, val_cons, ih]
theorem trimL_nil {xs : List Nat} : trimL xs = [] ↔ val xs = 0 := by
 induction xs with
 | nil => simp [trimL, val]
 | cons x xs ih =>
  simp only [trimL, val]
  split
  ·rename_i h
   have := ih.1 h.2
   simp; omega
  ·rename_i h
   simp only [reduceCtorEq, false_iff]
   intro h0
   exact h ⟨by omega, ih.2 (by omega)⟩
theorem Wf.trim {xs : List Nat} (h : Wf xs) : Wf (trimL xs) := fun y hy => h y (List.mem_of_mem_take (by rw [← trimL_take]; exact hy))
theorem Wf.take {xs : List Nat} (h : Wf xs) (k : Nat) : Wf (xs.take k) := fun y hy => h y (List.mem_of_mem_take hy)
def limbsF : Nat → Nat → List Nat
 | 0, _ => []
 | f + 1, n => if n = 0 then [] else n % 4294967296 :: limbsF f (n / 4294967296)
def limbs (n : Nat) : List Nat := limbsF n n
theorem limbsF_fuel (f : Nat) : ∀ g n, n ≤ f → n ≤ g → limbsF f n = limbsF g n := by
 induction f with
 | zero =>
  intro g n h1 _
  obtain rfl : n = 0 := by omega
  cases g <;> simp [limbsF]
 | succ f ih =>
  intro g n h1 h2
  cases g with
  | zero => obtain rfl : n = 0 := by omega
            simp [limbsF]
  | succ g =>
   simp only [limbsF]
   split
   ·rfl
   ·rw [ih g _ (by omega) (by omega)]
theorem limbs_zero : limbs 0 = [] := rfl
theorem limbs_pos {n : Nat} (h : 0 < n) : limbs n = n % 4294967296 :: limbs (n / 4294967296) := by
 unfold limbs
 obtain ⟨m, rfl⟩ : ∃ m, n = m + 1 := ⟨n - 1, by omega⟩
 rw [limbsF, if_neg (by omega), limbsF_fuel m ((m + 1) / 4294967296) _ (by omega) (Nat.le_refl _)]
theorem trim_limbs (xs : List Nat) (h : Wf xs) : trimL xs = limbs (val xs) := by
 induction xs with
 | nil => rfl
 | cons x xs ih =>
  obtain ⟨hx, hxs⟩ := h.cons
  unfold trimL
  split
  ·rename_i h
   have h0 : val xs = 0 := trimL_nil.1 h.2
   rw [val_cons, h.1, h0]; rfl
  ·rename_i h
   have hpos : 0 < val (x :: xs) := by
    rw [val_cons]
    by_cases hx0 : x = 0
    ·have : val xs ≠ 0 := fun e => h ⟨hx0, trimL_nil.2 e⟩
     omega
    ·omega
   rw [limbs_pos hpos, val_cons, ih hxs]
   congr 1
   ·omega
   ·congr 1; omega
theorem val_limbs (n : Nat) : val (limbs n) = n := by
 induction n using Nat.strongRecOn with
 | _ n ih =>
  by_cases h : 0 < n
  ·rw [limbs_pos h, val_cons, ih _ (by omega)]; omega
  ·obtain rfl : n = 0 := by omega
   rfl
theorem wf_limbs (n : Nat) : Wf (limbs n) := by
 induction n using Nat.strongRecOn with
 | _ n ih =>
  by_cases h : 0 < n
  ·rw [limbs_pos h]
   intro x hx
   rcases List.mem_cons.1 hx with rfl | hx
   ·omega
   ·exact ih _ (by omega) x hx
  ·obtain rfl : n = 0 := by omega
   intro x hx; cases hx
theorem trim_of_limbs (n : Nat) : trimL (limbs n) = limbs n := by
 rw [trim_limbs _ (wf_limbs n), val_limbs]
theorem nl_limbs (n : Nat) : nl (limbs n) = (limbs n).length := by unfold nl; rw [trim_of_limbs]
theorem val_append (xs ys : List Nat) : val (xs ++ ys) = val xs + 4294967296 ^ xs.length * val ys := by
 induction xs with
 | nil => simp [val]
 | cons x xs ih =>
  rw [List.cons_append, val_cons, val_cons, ih, List.length_cons, Nat.pow_succ, Nat.mul_add, ← Nat.mul_assoc, Nat.mul_comm 4294967296 (4294967296 ^ _)]
  omega
theorem val_lt (xs : List Nat) (h : Wf xs) : val xs < 4294967296 ^ xs.length := by
 induction xs with
 | nil => simp [val]
 | cons x xs ih =>
  obtain ⟨hx, hxs⟩ := h.cons
  have := ih hxs
  rw [val_cons, List.length_cons, Nat.pow_succ]
  have h2 : 4294967296 * (val xs + 1) ≤ 4294967296 * 4294967296 ^ xs.length := Nat.mul_le_mul_left _ this
  rw [Nat.mul_comm (4294967296 ^ xs.length)]
  omega
theorem val_replicate (k : Nat) : val (List.replicate k 0) = 0 := by
 induction k with
 | zero => rfl
 | succ k ih => rw [List.replicate_succ, val_cons, ih]
theorem val_lt_at : ∀ (X Y : List Nat) (j : Nat), X.length = Y.length → j < X.length → Wf X → Wf Y → (∀ i, j < i → i < X.length → X.getD i 0 = Y.getD i 0) → X.getD j 0 < Y.getD j 0 → val X < val Y := by
 intro X
 induction X with
 | nil => intro Y j _ hj; simp at hj
 | cons x X ih =>
  intro Y j hl hj hX hY heq hlt
  cases Y with
  | nil => simp at hl
  | cons y Y =>
   obtain ⟨hx, hX'⟩ := hX.cons; obtain ⟨hy, hY'⟩ := hY.cons
   have hl' : X.length = Y.length := by simpa using hl
   rw [val_cons, val_cons]
   cases j with
   | zero =>
    have e : X = Y := by
     apply List.ext_getElem hl'
     intro i h1 h2
     have := heq (i + 1) (by omega) (by simp; omega)
     simpa [List.getD, h1, h2] using this
    have : x < y := by simpa [List.getD] using hlt
    rw [e]; omega
   | succ j =>
    have := ih Y j hl' (by simpa using hj) hX' hY' (fun i h1 h2 => by
     have := heq (i + 1) (by omega) (by simp; omega)
     simpa [List.getD] using this) (by simpa [List.getD] using hlt)
    omega
def cmpN (a b : Nat) : Int := if a < b then -1 else if a = b then 0 else 1
theorem pow_le_of_nl {xs : List Nat} (k : Nat) (h : nl xs = k + 1) : 4294967296 ^ k ≤ val xs := by
 induction xs generalizing k with
 | nil => simp [nl, trimL] at h
 | cons x xs ih =>
  rw [val_cons]
  unfold nl trimL at h
  split at h
  ·simp at h
  ·rename_i hn
   simp only [List.length_cons, Nat.add_right_cancel_iff] at h
   cases k with
   | zero =>
    have h0 : trimL xs = [] := List.eq_nil_of_length_eq_zero h
    have : x ≠ 0 := fun e => hn ⟨e, h0⟩
    simp only [Nat.pow_zero]; omega
   | succ k =>
    have := ih k h
    rw [Nat.pow_succ]; omega
theorem val_lt_of_nl {xs ys : List Nat} (hx : Wf xs) (h : nl xs < nl ys) : val xs < val ys := by
 have h1 : val xs < 4294967296 ^ (nl xs) := by rw [← val_trim xs]; exact val_lt _ hx.trim
 obtain ⟨k, hk⟩ : ∃ k, nl ys = k + 1 := ⟨nl ys - 1, by omega⟩
 have h2 := pow_le_of_nl k hk
 have h3 : 4294967296 ^ (nl xs) ≤ 4294967296 ^ k := Nat.pow_le_pow_right (by omega) (by omega)
 omega
theorem getD_trim (xs : List Nat) (i : Nat) (h : i < nl xs) : (trimL xs).getD i 0 = xs.getD i 0 := by
 rw [trimL_take]
 simp [List.getD, h]
theorem cmp_lens {xs ys : List Nat} (hx : Wf xs) (hy : Wf ys) (h : nl xs ≠ nl ys) : cmpN (val xs) (val ys) = if nl ys < nl xs then 1 else -1 := by
 unfold cmpN
 by_cases h1 : nl ys < nl xs
 ·have := val_lt_of_nl hy h1
  rw [if_pos h1, if_neg (by omega), if_neg (by omega)]
 ·have := val_lt_of_nl hx (show nl xs < nl ys by omega)
  rw [if_neg h1, if_pos this]
theorem cmp_at {xs ys : List Nat} (hx : Wf xs) (hy : Wf ys) (n j : Nat) (h1 : nl xs = n) (h2 : nl ys = n) (hj : j < n) (heq : ∀ i, j < i → i < n → xs.getD i 0 = ys.getD i 0) (hne : xs.getD j 0 ≠ ys.getD j 0) :
  cmpN (val xs) (val ys) = if ys.getD j 0 < xs.getD j 0 then 1 else -1 := by
 have key : ∀ (a b : List Nat), Wf a → Wf b → nl a = n → nl b = n → (∀ i, j < i → i < n → a.getD i 0 = b.getD i 0) → a.getD j 0 < b.getD j 0 → val a < val b := by
  intro a b ha hb na nb he hl
  rw [← val_trim a, ← val_trim b]
  have la : (trimL a).length = n := na
  have lb : (trimL b).length = n := nb
  refine val_lt_at _ _ j (by omega) (by omega) ha.trim hb.trim (fun i h3 h4 => ?_) ?_
  ·rw [getD_trim a i (by omega), getD_trim b i (by omega)]; exact he i h3 (by omega)
  ·rw [getD_trim a j (by omega), getD_trim b j (by omega)]; exact hl
 unfold cmpN
 by_cases hlt : ys.getD j 0 < xs.getD j 0
 ·have := key ys xs hy hx h2 h1 (fun i h3 h4 => (heq i h3 h4).symm) hlt
  rw [if_pos hlt, if_neg (by omega), if_neg (by omega)]
 ·have := key xs ys hx hy h1 h2 heq (by omega)
  rw [if_neg hlt, if_pos this]
theorem cmp_same {xs ys : List Nat} (n : Nat) (h1 : nl xs = n) (h2 : nl ys = n) (heq : ∀ i, i < n → xs.getD i 0 = ys.getD i 0) : cmpN (val xs) (val ys) = 0 := by
 have : trimL xs = trimL ys := by
  have la : (trimL xs).length = n := h1
  have lb : (trimL ys).length = n := h2
  apply List.ext_getElem (by omega)
  intro i h3 h4
  have := heq i (by omega)
  rw [← getD_trim xs i (by omega), ← getD_trim ys i (by omega)] at this
  simpa [List.getD, h3, h4] using this
 unfold cmpN
 rw [← val_trim xs, ← val_trim ys, this, if_neg (by omega), if_pos rfl]
theorem take_all (xs : List Nat) (n : Nat) (h : xs.length = n) : xs.take n = xs := by
 rw [List.take_of_length_le (by omega)]
theorem trimL_nil_of {xs : List Nat} (h : nl xs = 0) : trimL xs = [] := List.eq_nil_of_length_eq_zero h
end Go.Proofs.YtmmgipcacceakaaGreat

/- Plain facts on the model's bit operations over natural numbers. -/
namespace Go.Proofs.YtmmgipcacceakaaGreat
theorem wrap_u64 (n : Nat) (h : n < 18446744073709551616) : IntKind.u64.wrap (n : Int) = (n : Int) := by
 simp only [IntKind.wrap, IntKind.bits, IntKind.signed]
 simp only [Bool.false_and, Bool.false_eq_true, if_false]
 have : (2 : Int) ^ 64 = 18446744073709551616 := by decide
 rw [this]
 omega
end Go.Proofs.YtmmgipcacceakaaGreat

/- Plain facts: a number within a kind is not wrapped. -/
namespace Go.Proofs.YtmmgipcacceakaaGreat
theorem wrap_u32 (n : Nat) (h : n < 4294967296) : IntKind.u32.wrap (n : Int) = (n : Int) := by
 simp only [IntKind.wrap, IntKind.bits, IntKind.signed]
 simp only [Bool.false_and, Bool.false_eq_true, if_false]
 have : (2 : Int) ^ 32 = 4294967296 := by decide
 rw [this]
 omega
theorem wrap_i64 (n : Nat) (h : n < 9223372036854775808) : IntKind.i64.wrap (n : Int) = (n : Int) :=
 IntWalk.i64_in _ (by omega)
end Go.Proofs.YtmmgipcacceakaaGreat

/- Plain facts on sums and differences limb by limb. -/
namespace Go.Proofs.YtmmgipcacceakaaGreat
theorem val_set : ∀ (ys : List Nat) (k v : Nat), k < ys.length → val (ys.set k v) + 4294967296 ^ k * ys.getD k 0 = val ys + 4294967296 ^ k * v
 | [], k, v, h => by simp at h
 | y :: ys, 0, v, _ => by simp [val, List.getD]; omega
 | y :: ys, k + 1, v, h => by
  have ih := val_set ys k v (by simpa using h)
  have e : (y :: ys).getD (k + 1) 0 = ys.getD k 0 := by simp [List.getD]
  rw [e, List.set_cons_succ, val_cons, val_cons, Nat.pow_succ, Nat.mul_comm (4294967296 ^ k) 4294967296, Nat.mul_assoc, Nat.mul_assoc]
  omega
theorem val_take_succ (ys : List Nat) (k : Nat) (h : k < ys.length) : val (ys.take (k + 1)) = val (ys.take k) + 4294967296 ^ k * ys.getD k 0 := by
 rw [take_succ_getD ys k h, val_append, List.length_take, Nat.min_eq_left (by omega), val_cons, val_nil, Nat.mul_zero, Nat.add_zero]
theorem add_step {ys : List Nat} {k y c S T : Nat} (hk : k < ys.length) (h : val ys + 4294967296 ^ k * c = S + T) :
  val (ys.set k ((ys.getD k 0 + y + c) % 4294967296)) + 4294967296 ^ (k + 1) * ((ys.getD k 0 + y + c) / 4294967296) = S + (T + 4294967296 ^ k * y) := by
 have h1 := val_set ys k ((ys.getD k 0 + y + c) % 4294967296) hk
 generalize ys.getD k 0 = u at *
 have h2 : 4294967296 ^ k * ((u + y + c) % 4294967296) + 4294967296 ^ (k + 1) * ((u + y + c) / 4294967296) = 4294967296 ^ k * u + 4294967296 ^ k * y + 4294967296 ^ k * c := by
  rw [Nat.pow_succ, Nat.mul_assoc, ← Nat.mul_add, ← Nat.mul_add, ← Nat.mul_add]
  congr 1
  omega
 omega
def subD (u y c : Nat) : Nat := (u + 4294967296 - y - c) % 4294967296
def subB (u y c : Nat) : Nat := if u < y + c then 1 else 0
theorem sub_step {ys : List Nat} {k y c S T : Nat} (hk : k < ys.length) (hu : ys.getD k 0 < 4294967296) (hy : y < 4294967296) (hc : c ≤ 1) (h : val ys + T = S + 4294967296 ^ k * c) :
  val (ys.set k (subD (ys.getD k 0) y c)) + (T + 4294967296 ^ k * y) = S + 4294967296 ^ (k + 1) * subB (ys.getD k 0) y c := by
 have h1 := val_set ys k (subD (ys.getD k 0) y c) hk
 generalize ys.getD k 0 = u at *
 have h2 : 4294967296 ^ k * subD u y c + 4294967296 ^ k * y + 4294967296 ^ k * c = 4294967296 ^ k * u + 4294967296 ^ (k + 1) * subB u y c := by
  rw [Nat.pow_succ, Nat.mul_assoc, ← Nat.mul_add, ← Nat.mul_add, ← Nat.mul_add]
  congr 1
  unfold subD subB
  split <;> omega
 omega
theorem subD_lt (u y c : Nat) : subD u y c < 4294967296 := Nat.mod_lt _ (by omega)
theorem subB_le (u y c : Nat) : subB u y c ≤ 1 := by unfold subB; split <;> omega
theorem add_end {ys : List Nat} {n k c S : Nat} (h : val ys + 4294967296 ^ k * c = S) (hS : S < 4294967296 ^ (n + 1)) (hk : k ≤ n + 1) (hc : c ≤ 1) : c = 0 ∨ k ≤ n := by
 rcases Nat.lt_or_ge n k with hlt | hge
 ·left
  obtain rfl : k = n + 1 := by omega
  rcases Nat.eq_zero_or_pos c with h0 | h0
  ·exact h0
  ·obtain rfl : c = 1 := by omega
   omega
 ·right; exact hge
theorem sum_lt {a b n : Nat} (ha : a < 4294967296 ^ n) (hb : b < 4294967296 ^ n) : a + b < 4294967296 ^ (n + 1) := by
 rw [Nat.pow_succ]; omega
theorem getD_replicate_zero (n t : Nat) : (List.replicate n 0).getD t 0 = 0 := by
 by_cases h : t < n <;> simp [List.getD, h]
theorem val_nl (xs : List Nat) : val (xs.take (nl xs)) = val xs := by rw [← trimL_take, val_trim]
theorem val_lt_nl {xs : List Nat} (h : Wf xs) (n : Nat) (hn : nl xs ≤ n) : val xs < 4294967296 ^ n := by
 have h1 := val_lt _ h.trim; rw [val_trim] at h1
 have : (trimL xs).length ≤ n := hn
 exact Nat.lt_of_lt_of_le h1 (Nat.pow_le_pow_right (by omega) this)
end Go.Proofs.YtmmgipcacceakaaGreat

/- Plain facts on how many bits a number has. -/
namespace Go.Proofs.YtmmgipcacceakaaGreat
def nbits (n : Nat) : Nat := if n = 0 then 0 else n.log2 + 1
theorem nbits_of {n k : Nat} (h1 : 2 ^ k ≤ n) (h2 : n < 2 ^ (k + 1)) : nbits n = k + 1 := by
 have h0 : n ≠ 0 := by have := Nat.two_pow_pos k; omega
 unfold nbits
 rw [if_neg h0, (Nat.log2_eq_iff h0).2 ⟨h1, h2⟩]
theorem nbits_pos {n : Nat} (h : n ≠ 0) : ∃ k, nbits n = k + 1 ∧ 2 ^ k ≤ n ∧ n < 2 ^ (k + 1) := by
 refine ⟨n.log2, ?_, (Nat.log2_eq_iff h).1 rfl⟩
 unfold nbits
 rw [if_neg h]
theorem nbits_eq_zero {n : Nat} : nbits n = 0 ↔ n = 0 := by
 unfold nbits
 split <;> simp_all
theorem bitLenAux_nbits : ∀ (f x : Nat), x < 2 ^ f → Lib.bitLenAux f x = nbits x
 | 0, x, h => by
  obtain rfl : x = 0 := by simpa using h
  rfl
 | f + 1, x, h => by
  rw [Lib.bitLenAux]
  split
  ·rename_i h0
   rw [h0]; rfl
  ·rename_i h0
   rw [bitLenAux_nbits f (x / 2) (by rw [Nat.pow_succ] at h; omega)]
   by_cases h2 : x / 2 = 0
   ·have : x = 1 := by omega
    subst this
    rfl
   ·obtain ⟨k, e, a, b⟩ := nbits_pos h2
    rw [e]
    have := nbits_of (n := x) (k := k + 1) (by rw [Nat.pow_succ]; omega) (by rw [Nat.pow_succ]; omega)
    omega
theorem bitLen_nbits (x : Nat) (h : x < 4294967296) : Lib.bitLen x = nbits x :=
 bitLenAux_nbits 64 x (by have : (4294967296 : Nat) < 2 ^ 64 := by decide
                          omega)
theorem nbits_le {n k : Nat} (h : n < 2 ^ k) : nbits n ≤ k := by
 by_cases h0 : n = 0
 ·subst h0; simp [nbits]
 ·obtain ⟨j, e, a, b⟩ := nbits_pos h0
  rw [e]
  have := (Nat.pow_lt_pow_iff_right (a := 2) (by omega)).1 (Nat.lt_of_le_of_lt a h)
  omega
theorem nbits_val {xs : List Nat} (h : Wf xs) (k : Nat) (hk : nl xs = k + 1) : nbits (val xs) = 32 * k + nbits (xs.getD k 0) := by
 have hlen : (trimL xs).length = k + 1 := hk
 have hsplit : trimL xs = (trimL xs).take k ++ [xs.getD k 0] := by
  have := take_succ_getD (trimL xs) k (by omega)
  rw [List.take_of_length_le (by omega), getD_trim xs k (by omega)] at this
  exact this
 have hv : val xs = val ((trimL xs).take k) + 4294967296 ^ k * xs.getD k 0 := by
  have h2 := congrArg val hsplit
  rw [val_append, List.length_take, Nat.min_eq_left (by omega), val_cons, val_nil, val_trim] at h2
  simpa using h2
 have hlow : val ((trimL xs).take k) < 4294967296 ^ k := by
  have := val_lt _ (h.trim.take k)
  rwa [List.length_take, Nat.min_eq_left (by omega)] at this
 have hne : xs.getD k 0 ≠ 0 := by
  intro e
  have h1 := pow_le_of_nl k hk; rw [hv, e] at h1
  omega
 obtain ⟨j, e, a, b⟩ := nbits_pos hne; rw [e]
 have hp : (4294967296 : Nat) ^ k = 2 ^ (32 * k) := by rw [Nat.pow_mul]
 rw [hp] at hv hlow
 have := nbits_of (n := val xs) (k := 32 * k + j) (by
  rw [hv, Nat.pow_add]
  have := Nat.mul_le_mul_left (2 ^ (32 * k)) a
  omega) (by
  rw [hv, show 32 * k + j + 1 = 32 * k + (j + 1) from by omega, Nat.pow_add]
  have := Nat.mul_le_mul_left (2 ^ (32 * k)) (show xs.getD k 0 + 1 ≤ 2 ^ (j + 1) from b)
  rw [Nat.mul_add, Nat.mul_one] at this
  omega)
 rw [this]; omega
end Go.Proofs.YtmmgipcacceakaaGreat

/- Plain facts on shifts limb by limb. -/
namespace Go.Proofs.YtmmgipcacceakaaGreat
theorem getD_set (zs : List Nat) (i v t : Nat) : (zs.set i v).getD t 0 = if t = i ∧ i < zs.length then v else zs.getD t 0 := by
 by_cases h : i < zs.length
 ·by_cases ht : t = i
  ·subst ht; simp [List.getD, h]
  ·rw [if_neg (fun e => ht e.1)]
   simp [List.getD, List.getElem?_set_ne (Ne.symm ht)]
 ·rw [if_neg (fun e => h e.2), List.set_eq_of_length_le (by omega)]
end Go.Proofs.YtmmgipcacceakaaGreat

/- Plain facts on shifts to the right limb by limb. -/
namespace Go.Proofs.YtmmgipcacceakaaGreat
theorem val_drop (zs : List Nat) (i : Nat) (h : i < zs.length) : val (zs.drop i) = zs.getD i 0 + 4294967296 * val (zs.drop (i + 1)) := by
 rw [List.drop_eq_getElem_cons h, val_cons]
 simp [List.getD, h]
end Go.Proofs.YtmmgipcacceakaaGreat

/- Plain facts on decimal digits (the lowest one first): value, canonical form, the canonical digits of a number. -/
namespace Go.Proofs.YtmmgipcacceakaaGreat.Dg
def val : List Nat → Nat
 | [] => 0
 | x :: xs => x + 10 * val xs
def Wf (xs : List Nat) : Prop := ∀ x ∈ xs, x < 10
theorem Wf.cons {x : Nat} {xs : List Nat} (h : Wf (x :: xs)) : x < 10 ∧ Wf xs :=
 ⟨h x List.mem_cons_self, fun y hy => h y (List.mem_cons_of_mem _ hy)⟩
theorem val_nil : val [] = 0 := rfl
theorem val_cons (x : Nat) (xs : List Nat) : val (x :: xs) = x + 10 * val xs := rfl
theorem val_trim (xs : List Nat) : val (trimL xs) = val xs := by
 induction xs with
 | nil => rfl
 | cons x xs ih =>
  unfold trimL
  split
  ·rename_i h
   rw [val_cons, ← ih, h.2, h.1]; rfl
  ·rw [val_cons, val_cons, ih]
theorem trimL_nil {xs : List Nat} : trimL xs = [] ↔ val xs = 0 := by
 induction xs with
 | nil => simp [trimL, val]
 | cons x xs ih =>
  simp only [trimL, val]
  split
  ·rename_i h
   have := ih.1 h.2
   simp; omega
  ·rename_i h
   simp only [reduceCtorEq, false_iff]
   intro h0
   exact h ⟨by omega, ih.2 (by omega)⟩
theorem Wf.trim {xs : List Nat} (h : Wf xs) : Wf (trimL xs) := fun y hy => h y (List.mem_of_mem_take (by rw [← trimL_take]; exact hy))
theorem Wf.take {xs : List Nat} (h : Wf xs) (k : Nat) : Wf (xs.take k) := fun y hy => h y (List.mem_of_mem_take hy)
def limbsF : Nat → Nat → List Nat
 | 0, _ => []
 | f + 1, n => if n = 0 then [] else n % 10 :: limbsF f (n / 10)
def limbs (n : Nat) : List Nat := limbsF n n
theorem limbsF_fuel (f : Nat) : ∀ g n, n ≤ f → n ≤ g → limbsF f n = limbsF g n := by
 induction f with
 | zero =>
  intro g n h1 _
  obtain rfl : n = 0 := by omega
  cases g <;> simp [limbsF]
 | succ f ih =>
  intro g n h1 h2
  cases g with
  | zero => obtain rfl : n = 0 := by omega
            simp [limbsF]
  | succ g =>
   simp only [limbsF]
   split
   ·rfl
   ·rw [ih g _ (by omega) (by omega)]
theorem limbs_zero : limbs 0 = [] := rfl
theorem limbs_pos {n : Nat} (h : 0 < n) : limbs n = n % 10 :: limbs (n / 10) := by
 unfold limbs
 obtain ⟨m, rfl⟩ : ∃ m, n = m + 1 := ⟨n - 1, by omega⟩
 rw [limbsF, if_neg (by omega), limbsF_fuel m ((m + 1) / 10) _ (by omega) (Nat.le_refl _)]
theorem trim_limbs (xs : List Nat) (h : Wf xs) : trimL xs = limbs (val xs) := by
 induction xs with
 | nil => rfl
 | cons x xs ih =>
  obtain ⟨hx, hxs⟩ := h.cons
  unfold trimL
  split
  ·rename_i h
   have h0 : val xs = 0 := trimL_nil.1 h.2
   rw [val_cons, h.1, h0]; rfl
  ·rename_i h
   have hpos : 0 < val (x :: xs) := by
    rw [val_cons]
    by_cases hx0 : x = 0
    ·have : val xs ≠ 0 := fun e => h ⟨hx0, trimL_nil.2 e⟩
     omega
    ·omega
   rw [limbs_pos hpos, val_cons, ih hxs]
   congr 1
   ·omega
   ·congr 1; omega
theorem val_limbs (n : Nat) : val (limbs n) = n := by
 induction n using Nat.strongRecOn with
 | _ n ih =>
  by_cases h : 0 < n
  ·rw [limbs_pos h, val_cons, ih _ (by omega)]; omega
  ·obtain rfl : n = 0 := by omega
   rfl
theorem wf_limbs (n : Nat) : Wf (limbs n) := by
 induction n using Nat.strongRecOn with
 | _ n ih =>
  by_cases h : 0 < n
  ·rw [limbs_pos h]
   intro x hx
   rcases List.mem_cons.1 hx with rfl | hx
   ·omega
   ·exact ih _ (by omega) x hx
  ·obtain rfl : n = 0 := by omega
   intro x hx; cases hx
theorem trim_of_limbs (n : Nat) : trimL (limbs n) = limbs n := by
 rw [trim_limbs _ (wf_limbs n), val_limbs]
theorem nl_limbs (n : Nat) : nl (limbs n) = (limbs n).length := by unfold nl; rw [trim_of_limbs]
theorem val_append (xs ys : List Nat) : val (xs ++ ys) = val xs + 10 ^ xs.length * val ys := by
 induction xs with
 | nil => simp [val]
 | cons x xs ih =>
  rw [List.cons_append, val_cons, val_cons, ih, List.length_cons, Nat.pow_succ, Nat.mul_add, ← Nat.mul_assoc, Nat.mul_comm 10 (10 ^ _)]
  omega
theorem val_lt (xs : List Nat) (h : Wf xs) : val xs < 10 ^ xs.length := by
 induction xs with
 | nil => simp [val]
 | cons x xs ih =>
  obtain ⟨hx, hxs⟩ := h.cons
  have := ih hxs
  rw [val_cons, List.length_cons, Nat.pow_succ]
  have h2 : 10 * (val xs + 1) ≤ 10 * 10 ^ xs.length := Nat.mul_le_mul_left _ this
  rw [Nat.mul_comm (10 ^ xs.length)]
  omega
theorem val_replicate (k : Nat) : val (List.replicate k 0) = 0 := by
 induction k with
 | zero => rfl
 | succ k ih => rw [List.replicate_succ, val_cons, ih]
theorem val_lt_at : ∀ (X Y : List Nat) (j : Nat), X.length = Y.length → j < X.length → Wf X → Wf Y → (∀ i, j < i → i < X.length → X.getD i 0 = Y.getD i 0) → X.getD j 0 < Y.getD j 0 → val X < val Y := by
 intro X
 induction X with
 | nil => intro Y j _ hj; simp at hj
 | cons x X ih =>
  intro Y j hl hj hX hY heq hlt
  cases Y with
  | nil => simp at hl
  | cons y Y =>
   obtain ⟨hx, hX'⟩ := hX.cons; obtain ⟨hy, hY'⟩ := hY.cons
   have hl' : X.length = Y.length := by simpa using hl
   rw [val_cons, val_cons]
   cases j with
   | zero =>
    have e : X = Y := by
     apply List.ext_getElem hl'
     intro i h1 h2
     have := heq (i + 1) (by omega) (by simp; omega)
     simpa [List.getD, h1, h2] using this
    have : x < y := by simpa [List.getD] using hlt
    rw [e]; omega
   | succ j =>
    have := ih Y j hl' (by simpa using hj) hX' hY' (fun i h1 h2 => by
     have := heq (i + 1) (by omega) (by simp; omega)
     simpa [List.getD] using this) (by simpa [List.getD] using hlt)
    omega
theorem pow_le_of_nl {xs : List Nat} (k : Nat) (h : nl xs = k + 1) : 10 ^ k ≤ val xs := by
 induction xs generalizing k with
 | nil => simp [nl, trimL] at h
 | cons x xs ih =>
  rw [val_cons]
  unfold nl trimL at h
  split at h
  ·simp at h
  ·rename_i hn
   simp only [List.length_cons, Nat.add_right_cancel_iff] at h
   cases k with
   | zero =>
    have h0 : trimL xs = [] := List.eq_nil_of_length_eq_zero h
    have : x ≠ 0 := fun e => hn ⟨e, h0⟩
    simp only [Nat.pow_zero]; omega
   | succ k =>
    have := ih k h
    rw [Nat.pow_succ]; omega
theorem val_lt_of_nl {xs ys : List Nat} (hx : Wf xs) (h : nl xs < nl ys) : val xs < val ys := by
 have h1 : val xs < 10 ^ (nl xs) := by rw [← val_trim xs]; exact val_lt _ hx.trim
 obtain ⟨k, hk⟩ : ∃ k, nl ys = k + 1 := ⟨nl ys - 1, by omega⟩
 have h2 := pow_le_of_nl k hk
 have h3 : 10 ^ (nl xs) ≤ 10 ^ k := Nat.pow_le_pow_right (by omega) (by omega)
 omega
theorem cmp_lens {xs ys : List Nat} (hx : Wf xs) (hy : Wf ys) (h : nl xs ≠ nl ys) : cmpN (val xs) (val ys) = if nl ys < nl xs then 1 else -1 := by
 unfold cmpN
 by_cases h1 : nl ys < nl xs
 ·have := val_lt_of_nl hy h1
  rw [if_pos h1, if_neg (by omega), if_neg (by omega)]
 ·have := val_lt_of_nl hx (show nl xs < nl ys by omega)
  rw [if_neg h1, if_pos this]
theorem cmp_at {xs ys : List Nat} (hx : Wf xs) (hy : Wf ys) (n j : Nat) (h1 : nl xs = n) (h2 : nl ys = n) (hj : j < n) (heq : ∀ i, j < i → i < n → xs.getD i 0 = ys.getD i 0) (hne : xs.getD j 0 ≠ ys.getD j 0) :
  cmpN (val xs) (val ys) = if ys.getD j 0 < xs.getD j 0 then 1 else -1 := by
 have key : ∀ (a b : List Nat), Wf a → Wf b → nl a = n → nl b = n → (∀ i, j < i → i < n → a.getD i 0 = b.getD i 0) → a.getD j 0 < b.getD j 0 → val a < val b := by
  intro a b ha hb na nb he hl
  rw [← val_trim a, ← val_trim b]
  have la : (trimL a).length = n := na
  have lb : (trimL b).length = n := nb
  refine val_lt_at _ _ j (by omega) (by omega) ha.trim hb.trim (fun i h3 h4 => ?_) ?_
  ·rw [getD_trim a i (by omega), getD_trim b i (by omega)]; exact he i h3 (by omega)
  ·rw [getD_trim a j (by omega), getD_trim b j (by omega)]; exact hl
 unfold cmpN
 by_cases hlt : ys.getD j 0 < xs.getD j 0
 ·have := key ys xs hy hx h2 h1 (fun i h3 h4 => (heq i h3 h4).symm) hlt
  rw [if_pos hlt, if_neg (by omega), if_neg (by omega)]
 ·have := key xs ys hx hy h1 h2 heq (by omega)
  rw [if_neg hlt, if_pos this]
theorem cmp_same {xs ys : List Nat} (n : Nat) (h1 : nl xs = n) (h2 : nl ys = n) (heq : ∀ i, i < n → xs.getD i 0 = ys.getD i 0) : cmpN (val xs) (val ys) = 0 := by
 have : trimL xs = trimL ys := by
  have la : (trimL xs).length = n := h1
  have lb : (trimL ys).length = n := h2
  apply List.ext_getElem (by omega)
  intro i h3 h4
  have := heq i (by omega)
  rw [← getD_trim xs i (by omega), ← getD_trim ys i (by omega)] at this
  simpa [List.getD, h3, h4] using this
 unfold cmpN
 rw [← val_trim xs, ← val_trim ys, this, if_neg (by omega), if_pos rfl]
theorem val_set : ∀ (ys : List Nat) (k v : Nat), k < ys.length → val (ys.set k v) + 10 ^ k * ys.getD k 0 = val ys + 10 ^ k * v
 | [], k, v, h => by simp at h
 | y :: ys, 0, v, _ => by simp [val, List.getD]; omega
 | y :: ys, k + 1, v, h => by
  have ih := val_set ys k v (by simpa using h)
  have e : (y :: ys).getD (k + 1) 0 = ys.getD k 0 := by simp [List.getD]
  rw [e, List.set_cons_succ, val_cons, val_cons, Nat.pow_succ, Nat.mul_comm (10 ^ k) 10, Nat.mul_assoc, Nat.mul_assoc]
  omega
theorem val_take_succ (ys : List Nat) (k : Nat) (h : k < ys.length) : val (ys.take (k + 1)) = val (ys.take k) + 10 ^ k * ys.getD k 0 := by
 rw [take_succ_getD ys k h, val_append, List.length_take, Nat.min_eq_left (by omega), val_cons, val_nil, Nat.mul_zero, Nat.add_zero]
theorem add_step {ys : List Nat} {k y c S T : Nat} (hk : k < ys.length) (h : val ys + 10 ^ k * c = S + T) :
  val (ys.set k ((ys.getD k 0 + y + c) % 10)) + 10 ^ (k + 1) * ((ys.getD k 0 + y + c) / 10) = S + (T + 10 ^ k * y) := by
 have h1 := val_set ys k ((ys.getD k 0 + y + c) % 10) hk
 generalize ys.getD k 0 = u at *
 have h2 : 10 ^ k * ((u + y + c) % 10) + 10 ^ (k + 1) * ((u + y + c) / 10) = 10 ^ k * u + 10 ^ k * y + 10 ^ k * c := by
  rw [Nat.pow_succ, Nat.mul_assoc, ← Nat.mul_add, ← Nat.mul_add, ← Nat.mul_add]
  congr 1
  omega
 omega
def subD (u y c : Nat) : Nat := (u + 10 - y - c) % 10
def subB (u y c : Nat) : Nat := if u < y + c then 1 else 0
theorem sub_step {ys : List Nat} {k y c S T : Nat} (hk : k < ys.length) (hu : ys.getD k 0 < 10) (hy : y < 10) (hc : c ≤ 1) (h : val ys + T = S + 10 ^ k * c) :
  val (ys.set k (subD (ys.getD k 0) y c)) + (T + 10 ^ k * y) = S + 10 ^ (k + 1) * subB (ys.getD k 0) y c := by
 have h1 := val_set ys k (subD (ys.getD k 0) y c) hk
 generalize ys.getD k 0 = u at *
 have h2 : 10 ^ k * subD u y c + 10 ^ k * y + 10 ^ k * c = 10 ^ k * u + 10 ^ (k + 1) * subB u y c := by
  rw [Nat.pow_succ, Nat.mul_assoc, ← Nat.mul_add, ← Nat.mul_add, ← Nat.mul_add]
  congr 1
  unfold subD subB
  split <;> omega
 omega
theorem subD_lt (u y c : Nat) : subD u y c < 10 := Nat.mod_lt _ (by omega)
theorem subB_le (u y c : Nat) : subB u y c ≤ 1 := by unfold subB; split <;> omega
theorem add_end {ys : List Nat} {n k c S : Nat} (h : val ys + 10 ^ k * c = S) (hS : S < 10 ^ (n + 1)) (hk : k ≤ n + 1) (hc : c ≤ 1) : c = 0 ∨ k ≤ n := by
 rcases Nat.lt_or_ge n k with hlt | hge
 ·left
  obtain rfl : k = n + 1 := by omega
  rcases Nat.eq_zero_or_pos c with h0 | h0
  ·exact h0
  ·obtain rfl : c = 1 := by omega
   omega
 ·right; exact hge
theorem sum_lt {a b n : Nat} (ha : a < 10 ^ n) (hb : b < 10 ^ n) : a + b < 10 ^ (n + 1) := by
 rw [Nat.pow_succ]; omega
theorem val_nl (xs : List Nat) : val (xs.take (nl xs)) = val xs := by rw [← trimL_take, val_trim]
theorem val_lt_nl {xs : List Nat} (h : Wf xs) (n : Nat) (hn : nl xs ≤ n) : val xs < 10 ^ n := by
 have h1 := val_lt _ h.trim; rw [val_trim] at h1
 have : (trimL xs).length ≤ n := hn
 exact Nat.lt_of_lt_of_le h1 (Nat.pow_le_pow_right (by omega) this)
theorem val_drop (zs : List Nat) (i : Nat) (h : i < zs.length) : val (zs.drop i) = zs.getD i 0 + 10 * val (zs.drop (i + 1)) := by
 rw [List.drop_eq_getElem_cons h, val_cons]
 simp [List.getD, h]
end Go.Proofs.YtmmgipcacceakaaGreat.Dg


/-
  Plain facts on sums and differences limb by limb.
-/
import Derived.Test.YtkopkmbijmofjaaPlain
namespace Go.Proofs.Ytkopkmbijmofjaa

theorem val_set : ∀ (ys : List Nat) (k v : Nat), k < ys.length → val (ys.set k v) + 4294967296 ^ k * ys.getD k 0 = val ys + 4294967296 ^ k * v
  | [], k, v, h => by simp at h
  | y :: ys, 0, v, _ => by simp [val, List.getD]; omega
  | y :: ys, k + 1, v, h => by
    have ih := val_set ys k v (by simpa using h)
    have e : (y :: ys).getD (k + 1) 0 = ys.getD k 0 := by simp [List.getD]
    rw [e, List.set_cons_succ, val_cons, val_cons, Nat.pow_succ, Nat.mul_comm (4294967296 ^ k) 4294967296, Nat.mul_assoc, Nat.mul_assoc]
    omega

theorem val_take_succ (ys : List Nat) (k : Nat) (h : k < ys.length) : val (ys.take (k + 1)) = val (ys.take k) + 4294967296 ^ k * ys.getD k 0 := by
  rw [take_succ_getD ys k h, val_append, List.length_take, Nat.min_eq_left (by omega), val_cons, val_nil, Nat.mul_zero, Nat.add_zero]

/-- one step of the sum: the digit u is turned into (u + y + c) mod the base -/
theorem add_step {ys : List Nat} {k y c S T : Nat} (hk : k < ys.length) (h : val ys + 4294967296 ^ k * c = S + T) :
    val (ys.set k ((ys.getD k 0 + y + c) % 4294967296)) + 4294967296 ^ (k + 1) * ((ys.getD k 0 + y + c) / 4294967296) = S + (T + 4294967296 ^ k * y) := by
  have h1 := val_set ys k ((ys.getD k 0 + y + c) % 4294967296) hk
  generalize ys.getD k 0 = u at *
  have h2 : 4294967296 ^ k * ((u + y + c) % 4294967296) + 4294967296 ^ (k + 1) * ((u + y + c) / 4294967296) = 4294967296 ^ k * u + 4294967296 ^ k * y + 4294967296 ^ k * c := by
    rw [Nat.pow_succ, Nat.mul_assoc, ← Nat.mul_add, ← Nat.mul_add, ← Nat.mul_add]
    congr 1
    omega
  omega

/-- one step of the difference: the digit u is turned into u - y - c, the base more where that is below 0 -/
def subD (u y c : Nat) : Nat := (u + 4294967296 - y - c) % 4294967296
def subB (u y c : Nat) : Nat := if u < y + c then 1 else 0

theorem sub_step {ys : List Nat} {k y c S T : Nat} (hk : k < ys.length) (hu : ys.getD k 0 < 4294967296) (hy : y < 4294967296) (hc : c ≤ 1) (h : val ys + T = S + 4294967296 ^ k * c) :
    val (ys.set k (subD (ys.getD k 0) y c)) + (T + 4294967296 ^ k * y) = S + 4294967296 ^ (k + 1) * subB (ys.getD k 0) y c := by
  have h1 := val_set ys k (subD (ys.getD k 0) y c) hk
  generalize ys.getD k 0 = u at *
  have h2 : 4294967296 ^ k * subD u y c + 4294967296 ^ k * y + 4294967296 ^ k * c = 4294967296 ^ k * u + 4294967296 ^ (k + 1) * subB u y c := by
    rw [Nat.pow_succ, Nat.mul_assoc, ← Nat.mul_add, ← Nat.mul_add, ← Nat.mul_add]
    congr 1
    unfold subD subB
    split <;> omega
  omega

theorem subD_lt (u y c : Nat) : subD u y c < 4294967296 := Nat.mod_lt _ (by omega)
theorem subB_le (u y c : Nat) : subB u y c ≤ 1 := by unfold subB; split <;> omega

theorem add_end {ys : List Nat} {n k c S : Nat} (h : val ys + 4294967296 ^ k * c = S) (hS : S < 4294967296 ^ (n + 1)) (hk : k ≤ n + 1) (hc : c ≤ 1) : c = 0 ∨ k ≤ n := by
  rcases Nat.lt_or_ge n k with hlt | hge
  · left
    obtain rfl : k = n + 1 := by omega
    rcases Nat.eq_zero_or_pos c with h0 | h0
    · exact h0
    · obtain rfl : c = 1 := by omega
      omega
  · right; exact hge

theorem sum_lt {a b n : Nat} (ha : a < 4294967296 ^ n) (hb : b < 4294967296 ^ n) : a + b < 4294967296 ^ (n + 1) := by
  rw [Nat.pow_succ]; omega

theorem val_take_lt {xs : List Nat} (h : Wf xs) (n : Nat) (hn : n ≤ xs.length) : val (xs.take n) < 4294967296 ^ n := by
  have := val_lt _ (h.take n)
  rwa [List.length_take, Nat.min_eq_left hn] at this

theorem getD_replicate_zero (n t : Nat) : (List.replicate n 0).getD t 0 = 0 := by
  by_cases h : t < n <;> simp [List.getD, h]

theorem val_nl (xs : List Nat) : val (xs.take (nl xs)) = val xs := by rw [← trimL_take, val_trim]

theorem val_lt_nl {xs : List Nat} (h : Wf xs) (n : Nat) (hn : nl xs ≤ n) : val xs < 4294967296 ^ n := by
  have h1 := val_lt _ h.trim
  rw [val_trim] at h1
  have : (trimL xs).length ≤ n := hn
  exact Nat.lt_of_lt_of_le h1 (Nat.pow_le_pow_right (by omega) this)

end Go.Proofs.Ytkopkmbijmofjaa

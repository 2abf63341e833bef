/-
  What the walks of the laws share: all live slices under one name.
-/
import Derived.Test.YtkopkmbijmofjaaKnown
import Derived.Test.YtkopkmbijmofjaaBits
namespace Go.Proofs.Ytkopkmbijmofjaa
open Go.RowKit

/-- All these slices of limbs can be read. -/
def All (w : World) : List (Option Addr × Nat × Nat × List Nat) → Prop
  | [] => True
  | s :: r => Sl w s.1 s.2.1 s.2.2.1 s.2.2.2 ∧ All w r

theorem All.nil (w : World) : All w [] := trivial
theorem All.cons {w : World} {ao : Option Addr} {n cap : Nat} {xs : List Nat} {r : List (Option Addr × Nat × Nat × List Nat)} (h : Sl w ao n cap xs) (hr : All w r) : All w ((ao, n, cap, xs) :: r) := ⟨h, hr⟩
theorem All.head {w : World} {ao : Option Addr} {n cap : Nat} {xs : List Nat} {r : List (Option Addr × Nat × Nat × List Nat)} (h : All w ((ao, n, cap, xs) :: r)) : Sl w ao n cap xs := h.1
theorem All.tail {w : World} {s : Option Addr × Nat × Nat × List Nat} {r : List (Option Addr × Nat × Nat × List Nat)} (h : All w (s :: r)) : All w r := h.2
theorem All.below {w w' : World} (hb : Below w.heap.size w w') : ∀ {r : List (Option Addr × Nat × Nat × List Nat)}, All w r → All w' r
  | [], _ => trivial
  | _ :: _, h => ⟨h.1.below hb, All.below hb h.2⟩

theorem limbs_len {n k : Nat} (h : n < 4294967296 ^ k) : (limbs n).length ≤ k := by
  rcases Nat.lt_or_ge k (limbs n).length with hl | hl
  · obtain ⟨j, hj⟩ : ∃ j, nl (limbs n) = j + 1 := ⟨(limbs n).length - 1, by rw [nl_limbs]; omega⟩
    have h1 := pow_le_of_nl j hj
    rw [val_limbs] at h1
    have h2 : 4294967296 ^ k ≤ 4294967296 ^ j := Nat.pow_le_pow_right (by omega) (by rw [nl_limbs] at hj; omega)
    omega
  · exact hl

theorem val_small {xs : List Nat} {n : Nat} (k : Nat) (hw : Wf xs) (hl : xs.length = n) (hk : n ≤ k) : val xs < 4294967296 ^ k := by
  have h := val_lt xs hw
  rw [hl] at h
  exact Nat.lt_of_lt_of_le h (Nat.pow_le_pow_right (by omega) hk)

theorem lt_pow_mono {a j k : Nat} (h : a < 4294967296 ^ j) (hk : j ≤ k) : a < 4294967296 ^ k :=
  Nat.lt_of_lt_of_le h (Nat.pow_le_pow_right (by omega) hk)

theorem same_bb (r : Bool) (a0 b0 : Option Addr) (la ca lb cb : Nat) (xs ys : List Nat) (w : World) (ha : Sl w a0 la ca xs) (hb : Sl w b0 lb cb ys) (h : sameB xs ys = r) :
    Calls Try.prog 13 #[.slice a0 la ca, .slice b0 lb cb] w (RetB (.bool r) w) := by
  rw [← h]; exact (same_any a0 b0 la ca lb cb xs ys w ha hb).mono fun _ _ h => h.b

theorem sameB_ne {n m : Nat} (h : n ≠ m) : sameB (limbs n) (limbs m) = false := by
  unfold sameB
  rw [decide_eq_false_iff_not]
  exact fun e => h (limbs_inj e)

theorem canon_limbs (n : Nat) : trimL (limbs n) = limbs n := trim_of_limbs n

/-- A law: it answers true, and leaves what was there as it was. -/
def True' (w : World) (e : Ending) (w' : World) : Prop := e = .returned (.bool true) ∧ Below w.heap.size w w'

end Go.Proofs.Ytkopkmbijmofjaa

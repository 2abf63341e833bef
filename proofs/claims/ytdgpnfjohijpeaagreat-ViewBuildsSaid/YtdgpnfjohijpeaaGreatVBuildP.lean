/-
  A polynomial built of coefficients, in plain words.
-/
import Derived.Test.YtdgpnfjohijpeaaGreatVProdP
set_option maxHeartbeats 40000000
set_option maxRecDepth 100000
namespace Go.Proofs.YtdgpnfjohijpeaaGreat
theorem addT_app : ∀ (a b p : List Term), addT p (a ++ b) = addT (addT p a) b
 | [], b, p => by simp [addT]
 | t :: a, b, p => by
  simp only [List.cons_append, addT]
  exact addT_app a b _
theorem ofT_app (a b : List Term) : ofT (a ++ b) = addT (ofT a) b := addT_app a b []
def bldK (v : Int) (ls : List (List Term)) : Nat → List Term
 | 0 => []
 | k + 1 => bldK v ls k ++ (tryT (ls.getD k []) [(1, powM v k)]).1
theorem bld_mays {v : Int} (hv : 1 ≤ v ∧ v ≤ 200) {ls : List (List Term)} (hf : ∀ p ∈ ls, fall p) : ∀ k, k ≤ ls.length → k ≤ 10001 → mays (bldK v ls k)
 | 0, _, _ => fun t ht => by cases ht
 | k + 1, hk, h1 => fun t ht => by
  rcases List.mem_append.1 ht with h | h
  ·exact bld_mays hv hf k (by omega) (by omega) t h
  ·have hp : fall (ls.getD k []) := hf _ (getD_in [] (by omega))
   have hm : mays [((1 : Int), powM v k)] := fun s hs => by rw [List.mem_singleton] at hs; subst hs; exact pow_may hv ⟨by omega, by omega⟩
   exact fall_may (tryT_fall (fall_mays hp) hm) t h
theorem bld_next {v : Int} {ls : List (List Term)} (k : Nat) : ofT (bldK v ls (k + 1)) = addT (ofT (bldK v ls k)) (tryT (ls.getD k []) [(1, powM v k)]).1 := ofT_app _ _
def bldOk (v : Int) (ls : List (List Term)) (k : Nat) : Prop := ∀ i, i < k → fitT (ls.getD i []) [(1, powM v i)]
theorem bldOk_next {v : Int} {ls : List (List Term)} {k : Nat} : bldOk v ls (k + 1) ↔ bldOk v ls k ∧ fitT (ls.getD k []) [(1, powM v k)] :=
 ⟨fun h => ⟨fun i hi => h i (by omega), h k (by omega)⟩, fun h i hi => by
  rcases Nat.lt_succ_iff_lt_or_eq.1 hi with h1 | rfl
  ·exact h.1 i h1
  ·exact h.2⟩
theorem bld_len {v : Int} {ls : List (List Term)} {m : Nat} (hm : ∀ p ∈ ls, p.length ≤ m) : ∀ k, k ≤ ls.length → (bldK v ls k).length ≤ k * m
 | 0, _ => by simp [bldK]
 | k + 1, hk => by
  have h1 := bld_len (v := v) hm k (by omega)
  have h2 := tryT_length (ls.getD k []) [((1 : Int), powM v k)]
  have h3 := hm _ (getD_in [] (show k < ls.length by omega))
  simp only [bldK, List.length_append]
  simp only [List.length_singleton, Nat.mul_one] at h2
  rw [Nat.add_mul, Nat.one_mul]
  omega
end Go.Proofs.YtdgpnfjohijpeaaGreat

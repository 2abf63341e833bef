/-
  What the laws of layer 6 go by.
-/
import Derived.Test.YteceomlbnajihaaGreatDoorRatioLaw
import Derived.Test.YteceomlbnajihaaGreatDoorRatioKnown
import Derived.Test.YteceomlbnajihaaGreatDoorRatioQ2
import Derived.Test.YteceomlbnajihaaGreatDoorRatioQT
import Derived.Test.YteceomlbnajihaaGreatDoorRatioFld
import Derived.Deep.Cut
import Derived.Deep.CutRange
set_option maxRecDepth 8192
namespace Go.Proofs.YteceomlbnajihaaGreatDoor
open Go.RowKit

theorem rx_of {w : World} {m : Bool} {ao : Option Addr} {n cap : Nat} {k : Bool} {bo : Option Addr} {l cb : Nat} {xs ys : List Nat} {x d : Int} {q : Rat} (hs : Sl w ao n cap xs) (ht : Sl w bo l cb ys) (hx : zOf m (val xs) = x) (hd : zOf k (val ys) = d) (hq : qv x d = q) (ln : n ≤ 8) (ll : l ≤ 8) : Rx w m ao n cap k bo l cb x d q 8 := by
  subst hx; subst hd; subst hq
  exact ⟨⟨⟨xs, hs, rfl⟩, by omega⟩, ⟨⟨ys, ht, rfl⟩, by omega⟩, rfl, In.bd ⟨xs, hs, rfl⟩ (by omega), In.bd ⟨ys, ht, rfl⟩ (by omega)⟩
theorem rx_whole {w : World} {m : Bool} {ao : Option Addr} {n cap : Nat} {x : Int} {j : Nat} (h : Nx w m ao n cap x) (hb : Bd x j) (_ : 1 ≤ j) : Rx w m ao n cap false none 0 0 x 0 (qv x 0) j :=
  ⟨h, (zero_cx w).nx, rfl, hb, by unfold Bd; exact Nat.pow_pos (by omega)⟩
theorem lim_no {n : Nat} (h : n ≤ 8) : decide (8 < n) = false := decide_eq_false (by omega)

theorem q_neg0 (q : Rat) : -q = Rat.divInt 0 1 - q := by
  have h : (Rat.divInt 0 1 : Rat) = 0 := by decide +kernel
  rw [h]
  grind
theorem qs_eq0 {a b : Rat} (h : a = b) : qs (a - b) = 0 := by subst h; exact qs_same a
theorem q_back (x : Rat) {y : Rat} (h : y ≠ 0) : x * y / y = x := by grind
theorem q_one (x : Rat) (h : x ≠ 0) : 1 / x * x = 1 := by grind
theorem wrap_qs (a b : Rat) (c t : Int) (h : qs a = c) (h' : qs b = t) : IntKind.i64.wrap (c * t) = c * t := by
  subst h; subst h'
  rcases qs_cases a with h | h | h <;> rcases qs_cases b with h' | h' | h' <;> rw [h, h'] <;> rfl
theorem q_whole (x : Int) : Rat.divInt x 1 = qv x 0 := by rw [qv_dn, dn_zero rfl]

end Go.Proofs.YteceomlbnajihaaGreatDoor

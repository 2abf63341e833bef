/-
  Plain facts: a number within a kind is not wrapped.
-/
import Derived.Test.YtkopkmbijmofjaaPlain
import Derived.IntWalk
namespace Go.Proofs.Ytkopkmbijmofjaa

theorem wrap_u32 (n : Nat) (h : n < 4294967296) : IntKind.u32.wrap (n : Int) = (n : Int) := by
  simp only [IntKind.wrap, IntKind.bits, IntKind.signed]
  simp only [Bool.false_and, Bool.false_eq_true, if_false]
  have : (2 : Int) ^ 32 = 4294967296 := by decide
  rw [this]
  omega

theorem wrap_i64 (n : Nat) (h : n < 9223372036854775808) : IntKind.i64.wrap (n : Int) = (n : Int) :=
  IntWalk.i64_in _ (by omega)

end Go.Proofs.Ytkopkmbijmofjaa

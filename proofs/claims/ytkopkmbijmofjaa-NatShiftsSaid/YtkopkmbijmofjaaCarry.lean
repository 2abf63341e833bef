/-
  The contracts of math/bits.Add32 and Sub32.
-/
import Derived.Test.YtkopkmbijmofjaaTrim
import Derived.Test.YtkopkmbijmofjaaAddPlain
import Derived.Test.YtkopkmbijmofjaaBitOps
namespace Go.Proofs.Ytkopkmbijmofjaa
open Go.RowKit

theorem ret_int2 {k l : IntKind} {a b c d : Int} (h : a = b) (h2 : c = d) : Ending.returned (.tuple #[.int k a, .int l c]) = .returned (.tuple #[.int k b, .int l d]) := by rw [h, h2]

set_option maxHeartbeats 400000 in
theorem add32_any (x y c : Nat) (w : World) (hx : x < 4294967296) (hy : y < 4294967296) (hc : c ≤ 1) :
    Calls Try.prog 34 #[.int .u32 (x : Int), .int .u32 (y : Int), .int .u32 (c : Int)] w fun e w' => e = .returned (.tuple #[.int .u32 (((x + y + c) % 4294967296 : Nat) : Int), .int .u32 (((x + y + c) / 4294967296 : Nat) : Int)]) ∧ w' = w := by
  go_enter Try.func34, Try.ntmps34
  go_wp2
  go_ret2
  exact ⟨ret_int2 (by omega) (by omega), rfl⟩

theorem sub_bits (x y d : Nat) (hx : x < 4294967296) (hy : y < 4294967296) (c : Nat) (hc : c ≤ 1) (hd : d = subD x y c) :
    (((4294967295 ^^^ x) &&& y) ||| ((4294967295 ^^^ (x ^^^ y)) &&& d)) / 2147483648 = subB x y c := by
  have e : (2147483648 : Nat) = 2 ^ 31 := by decide
  rw [e, Nat.or_div_two_pow, Nat.and_div_two_pow, Nat.and_div_two_pow, Nat.xor_div_two_pow, Nat.xor_div_two_pow, Nat.xor_div_two_pow, ← e]
  have h1 : x / 2147483648 = 0 ∨ x / 2147483648 = 1 := by omega
  have h2 : y / 2147483648 = 0 ∨ y / 2147483648 = 1 := by omega
  have hdl : d < 4294967296 := by rw [hd]; exact subD_lt _ _ _
  unfold subD at hd
  unfold subB
  have h3 : d / 2147483648 = 0 ∨ d / 2147483648 = 1 := by omega
  rcases h1 with h1 | h1 <;> rcases h2 with h2 | h2 <;> rcases h3 with h3 | h3 <;> rw [h1, h2, h3] <;> simp <;> omega

theorem sub_bits_int (x y c : Nat) (hx : x < 4294967296) (hy : y < 4294967296) (hc : c ≤ 1) :
    bits BinOp.or IntKind.u32 (bits BinOp.and IntKind.u32 (bits BinOp.xor IntKind.u32 IntKind.u32.max (x : Int)) (y : Int))
      (bits BinOp.and IntKind.u32 (bits BinOp.xor IntKind.u32 IntKind.u32.max (bits BinOp.xor IntKind.u32 (x : Int) (y : Int))) (((x : Int) - y - c) % 4294967296)) / 2147483648 = (subB x y c : Nat) := by
  have em : IntKind.u32.max = ((4294967295 : Nat) : Int) := by decide
  have ed : ((x : Int) - y - c) % 4294967296 = ((subD x y c : Nat) : Int) := by unfold subD; omega
  have hd := subD_lt x y c
  have l1 : (4294967295 ^^^ x) < 4294967296 := Nat.xor_lt_two_pow (n := 32) (by omega) hx
  have l2 : (x ^^^ y) < 4294967296 := Nat.xor_lt_two_pow (n := 32) hx hy
  have l3 : (4294967295 ^^^ (x ^^^ y)) < 4294967296 := Nat.xor_lt_two_pow (n := 32) (by omega) l2
  have l4 : ((4294967295 ^^^ x) &&& y) < 4294967296 := Nat.lt_of_le_of_lt Nat.and_le_right hy
  have l5 : ((4294967295 ^^^ (x ^^^ y)) &&& subD x y c) < 4294967296 := Nat.lt_of_le_of_lt Nat.and_le_right hd
  rw [em, ed, u32_xor_nat 4294967295 x (by omega) hx, u32_xor_nat x y hx hy, u32_xor_nat 4294967295 _ (by omega) l2, u32_and_nat _ y l1 hy, u32_and_nat _ _ l3 hd, u32_or_nat _ _ l4 l5, ← sub_bits x y _ hx hy c hc rfl]
  omega

set_option maxHeartbeats 400000 in
theorem sub32_any (x y c : Nat) (w : World) (hx : x < 4294967296) (hy : y < 4294967296) (hc : c ≤ 1) :
    Calls Try.prog 36 #[.int .u32 (x : Int), .int .u32 (y : Int), .int .u32 (c : Int)] w fun e w' => e = .returned (.tuple #[.int .u32 (subD x y c : Nat), .int .u32 (subB x y c : Nat)]) ∧ w' = w := by
  have H1 := Lib.hid (sub_bits_int x y c hx hy hc)
  have H2 : Hid (((x : Int) - y - c) % 4294967296 = ((subD x y c : Nat) : Int)) := by show _ = _; unfold subD; omega
  go_enter Try.func36, Try.ntmps36
  go_wp2
  all_goals
    go_ret2
    exact ⟨ret_int2 H2.out H1.out, rfl⟩
end Go.Proofs.Ytkopkmbijmofjaa

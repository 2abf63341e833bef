/-
  Plain facts on shifts to the right limb by limb.
-/
import Derived.Test.YtkopkmbijmofjaaShlPlain
namespace Go.Proofs.Ytkopkmbijmofjaa

theorem val_drop (zs : List Nat) (i : Nat) (h : i < zs.length) : val (zs.drop i) = zs.getD i 0 + 4294967296 * val (zs.drop (i + 1)) := by
  rw [List.drop_eq_getElem_cons h, val_cons]
  simp [List.getD, h]

theorem val_drop_div (xs : List Nat) (hw : Wf xs) (k : Nat) : val (xs.drop k) = val xs / 4294967296 ^ k := by
  by_cases hk : k ≤ xs.length
  · have h := val_append (xs.take k) (xs.drop k)
    rw [List.take_append_drop, List.length_take, Nat.min_eq_left hk] at h
    have hl := val_take_lt hw k hk
    rw [h, Nat.add_mul_div_left _ _ (Nat.pow_pos (by omega)), Nat.div_eq_of_lt hl, Nat.zero_add]
  · rw [List.drop_eq_nil_of_le (by omega), val_nil]
    have := val_lt xs hw
    have h2 : 4294967296 ^ xs.length ≤ 4294967296 ^ k := Nat.pow_le_pow_right (by omega) (by omega)
    exact (Nat.div_eq_of_lt (by omega)).symm

/-- what a limb is turned into: the one above it gives its lowest bits -/
def shrD (up d s : Nat) : Nat := (up * 4294967296 + d) / 2 ^ s % 4294967296

theorem shr_step (V W up d s : Nat) (hs : s < 32) (hd : d < 4294967296) (hV : V = up + 4294967296 * W) : (d + 4294967296 * V) / 2 ^ s = shrD up d s + 4294967296 * (V / 2 ^ s) := by
  have hp : 0 < 2 ^ s := Nat.two_pow_pos s
  have e : (4294967296 : Nat) = 2 ^ s * 2 ^ (32 - s) := by rw [← Nat.pow_add, show s + (32 - s) = 32 from by omega]
  have hR : V % 2 ^ s = up % 2 ^ s := by
    rw [hV, e, Nat.mul_assoc, Nat.add_mul_mod_self_left]
  have hRl : up % 2 ^ s < 2 ^ s := Nat.mod_lt _ hp
  have h1 : d + 4294967296 * V = (d + 4294967296 * (up % 2 ^ s)) + 2 ^ s * (4294967296 * (V / 2 ^ s)) := by
    have h := Nat.mod_add_div V (2 ^ s)
    rw [hR] at h
    have h3 : 4294967296 * V = 4294967296 * (up % 2 ^ s) + 4294967296 * (2 ^ s * (V / 2 ^ s)) := by rw [← Nat.mul_add, h]
    rw [h3, Nat.mul_left_comm (2 ^ s)]
    omega
  have h2 : up * 4294967296 + d = (d + 4294967296 * (up % 2 ^ s)) + 2 ^ s * (4294967296 * (up / 2 ^ s)) := by
    have h := Nat.mod_add_div up (2 ^ s)
    have h3 : 4294967296 * up = 4294967296 * (up % 2 ^ s) + 4294967296 * (2 ^ s * (up / 2 ^ s)) := by rw [← Nat.mul_add, h]
    rw [Nat.mul_comm up, h3, Nat.mul_left_comm (2 ^ s)]
    omega
  have hlt : (d + 4294967296 * (up % 2 ^ s)) / 2 ^ s < 4294967296 := by
    rw [Nat.div_lt_iff_lt_mul hp]
    have := Nat.mul_le_mul_left 4294967296 (show up % 2 ^ s + 1 ≤ 2 ^ s from hRl)
    omega
  unfold shrD
  rw [h1, h2, Nat.add_mul_div_left _ _ hp, Nat.add_mul_div_left _ _ hp, Nat.add_mul_mod_self_left, Nat.mod_eq_of_lt hlt]

theorem shr_bits (up x d : Nat) (hu : up < 4294967296) (hx : x < 4294967296) :
    bits BinOp.or IntKind.u64 ((up : Int) * 4294967296) (x : Int) / 2 ^ d % 4294967296 = ((shrD up x d : Nat) : Int) := by
  have e : (up : Int) * 4294967296 = ((2 ^ 32 * up : Nat) : Int) := by omega
  rw [e, or_u64' x up 32 (by omega) (by omega)]
  unfold shrD
  rw [show 2 ^ 32 * up + x = up * 4294967296 + x from by omega]
  simp

theorem shrD_lt (up d s : Nat) : shrD up d s < 4294967296 := Nat.mod_lt _ (by omega)

theorem shr_div (n s : Nat) : n / 4294967296 ^ (s / 32) / 2 ^ (s % 32) = n / 2 ^ s := by
  rw [Nat.div_div_eq_div_mul, pow_split]

/-- the limbs from place k on, without the noughts at the end -/
theorem val_mid (xs : List Nat) (hw : Wf xs) (k : Nat) : val ((trimL xs).drop k) = val xs / 4294967296 ^ k := by
  rw [val_drop_div _ hw.trim, val_trim]

end Go.Proofs.Ytkopkmbijmofjaa

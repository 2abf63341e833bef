/-
  Plain facts on the texts of whole numbers: of which number a text is, and back.
-/
import Derived.Test.YtocdlaakcecieaaDoorTxtPlain
import Derived.Test.YtocdlaakcecieaaDoorGWInt
import Derived.Laws.Concat
set_option maxRecDepth 8192
namespace Go.Proofs.YtocdlaakcecieaaDoor
open Go.Lib

/-- the number that a text stands for -/
def numZ (l : List UInt8) : Int := zOf (hasPrefix l [45]) (digVal (unsign l))

theorem itoa_neg' {z : Int} (h : z < 0) : itoa z = 45 :: decDigits z.natAbs := by unfold itoa; rw [if_pos h]
theorem itoa_pos' {z : Int} (h : 0 ≤ z) : itoa z = decDigits z.natAbs := by
  unfold itoa
  rw [if_neg (by omega), show z.toNat = z.natAbs by omega]

theorem itoa_sign (z : Int) : hasPrefix (itoa z) [45] = decide (z < 0) ∧ unsign (itoa z) = decDigits z.natAbs := by
  by_cases h : z < 0
  · rw [itoa_neg' h, decide_eq_true h]; exact unsign_neg _
  · rw [itoa_pos' (by omega), decide_eq_false h]; exact unsign_pos (dec_all _)

theorem numZ_itoa (z : Int) : numZ (itoa z) = z := by
  unfold numZ
  rw [(itoa_sign z).1, (itoa_sign z).2, dec_val, zOf_can]

theorem dec_48 {n : Nat} : (decDigits n).head? ≠ some 48 ∨ decDigits n = [48] := by
  rcases Nat.eq_zero_or_pos n with h | h
  · subst h; right; rw [decDigits_one (by omega)]; rfl
  · exact .inl (dec_head n h)

theorem numB_itoa (z : Int) : numB (itoa z) = true := by
  rw [numB_iff, (itoa_sign z).2]
  refine ⟨dec_ne _, dec_all _, ?_⟩
  by_cases h : z < 0
  · exact .inl (dec_head _ (by omega))
  · rw [itoa_pos' (by omega)]; exact dec_48

theorem numB_digits {l : List UInt8} (h : numB l = true) : decDigits (digVal (unsign l)) = unsign l := by
  obtain ⟨h1, h2, h3⟩ := numB_iff.1 h
  refine dec_of_digVal ((unsign l).length - 1) _ (by have := List.length_pos_iff.2 h1; omega) h2 ?_
  rcases h3 with h3 | h3
  · exact .inl h3
  · subst h3; exact .inr rfl

/-- no number's text has a sign before 0 -/
theorem numB_pos {l : List UInt8} (h : numB l = true) (hm : hasPrefix l [45] = true) : 0 < digVal (unsign l) := by
  have h0 := numB_digits h
  obtain ⟨h1, h2, h3⟩ := numB_iff.1 h
  rcases Nat.eq_zero_or_pos (digVal (unsign l)) with h4 | h4
  · rw [h4, decDigits_one (by omega)] at h0
    rcases h3 with h3 | h3
    · rw [← h0] at h3; exact absurd rfl h3
    · subst h3; exact absurd hm (by decide)
  · exact h4

theorem numB_sign {l : List UInt8} (h : numB l = true) : hasPrefix l [45] = decide (numZ l < 0) := by
  unfold numZ
  rw [zOf_neg]
  cases hm : hasPrefix l [45] with
  | false => rfl
  | true => have := numB_pos h hm; simp [this]

theorem numZ_abs (l : List UInt8) : (numZ l).natAbs = digVal (unsign l) := zOf_abs _ _

theorem itoa_numZ {l : List UInt8} (h : numB l = true) : itoa (numZ l) = l := by
  have h0 := numB_digits h
  have hs := numB_sign h
  rcases minus_cases l with ⟨r, rfl⟩ | ⟨hm, hu⟩
  · rw [(unsign_neg r).1] at hs
    have h1 : numZ (45 :: r) < 0 := of_decide_eq_true hs.symm
    rw [itoa_neg' h1, numZ_abs, h0, (unsign_neg r).2]
  · rw [hm] at hs
    have h1 := of_decide_eq_false hs.symm
    rw [itoa_pos' (by omega), numZ_abs, h0, hu]

theorem itoa_inj {x y : Int} (h : itoa x = itoa y) : x = y := by rw [← numZ_itoa x, h, numZ_itoa]

theorem itoa_ne_iff (x y : Int) : decide (itoa x = itoa y) = decide (x = y) := by
  rw [decide_eq_decide]; exact ⟨itoa_inj, fun h => by rw [h]⟩

theorem bd_digits {z : Int} {k : Nat} (h : Bd z k) : nDigits z.natAbs ≤ 10 * k + 1 := by
  refine nDigits_le (10 * k) _ ?_
  unfold Bd at h
  refine Nat.lt_of_lt_of_le h ?_
  rw [Nat.pow_succ, Nat.pow_mul]
  exact Nat.le_trans (Nat.pow_le_pow_left (show 4294967296 ≤ 10 ^ 10 by decide) k) (Nat.le_mul_of_pos_right _ (by omega))

theorem itoa_len {z : Int} {k : Nat} (h : Bd z k) : (itoa z).length ≤ 10 * k + 2 := by
  have h1 := bd_digits h
  by_cases hz : z < 0
  · rw [itoa_neg' hz, List.length_cons, decDigits_length]; omega
  · rw [itoa_pos' (by omega), decDigits_length]; omega

theorem itoa_zero : itoa 0 = [48] := by rw [itoa_pos' (by omega)]; exact decDigits_one (by omega)

theorem itoa_times {z : Int} (h : z ≠ 0) (k : Nat) : itoa (z * 10 ^ k) = itoa z ++ List.replicate k 48 := by
  have hp : (0 : Int) < 10 ^ k := Int.pow_pos (by omega)
  have ha : (z * 10 ^ k).natAbs = z.natAbs * 10 ^ k := by
    rw [Int.natAbs_mul, Int.natAbs_pow]; rfl
  by_cases hz : z < 0
  · have h1 : z * 10 ^ k < 0 := Int.mul_neg_of_neg_of_pos hz hp
    rw [itoa_neg' hz, itoa_neg' h1, ha, dec_times _ _ (by omega)]; rfl
  · have h1 : 0 ≤ z * 10 ^ k := Int.mul_nonneg (by omega) (by omega)
    rw [itoa_pos' h1, itoa_pos' (show 0 ≤ z by omega), ha, dec_times _ _ (by omega)]

/-- a text with its sign put ahead of its digits -/
theorem num_minus {z : Int} (h : z ≠ 0) : numB (45 :: decDigits z.natAbs) = true ∧ numZ (45 :: decDigits z.natAbs) = -(z.natAbs : Int) := by
  have e : (45 : UInt8) :: decDigits z.natAbs = itoa (-(z.natAbs : Int)) := by
    rw [itoa_neg' (by omega)]; simp
  rw [e]
  exact ⟨numB_itoa _, numZ_itoa _⟩

theorem num_plain (n : Nat) : numB (decDigits n) = true ∧ numZ (decDigits n) = (n : Int) := by
  have e : decDigits n = itoa (n : Int) := by rw [itoa_pos' (by omega)]; simp
  rw [e]
  exact ⟨numB_itoa _, numZ_itoa _⟩

theorem str_add {P : Program} (W : World) (x y : List UInt8) (h : x.length + y.length ≤ 9223372036854775807) : (Op.stringOp .add ⟨x.toArray⟩ ⟨y.toArray⟩).run P W = .ok (.string ⟨(x ++ y).toArray⟩) W := by
  rw [run_string_add_sum W _ _ (by simpa [ByteArray.size] using h), ByteArray.mk_append_mk]

end Go.Proofs.YtocdlaakcecieaaDoor

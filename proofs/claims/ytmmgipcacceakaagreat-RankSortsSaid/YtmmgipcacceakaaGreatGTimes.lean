/- TPlain, Bare, AddRow, TRows, TParts, TCut, TMul -/
import Derived.Test.YtmmgipcacceakaaGreatGNatB
import Derived.Test.YtmmgipcacceakaaGreatGLaw
set_option maxHeartbeats 40000000
set_option maxRecDepth 100000
/- Plain lemmas for layer 2: rows, parts, sums of parts. -/
namespace Go.Proofs.YtmmgipcacceakaaGreat
theorem mulrow_step {zs : List Nat} {p c S m : Nat} (hp : p < zs.length) (h : val zs + 4294967296 ^ p * c = S) :
  val (zs.set p ((m + zs.getD p 0 + c) % 4294967296)) + 4294967296 ^ (p + 1) * ((m + zs.getD p 0 + c) / 4294967296) = S + 4294967296 ^ p * m := by
 have h1 := val_set zs p ((m + zs.getD p 0 + c) % 4294967296) hp
 generalize zs.getD p 0 = u at *
 have h2 : 4294967296 ^ p * ((m + u + c) % 4294967296) + 4294967296 ^ (p + 1) * ((m + u + c) / 4294967296) = 4294967296 ^ p * m + 4294967296 ^ p * u + 4294967296 ^ p * c := by
  rw [Nat.pow_succ, Nat.mul_assoc, ← Nat.mul_add, ← Nat.mul_add, ← Nat.mul_add]
  congr 1
  omega
 omega
theorem row_wide {x n z c : Nat} (hx : x < 4294967296) (hn : n < 4294967296) (hz : z < 4294967296) (hc : c < 4294967296) : x * n ≤ 18446744065119617025 ∧ x * n + z + c < 18446744073709551616 := by
 have h : x * n ≤ 4294967295 * 4294967295 := Nat.mul_le_mul (by omega) (by omega)
 omega
theorem addrow_next {S i k P x n : Nat} (T : Nat) (h : T = S + 4294967296 ^ i * (P * n)) : T + 4294967296 ^ (i + k) * (x * n) = S + 4294967296 ^ i * ((P + 4294967296 ^ k * x) * n) := by
 rw [h, Nat.pow_add, Nat.add_mul, Nat.mul_add]
 have : 4294967296 ^ i * 4294967296 ^ k * (x * n) = 4294967296 ^ i * (4294967296 ^ k * x * n) := by
  simp only [Nat.mul_assoc]
 omega
theorem limbs_len32 {n k : Nat} (h : n < 4294967296 ^ k) : (limbs n).length ≤ k := by
 rcases Nat.lt_or_ge k (limbs n).length with hl | hl
 ·obtain ⟨j, hj⟩ : ∃ j, nl (limbs n) = j + 1 := ⟨(limbs n).length - 1, by rw [nl_limbs]; omega⟩
  have h1 := pow_le_of_nl j hj; rw [val_limbs] at h1
  have h2 : 4294967296 ^ k ≤ 4294967296 ^ j := Nat.pow_le_pow_right (by omega) (by rw [nl_limbs] at hj; omega)
  omega
 ·exact hl
theorem mul_lt_pow {a b m n : Nat} (ha : a < 4294967296 ^ m) (hb : b < 4294967296 ^ n) : a * b < 4294967296 ^ (m + n) := by
 rw [Nat.pow_add]
 exact Nat.mul_lt_mul'' ha hb
theorem kara (a0 a1 b0 b1 B : Nat) : a0 * b0 + (a1 * b1) * (B * B) + ((a0 + a1) * (b0 + b1) - a0 * b0 - a1 * b1) * B = (a0 + B * a1) * (b0 + B * b1) := by
 have h : (a0 + a1) * (b0 + b1) - a0 * b0 - a1 * b1 = a0 * b1 + a1 * b0 := by
  rw [Nat.add_mul, Nat.mul_add, Nat.mul_add]; omega
 rw [h]
 simp only [Nat.add_mul, Nat.mul_add]
 have e1 : a1 * b1 * (B * B) = B * a1 * (B * b1) := by
  simp only [Nat.mul_left_comm, Nat.mul_comm]
 have e2 : a0 * b1 * B = a0 * (B * b1) := by
  simp only [Nat.mul_left_comm, Nat.mul_comm]
 have e3 : a1 * b0 * B = B * a1 * b0 := by
  simp only [Nat.mul_left_comm, Nat.mul_comm]
 omega
theorem val_split (xs : List Nat) (h : Nat) (hl : h ≤ xs.length) : val xs = val (xs.take h) + 4294967296 ^ h * val (xs.drop h) := by
 have := val_append (xs.take h) (xs.drop h)
 rw [List.take_append_drop, List.length_take, Nat.min_eq_left hl] at this
 exact this
theorem lt_pow_of_mul {X p n : Nat} (h : X * 4294967296 ^ p < 4294967296 ^ n) (hp : p ≤ n) : X < 4294967296 ^ (n - p) := by
 have e : (4294967296 : Nat) ^ n = 4294967296 ^ (n - p) * 4294967296 ^ p := by rw [← Nat.pow_add]; congr 1; omega
 rw [e] at h
 exact Nat.lt_of_mul_lt_mul_right h
structure CutFacts (A C na nb h A0 A1 C0 C1 : Nat) : Prop where
 a : A = A0 + 4294967296 ^ h * A1
 c : C = C0 + 4294967296 ^ h * C1
 l0 : A0 + C0 < A + C
 l1 : A1 + C1 < A + C
 lm : A0 + A1 + (C0 + C1) < A + C
 sa : A0 + A1 ≤ A
 sc : C0 + C1 ≤ C
 la : A < 4294967296 ^ na
 lc : C < 4294967296 ^ nb
 low : A0 * C0 < 4294967296 ^ (2 * h)
 high : A1 * C1 < 4294967296 ^ (na + nb - 2 * h)
 mid : (A0 + A1) * (C0 + C1) - A0 * C0 - A1 * C1 < 4294967296 ^ (na + nb - h)
 s1 : A0 * C0 ≤ (A0 + A1) * (C0 + C1)
 s2 : A1 * C1 ≤ (A0 + A1) * (C0 + C1) - A0 * C0
 all : A0 * C0 + 4294967296 ^ (2 * h) * (A1 * C1) + 4294967296 ^ h * ((A0 + A1) * (C0 + C1) - A0 * C0 - A1 * C1) = A * C
theorem part_facts (xs : List Nat) (hw : Wf xs) (h : Nat) (h1 : 1 ≤ h) : val xs = val (xs.take h) + 4294967296 ^ h * val (xs.drop h) ∧ val (xs.take h) < 4294967296 ^ h ∧ (h < nl xs → 0 < val (xs.drop h)) ∧ val (xs.take h) + val (xs.drop h) ≤ val xs := by
 have e1 : val xs = val (xs.take h) + 4294967296 ^ h * val (xs.drop h) := by
  rcases Nat.le_total h xs.length with hl | hl
  ·exact val_split xs h hl
  ·rw [List.take_of_length_le hl, List.drop_of_length_le hl]; simp [val]
 have e2 : val (xs.take h) < 4294967296 ^ h := by
  have := val_lt _ (hw.take h)
  refine Nat.lt_of_lt_of_le this (Nat.pow_le_pow_right (by omega) ?_)
  rw [List.length_take]; omega
 refine ⟨e1, e2, fun hn => ?_, ?_⟩
 ·rcases Nat.eq_zero_or_pos (val (xs.drop h)) with h0 | h0
  ·rw [h0] at e1
   obtain ⟨j, hj⟩ : ∃ j, nl xs = j + 1 := ⟨nl xs - 1, by omega⟩
   have h3 := pow_le_of_nl j hj
   have h4 : 4294967296 ^ h ≤ 4294967296 ^ j := Nat.pow_le_pow_right (by omega) (by omega)
   omega
  ·exact h0
 ·have : 1 * val (xs.drop h) ≤ 4294967296 ^ h * val (xs.drop h) := Nat.mul_le_mul_right _ (Nat.pos_of_ne_zero (by simp))
  omega
theorem pow_two_le {h : Nat} (h1 : 1 ≤ h) : 2 ≤ 4294967296 ^ h := by
 have : (4294967296 : Nat) ^ 1 ≤ 4294967296 ^ h := Nat.pow_le_pow_right (by omega) h1
 omega
theorem cut_facts {A C na nb h : Nat} (hA : (limbs A).length = na) (hC : (limbs C).length = nb) (h2 : 1 ≤ h) (h3 : h < na ∨ h < nb) (h4 : 2 * h ≤ na + nb) :
  CutFacts A C na nb h (val ((limbs A).take h)) (val ((limbs A).drop h)) (val ((limbs C).take h)) (val ((limbs C).drop h)) := by
 obtain ⟨a1, a2, a3, a4⟩ := part_facts (limbs A) (wf_limbs A) h h2; obtain ⟨c1, c2, c3, c4⟩ := part_facts (limbs C) (wf_limbs C) h h2; rw [nl_limbs, hA] at a3; rw [nl_limbs, hC] at c3; have na' := val_lt (limbs A) (wf_limbs A); have nb' := val_lt (limbs C) (wf_limbs C); rw [val_limbs] at a1 a4 c1 c4 na' nb'; rw [hA] at na'; rw [hC] at nb'
 generalize val ((limbs A).take h) = A0 at *
 generalize val ((limbs A).drop h) = A1 at *
 generalize val ((limbs C).take h) = C0 at *
 generalize val ((limbs C).drop h) = C1 at *
 have hP := pow_two_le h2
 have hAC : A * C < 4294967296 ^ (na + nb) := mul_lt_pow na' nb'
 have e2h : (4294967296 : Nat) ^ (2 * h) = 4294967296 ^ h * 4294967296 ^ h := by rw [Nat.two_mul, Nat.pow_add]
 have hall : A0 * C0 + 4294967296 ^ (2 * h) * (A1 * C1) + 4294967296 ^ h * ((A0 + A1) * (C0 + C1) - A0 * C0 - A1 * C1) = A * C := by
  rw [a1, c1, ← kara, e2h, Nat.mul_comm (A1 * C1), Nat.mul_comm ((A0 + A1) * (C0 + C1) - A0 * C0 - A1 * C1)]
 have hx : (A0 + A1) * (C0 + C1) = A0 * C0 + A1 * C1 + (A0 * C1 + A1 * C0) := by rw [Nat.add_mul, Nat.mul_add, Nat.mul_add]; omega
 have hA1 : A0 + 2 * A1 ≤ A := by
  have := Nat.mul_le_mul_right A1 hP
  omega
 have hC1 : C0 + 2 * C1 ≤ C := by
  have := Nat.mul_le_mul_right C1 hP
  omega
 refine ⟨a1, c1, ?_, ?_, ?_, a4, c4, na', nb', ?_, ?_, ?_, ?_, ?_, hall⟩
 ·rcases h3 with h3 | h3
  ·have := a3 h3; omega
  ·have := c3 h3; omega
 ·rcases h3 with h3 | h3
  ·have := a3 h3; omega
  ·have := c3 h3; omega
 ·rcases h3 with h3 | h3
  ·have := a3 h3; omega
  ·have := c3 h3; omega
 ·rw [e2h]; exact Nat.mul_lt_mul'' a2 c2
 ·refine lt_pow_of_mul ?_ h4
  rw [Nat.mul_comm]
  omega
 ·refine lt_pow_of_mul ?_ (by omega)
  rw [Nat.mul_comm]
  omega
 ·omega
 ·omega
theorem val_drop_zero {zs : List Nat} {k : Nat} (hz : ∀ t, k ≤ t → zs.getD t 0 = 0) : val (zs.drop k) = 0 := by
 have hd : ∀ (l : List Nat), (∀ t, l.getD t 0 = 0) → val l = 0 := by
  intro l
  induction l with
  | nil => intro _; rfl
  | cons x l ih =>
   intro hl
   have h0 := hl 0
   simp at h0
   rw [val_cons, h0, ih (fun t => by have := hl (t + 1); simpa using this)]
 refine hd _ fun t => ?_
 have := hz (k + t) (by omega)
 simpa [List.getD, List.getElem?_drop] using this
theorem val_lay {zs ys : List Nat} {k : Nat} (hz : ∀ t, k ≤ t → zs.getD t 0 = 0) (hl : k + ys.length ≤ zs.length) : val (zs.take k ++ (ys ++ zs.drop (k + ys.length))) = val zs + 4294967296 ^ k * val ys := by
 have h1 : val (zs.drop (k + ys.length)) = 0 := val_drop_zero fun t ht => hz t (by omega)
 have h2 : val (zs.take k) = val zs := by
  have := val_split zs k (by omega)
  rw [val_drop_zero hz] at this
  omega
 rw [val_append, val_append, h1, h2, List.length_take, Nat.min_eq_left (by omega), Nat.mul_zero, Nat.add_zero]
theorem lay_zero {zs ys : List Nat} {k t : Nat} (hz : ∀ t, k ≤ t → zs.getD t 0 = 0) (hl : k + ys.length ≤ zs.length) (ht : k + ys.length ≤ t) : (zs.take k ++ (ys ++ zs.drop (k + ys.length))).getD t 0 = 0 := by
 have h1 : (zs.take k).length = k := by rw [List.length_take]; omega
 have := hz t (by omega)
 simp only [List.getD] at this ⊢
 rw [List.getElem?_append_right (by omega), List.getElem?_append_right (by omega), h1, List.getElem?_drop, ← this]
 congr 2
 omega
theorem wf_lay {zs ys : List Nat} {k : Nat} (hz : Wf zs) (hy : Wf ys) : Wf (zs.take k ++ (ys ++ zs.drop (k + ys.length))) := by
 intro x hx
 rcases List.mem_append.1 hx with hx | hx
 ·exact hz x (List.mem_of_mem_take hx)
 ·rcases List.mem_append.1 hx with hx | hx
  ·exact hy x hx
  ·exact hz x (List.mem_of_mem_drop hx)
theorem len_lay {zs ys : List Nat} {k : Nat} (hl : k + ys.length ≤ zs.length) : (zs.take k ++ (ys ++ zs.drop (k + ys.length))).length = zs.length := by
 simp; omega
end Go.Proofs.YtmmgipcacceakaaGreat

/- The contract of times.bare: the limbs without the noughts at the end, not copied. -/
namespace Go.Proofs.YtmmgipcacceakaaGreat
open Go.RowKit
def BareOf (w : World) (ys : List Nat) (k : Nat) (e : Ending) (w' : World) : Prop :=
 ∃ ao n cap, e = .returned (.slice ao n cap) ∧ Sl w ao n cap ys ∧ n ≤ k ∧ w = w'
theorem Sl.take {w : World} {ao : Option Addr} {n cap : Nat} {xs : List Nat} (h : Sl w ao n cap xs) (k : Nat) (hk : k ≤ n) : Sl w ao k cap (xs.take k) :=
 ⟨by rw [List.length_take, h.len]; omega, by have := h.le; omega, by have := h.big; omega, h.wf |> fun hw x hx => hw x (List.mem_of_mem_take hx), h.nil, fun ad had t ht => by
  rw [h.cells ad had t (by omega)]
  congr 3
  simp [List.getD, ht]⟩
theorem nbits_up {xs : List Nat} (h : Wf xs) : (nbits (val xs) + 31) / 32 = nl xs := by
 by_cases h0 : nl xs = 0
 ·have : val xs = 0 := trimL_nil.1 (trimL_nil_of h0)
  rw [this, h0]; rfl
 ·obtain ⟨k, hk⟩ : ∃ k, nl xs = k + 1 := ⟨nl xs - 1, by omega⟩
  have h1 := nbits_val h k hk
  have hlt : xs.getD k 0 < 4294967296 := by
   by_cases ht : k < xs.length
   ·simp only [List.getD, List.getElem?_eq_getElem ht, Option.getD_some]
    exact h _ (List.getElem_mem ht)
   ·simp [List.getD, List.getElem?_eq_none (by omega : xs.length ≤ k)]
  have h2 : nbits (xs.getD k 0) ≤ 32 := nbits_le (by omega)
  have h3 : nbits (xs.getD k 0) ≠ 0 := by
   intro hz
   have hz' := nbits_eq_zero.1 hz
   have := nl_take_zero xs k (by have := nl_le xs; omega) hz'
   have h5 := nl_le (xs.take k); rw [List.length_take] at h5
   have h6 : nl (xs.take (k + 1)) = k + 1 := by
    have e : xs.take (k + 1) = trimL xs := by rw [trimL_take, hk]
    rw [e]
    unfold nl
    have := trimL_take (trimL xs)
    have h7 : trimL (trimL xs) = trimL xs := by rw [trim_limbs xs h, trim_of_limbs]
    rw [h7]; exact hk
   omega
  omega
theorem bare_any (ao : Option Addr) (n cap : Nat) (xs : List Nat) (w : World) (hs : Sl w ao n cap xs) :
  Calls Tryz.prog 136 #[.slice ao n cap] w (BareOf w (limbs (val xs)) n) := by
 have hle := hs.le; have hbig := hs.big
 have hnl : nl xs ≤ n := by have := nl_le xs; rw [hs.len] at this; exact this
 have HT : Hid (limbs (val xs) = xs.take (nl xs)) := by show _ = _; rw [← trim_limbs xs hs.wf, trimL_take]
 have hup := nbits_up hs.wf; obtain ⟨b, hb⟩ : ∃ b, b = nbits (val xs) := ⟨_, rfl⟩; obtain ⟨m, hm⟩ : ∃ m, m = nl xs := ⟨_, rfl⟩; rw [← hb, ← hm] at hup; rw [← hm] at HT hnl; have HB := Lib.hid hb
 have hbl : b ≤ 32 * m := by omega
 have hdv : (((b : Nat) : Int) + 32 - 1) / 32 = ((m : Nat) : Int) := by omega
 have HM := Lib.hid hm; clear hb hup hm
 go_enter Tryz.func136, Tryz.ntmps136
 by_cases h0 : m = 0
 ·subst h0
  go_wp2_with fail; refine (bits_is b _ _ _ _ _ hs HB.out.symm).mono ?_
  rintro e w' ⟨rfl, rfl⟩; go_wp2_with fail
  go_ret
  exact ⟨_, _, _, rfl, by rw [HT.out]; exact Sl.none _, Nat.zero_le _, rfl⟩
 ·have hb0 : (((m : Nat) : Int) == 0) = false := by simp; omega
  go_wp2_with fail; refine (bits_is b _ _ _ _ _ hs HB.out.symm).mono ?_
  rintro e w' ⟨rfl, rfl⟩; go_wp2_with fail
  go_ret
  exact ⟨_, _, _, rfl, by rw [HT.out]; exact hs.take m hnl, hnl, rfl⟩
theorem bare_own (B : Nat) (ao : Option Addr) (n cap : Nat) (xs : List Nat) (w : World) (h : Own B w ao n cap xs) :
  Calls Tryz.prog 136 #[.slice ao n cap] w (CutOf B w (limbs (val xs))) := by
 have hs := h.sl; have hle := hs.le; have hbig := hs.big
 have hnl : nl xs ≤ n := by have := nl_le xs; rw [hs.len] at this; exact this
 have HT : Hid (limbs (val xs) = xs.take (nl xs)) := by show _ = _; rw [← trim_limbs xs hs.wf, trimL_take]
 have hup := nbits_up hs.wf; obtain ⟨b, hb⟩ : ∃ b, b = nbits (val xs) := ⟨_, rfl⟩; obtain ⟨m, hm⟩ : ∃ m, m = nl xs := ⟨_, rfl⟩; rw [← hb, ← hm] at hup; rw [← hm] at HT hnl; have HB := Lib.hid hb
 have hbl : b ≤ 32 * m := by omega
 have hdv : (((b : Nat) : Int) + 32 - 1) / 32 = ((m : Nat) : Int) := by omega
 clear hb hup hm
 go_enter Tryz.func136, Tryz.ntmps136
 by_cases h0 : m = 0
 ·subst h0
  go_wp2_with fail; refine (bits_is b _ _ _ _ _ hs HB.out.symm).mono ?_
  rintro e w' ⟨rfl, rfl⟩; go_wp2_with fail
  go_ret
  exact ⟨_, _, _, rfl, by rw [HT.out]; exact Own.nil _ _, rfl⟩
 ·have hb0 : (((m : Nat) : Int) == 0) = false := by simp; omega
  go_wp2_with fail; refine (bits_is b _ _ _ _ _ hs HB.out.symm).mono ?_
  rintro e w' ⟨rfl, rfl⟩; go_wp2_with fail
  go_ret
  exact ⟨_, _, _, rfl, by rw [HT.out]; exact h.take m hnl (by omega), rfl⟩
end Go.Proofs.YtmmgipcacceakaaGreat

/- The contract of times.addRow: a row's products are added to limbs of the call's own. -/
namespace Go.Proofs.YtmmgipcacceakaaGreat
open Lib (hid)
open Go.RowKit
def RowOf (w0 : World) (g N : Nat) (zs : List Nat) (p S c : Nat) (w' : World) : Prop :=
 ∃ ys, Own w0.heap.size w' (some ⟨g, 0, none⟩) N N ys ∧ Below w0.heap.size w0 w' ∧ val ys + 4294967296 ^ p * c = S ∧ ∀ t, p ≤ t → ys.getD t 0 = zs.getD t 0
def RowRet (w0 : World) (g N : Nat) (zs : List Nat) (p S : Nat) (e : Ending) (w' : World) : Prop :=
 ∃ c : Nat, e = .returned (.int .u32 (c : Int)) ∧ c < 4294967296 ∧ RowOf w0 g N zs p S c w'
theorem addrow_any (w0 w : World) (g N i : Nat) (zs : List Nat) (a0 : Option Addr) (la ca : Nat) (xs : List Nat) (n : Nat) (ha : Sl w0 a0 la ca xs) (hB : Below w0.heap.size w0 w)
  (hO : Own w0.heap.size w (some ⟨g, 0, none⟩) N N zs) (hg : w0.heap.size ≤ g) (hfit : i + la ≤ N) (hn : n < 4294967296) :
  Calls Tryz.prog 139 #[.slice (some ⟨g, i, none⟩) (N - i) (N - i), .slice a0 la ca, .int .u32 (n : Int)] w (RowRet w0 g N zs (i + la) (val zs + 4294967296 ^ i * (val xs * n))) := by
 have b1 := ha.big; have l1 := ha.le; have hNb := hO.big
 have HX : Hid (xs.take la = xs) := take_all xs la ha.len
 have hI : RowOf w0 g N zs (i + 0) (val zs + 4294967296 ^ i * (val (xs.take 0) * n)) 0 w := ⟨zs, hO, hB, by simp [val], fun _ _ => rfl⟩
 go_enter Tryz.func139, Tryz.ntmps139
 clear hO hB; go_wp2_with fail
 go_loopw [7, 8, 9, 10, 13] (fun c _ _ _ j wr => ∃ k cc : Nat, k ≤ la ∧ j = .int .i64 k ∧ c = .int .u64 cc ∧ cc < 4294967296 ∧ RowOf w0 g N zs (i + k) (val zs + 4294967296 ^ i * (val (xs.take k) * n)) cc wr) (fun _ _ _ _ j _ => la - (intOf j).toNat)
 case atStart => exact ⟨0, 0, Nat.zero_le _, rfl, rfl, by omega, hI⟩
 case round =>
  clear hI; obtain ⟨k, cc, hk, rfl, rfl, hcc, ys, hO, hB, hV, hZ⟩ := hrel
  by_cases hkl : k < la
  ·obtain ⟨b, off, rfl, hbb, hcb⟩ := ha.at (by omega)
   have hxc : wr.cell? ⟨b, off + k, none⟩ = some (.int .u32 (xs.getD k 0 : Nat)) := (hB.cell (by exact hbb)).trans (hcb k (by omega))
   have hzc := hO.cell (i + k) (by omega)
   have hzf := hO.frozen (i + k); have hxl := ha.getD_lt k; have hzl := hO.getD_lt (i + k)
   have hstep := mulrow_step (m := xs.getD k 0 * n) (by rw [hO.len]; omega) hV
   obtain ⟨x, hx⟩ : ∃ x, x = xs.getD k 0 := ⟨_, rfl⟩; obtain ⟨z, hz⟩ : ∃ z, z = ys.getD (i + k) 0 := ⟨_, rfl⟩; rw [← hx] at hxc hxl hstep; rw [← hz] at hzc hzl hstep; have HX := hid hx; have HST := hid hstep; have HZ := hid hZ; obtain ⟨hw1, hw2⟩ := row_wide hxl hn hzl hcc; obtain ⟨m, hm⟩ : ∃ m, m = x * n := ⟨_, rfl⟩; rw [← hm] at hw1 hw2; have HM := hid hm
   have hmi : ((x : Nat) : Int) * ((n : Nat) : Int) = ((m : Nat) : Int) := by rw [hm]; simp
   clear hx hz hV hZ hstep hcb hm
   go_wp2
   go_roundw
   case rel =>
    have e1 : (((m : Nat) : Int) + ((z : Nat) : Int) + ((cc : Nat) : Int)) / 4294967296 = (((x * n + z + cc) / 4294967296 : Nat) : Int) := by rw [← HM.out]; omega
    have e2 : (((m : Nat) : Int) + ((z : Nat) : Int) + ((cc : Nat) : Int)) % 4294967296 = (((x * n + z + cc) % 4294967296 : Nat) : Int) := by rw [← HM.out]; omega
    refine ⟨k + 1, (x * n + z + cc) / 4294967296, by omega, by go_num, by rw [e1], by rw [← HM.out]; omega, ?_⟩
    rw [e2]
    refine ⟨_, hO.set (i + k) _ (Nat.mod_lt _ (by omega)), hB.setCell hg _, ?_, fun t ht => ?_⟩
    ·rw [← Nat.add_assoc, HST.out, val_take_succ xs k (by rw [ha.len]; omega), ← HX.out]
     exact addrow_next _ rfl
    ·rw [getD_set, if_neg (by omega)]
     exact HZ.out t (by omega)
   case measure => simp [intOf]; omega
  ·obtain rfl : k = la := by omega
   rw [HX.out] at hV; have HV := hid hV
   have HZ := hid hZ; clear hV hZ
   go_wp2
   go_ret
   refine ⟨cc, ret_int (by omega), hcc, ys, hO, hB, HV.out, HZ.out⟩
end Go.Proofs.YtmmgipcacceakaaGreat

/- The contract of times.Rows. -/
namespace Go.Proofs.YtmmgipcacceakaaGreat
open Lib (hid)
open Go.RowKit
def RowsInv (B g N la : Nat) (w : World) (S k : Nat) (wr : World) : Prop :=
 ∃ zs, Own B wr (some ⟨g, 0, none⟩) N N zs ∧ Below B w wr ∧ val zs = S ∧ ∀ t, k + la ≤ t → zs.getD t 0 = 0
theorem rows_next {ys : List Nat} {p S c N : Nat} (h : val ys + 4294967296 ^ p * c = S) (hl : ys.length = N) (hp : p < N) (h0 : ys.getD p 0 = 0) : val (ys.set p c) = S := by
 have := val_set ys p c (by omega)
 rw [h0] at this
 omega
theorem rows_ge (a0 b0 : Option Addr) (la ca lb cb : Nat) (xs ys : List Nat) (w : World) (ha : Sl w a0 la ca xs) (hb : Sl w b0 lb cb ys) (hge : (limbs (val ys)).length ≤ (limbs (val xs)).length) (ra : la ≤ 1000000000000) (rb : lb ≤ 1000000000000) :
  Calls Tryz.prog 137 #[.slice a0 la ca, .slice b0 lb cb] w (NewSl w (limbs (val xs * val ys))) := by
 obtain ⟨i0, hi, hz0, hz1, hz2⟩ := info_parts Tryz.info_u32
 go_enter Tryz.func137, Tryz.ntmps137
 go_wp2_with fail; refine (bare_any _ _ _ _ _ ha).mono ?_
 rintro e w' ⟨a1, n1, c1, rfl, hA, hn1, rfl⟩; go_wp2_with fail; refine (bare_any _ _ _ _ _ hb).mono ?_; rintro e w' ⟨b1, m1, d1, rfl, hB, hm1, rfl⟩; rw [hA.len, hB.len] at hge
 go_wp2_with (at_make; refine wpList_make_full _ rfl _ _ 50 rfl w.heap.size 118 i0 (.int .u32 0) 1 Tryz.underlying50 hi hz0 hz1 _ _ _ _ (n1 + m1) rfl rfl (by omega) (by omega) ?b2 ?b3 (Nat.le_refl _) ?_)
 case b2 => rw [hz2]; omega
 case b3 => unfold maxLen; omega
 intro w1 hown1 hgrow1
 rw [made_u32] at hown1
 have hb1 : Below w.heap.size w w1 := (Below.refl _ _).grown hgrow1 (Nat.le_refl _) (fun k h => by cases h)
 have hO1 : Own w.heap.size w1 (some ⟨w.heap.size, 0, none⟩) (n1 + m1) (n1 + m1) (List.replicate (n1 + m1) 0) :=
  ⟨hown1, by omega, fun x hx => by rw [(List.mem_replicate.1 hx).2]; omega⟩
 have hI : RowsInv w.heap.size w.heap.size (n1 + m1) n1 w (val xs * val ((limbs (val ys)).take 0)) 0 w1 :=
  ⟨_, hO1, hb1, by rw [val_replicate]; simp [val], fun t _ => getD_replicate_zero _ _⟩
 have HYL : Hid ((limbs (val ys)).take m1 = limbs (val ys)) := take_all _ _ hB.len
 have HXS : Hid (val (limbs (val xs)) = val xs) := val_limbs _
 clear hown1 hgrow1 hb1 hO1; go_wp2_with fail
 go_loopw [6, 7, 27] (fun _ _ j wr => ∃ k : Nat, k ≤ m1 ∧ j = .int .i64 k ∧ RowsInv w.heap.size w.heap.size (n1 + m1) n1 w (val xs * val ((limbs (val ys)).take k)) k wr) (fun _ _ j _ => m1 - (intOf j).toNat)
 case atStart => exact ⟨0, Nat.zero_le _, rfl, hI⟩
 case round =>
  clear hI; obtain ⟨k, hk, rfl, zs, hO, hBl, hV, hZ⟩ := hrel
  by_cases hkm : k < m1
  ·obtain ⟨b, off, rfl, hbb, hcb⟩ := hB.at (by omega)
   have hyc : wr.cell? ⟨b, off + k, none⟩ = some (.int .u32 ((limbs (val ys)).getD k 0 : Nat)) := (hBl.cell (by exact hbb)).trans (hcb k (by omega))
   have hyl := hB.getD_lt k
   have HTS := hid (val_take_succ (limbs (val ys)) k (by rw [hB.len]; omega))
   obtain ⟨y, hy⟩ : ∃ y, y = (limbs (val ys)).getD k 0 := ⟨_, rfl⟩; rw [← hy] at hyc hyl HTS; have HV := hid hV; have HZ := hid hZ
   have HADD := hid (addrow_any w wr w.heap.size (n1 + m1) k zs a1 n1 c1 _ y hA hBl hO (Nat.le_refl _) (by omega) hyl)
   clear hy hV hZ hcb; go_wp2_with fail
   refine HADD.out.mono ?_
   rintro e w2 ⟨cc, rfl, hcc, us, hO2, hB2, hV2, hZ2⟩; have hzf := hO2.frozen (k + n1)
   have hzc := hO2.cell (k + n1) (by omega)
   have HV2 := hid hV2; have HZ2 := hid hZ2; clear hV2 hZ2 HADD
   have HZ0 : Hid (us.getD (k + n1) 0 = 0) := by show _ = _; rw [HZ2.out _ (Nat.le_refl _)]; exact HZ.out _ (Nat.le_refl _)
   rw [HZ0.out] at hzc; go_wp2_with fail
   go_roundw
   case rel =>
    refine ⟨k + 1, by omega, by go_num, _, hO2.set (k + n1) cc hcc, hB2.setCell (Nat.le_refl _) _, ?_, fun t ht => ?_⟩
    ·rw [rows_next HV2.out hO2.len (by omega) HZ0.out, HV.out, HXS.out, HTS.out, Nat.mul_add]
     congr 1
     rw [Nat.mul_left_comm]
    ·rw [getD_set, if_neg (by omega), HZ2.out t (by omega)]
     exact HZ.out t (by omega)
   case measure => simp [intOf]; omega
  ·obtain rfl : k = m1 := by omega
   rw [HYL.out, val_limbs] at hV; have hbare := bare_own _ _ _ _ _ _ hO
   rw [hV] at hbare; have HBA := hid hbare
   clear hbare hV hZ; go_wp2_with fail
   refine HBA.out.mono fun e w' h => ?_
   obtain ⟨ao, kk, cap, rfl, h3, rfl⟩ := h; go_wp2_with fail
   go_ret
   exact ⟨_, _, _, rfl, h3, hBl⟩
theorem rows_lt (a0 b0 : Option Addr) (la ca lb cb : Nat) (xs ys : List Nat) (w : World) (ha : Sl w a0 la ca xs) (hb : Sl w b0 lb cb ys) (hge : (limbs (val ys)).length < (limbs (val xs)).length) (ra : la ≤ 1000000000000) (rb : lb ≤ 1000000000000) :
  Calls Tryz.prog 137 #[.slice b0 lb cb, .slice a0 la ca] w (NewSl w (limbs (val xs * val ys))) := by
 obtain ⟨i0, hi, hz0, hz1, hz2⟩ := info_parts Tryz.info_u32
 go_enter Tryz.func137, Tryz.ntmps137
 go_wp2_with fail; refine (bare_any _ _ _ _ _ hb).mono ?_
 rintro e w' ⟨b1, m1, d1, rfl, hB, hm1, rfl⟩; go_wp2_with fail; refine (bare_any _ _ _ _ _ ha).mono ?_; rintro e w' ⟨a1, n1, c1, rfl, hA, hn1, rfl⟩; rw [hA.len, hB.len] at hge
 go_wp2_with (at_make; refine wpList_make_full _ rfl _ _ 50 rfl w.heap.size 118 i0 (.int .u32 0) 1 Tryz.underlying50 hi hz0 hz1 _ _ _ _ (n1 + m1) rfl rfl (by omega) (by omega) ?b2 ?b3 (Nat.le_refl _) ?_)
 case b2 => rw [hz2]; omega
 case b3 => unfold maxLen; omega
 intro w1 hown1 hgrow1
 rw [made_u32] at hown1
 have hb1 : Below w.heap.size w w1 := (Below.refl _ _).grown hgrow1 (Nat.le_refl _) (fun k h => by cases h)
 have hO1 : Own w.heap.size w1 (some ⟨w.heap.size, 0, none⟩) (n1 + m1) (n1 + m1) (List.replicate (n1 + m1) 0) :=
  ⟨hown1, by omega, fun x hx => by rw [(List.mem_replicate.1 hx).2]; omega⟩
 have hI : RowsInv w.heap.size w.heap.size (n1 + m1) n1 w (val xs * val ((limbs (val ys)).take 0)) 0 w1 :=
  ⟨_, hO1, hb1, by rw [val_replicate]; simp [val], fun t _ => getD_replicate_zero _ _⟩
 have HYL : Hid ((limbs (val ys)).take m1 = limbs (val ys)) := take_all _ _ hB.len
 have HXS : Hid (val (limbs (val xs)) = val xs) := val_limbs _
 clear hown1 hgrow1 hb1 hO1; go_wp2_with fail
 go_loopw [6, 7, 27] (fun _ _ j wr => ∃ k : Nat, k ≤ m1 ∧ j = .int .i64 k ∧ RowsInv w.heap.size w.heap.size (n1 + m1) n1 w (val xs * val ((limbs (val ys)).take k)) k wr) (fun _ _ j _ => m1 - (intOf j).toNat)
 case atStart => exact ⟨0, Nat.zero_le _, rfl, hI⟩
 case round =>
  clear hI; obtain ⟨k, hk, rfl, zs, hO, hBl, hV, hZ⟩ := hrel
  by_cases hkm : k < m1
  ·obtain ⟨b, off, rfl, hbb, hcb⟩ := hB.at (by omega)
   have hyc : wr.cell? ⟨b, off + k, none⟩ = some (.int .u32 ((limbs (val ys)).getD k 0 : Nat)) := (hBl.cell (by exact hbb)).trans (hcb k (by omega))
   have hyl := hB.getD_lt k
   have HTS := hid (val_take_succ (limbs (val ys)) k (by rw [hB.len]; omega))
   obtain ⟨y, hy⟩ : ∃ y, y = (limbs (val ys)).getD k 0 := ⟨_, rfl⟩; rw [← hy] at hyc hyl HTS; have HV := hid hV; have HZ := hid hZ
   have HADD := hid (addrow_any w wr w.heap.size (n1 + m1) k zs a1 n1 c1 _ y hA hBl hO (Nat.le_refl _) (by omega) hyl)
   clear hy hV hZ hcb; go_wp2_with fail
   refine HADD.out.mono ?_
   rintro e w2 ⟨cc, rfl, hcc, us, hO2, hB2, hV2, hZ2⟩; have hzf := hO2.frozen (k + n1)
   have hzc := hO2.cell (k + n1) (by omega)
   have HV2 := hid hV2; have HZ2 := hid hZ2; clear hV2 hZ2 HADD
   have HZ0 : Hid (us.getD (k + n1) 0 = 0) := by show _ = _; rw [HZ2.out _ (Nat.le_refl _)]; exact HZ.out _ (Nat.le_refl _)
   rw [HZ0.out] at hzc; go_wp2_with fail
   go_roundw
   case rel =>
    refine ⟨k + 1, by omega, by go_num, _, hO2.set (k + n1) cc hcc, hB2.setCell (Nat.le_refl _) _, ?_, fun t ht => ?_⟩
    ·rw [rows_next HV2.out hO2.len (by omega) HZ0.out, HV.out, HXS.out, HTS.out, Nat.mul_add]
     congr 1
     rw [Nat.mul_left_comm]
    ·rw [getD_set, if_neg (by omega), HZ2.out t (by omega)]
     exact HZ.out t (by omega)
   case measure => simp [intOf]; omega
  ·obtain rfl : k = m1 := by omega
   rw [HYL.out, val_limbs] at hV; have hbare := bare_own _ _ _ _ _ _ hO
   rw [hV] at hbare; have HBA := hid hbare
   clear hbare hV hZ; go_wp2_with fail
   refine HBA.out.mono fun e w' h => ?_
   obtain ⟨ao, kk, cap, rfl, h3, rfl⟩ := h; go_wp2_with fail
   go_ret
   exact ⟨_, _, _, rfl, h3, hBl⟩
theorem rows_any (a0 b0 : Option Addr) (la ca lb cb : Nat) (xs ys : List Nat) (w : World) (ha : Sl w a0 la ca xs) (hb : Sl w b0 lb cb ys) (ra : la ≤ 1000000000000) (rb : lb ≤ 1000000000000) :
  Calls Tryz.prog 137 #[.slice a0 la ca, .slice b0 lb cb] w (NewSl w (limbs (val xs * val ys))) := by
 by_cases h : (limbs (val ys)).length ≤ (limbs (val xs)).length
 ·exact rows_ge a0 b0 la ca lb cb xs ys w ha hb h ra rb
 ·rw [Nat.mul_comm]
  exact rows_lt b0 a0 lb cb la ca ys xs w hb ha (by omega) rb ra
end Go.Proofs.YtmmgipcacceakaaGreat

/- The contracts of times.parts, times.less and times.addInto. -/
namespace Go.Proofs.YtmmgipcacceakaaGreat
open Lib (hid)
open Go.RowKit
theorem sl_drop {w : World} {b off n cap : Nat} {xs : List Nat} (h : Sl w (some ⟨b, off, none⟩) n cap xs) (k : Nat) (hk : k ≤ n) : Sl w (some ⟨b, off + k, none⟩) (n - k) (cap - k) (xs.drop k) := by
 have hl := h.le; have hb := h.big
 refine Sl.of_cells (by rw [List.length_drop, h.len]) (by omega) (by omega) (fun x hx => h.wf x (List.mem_of_mem_drop hx)) fun t ht => ?_
 have := h.cells _ rfl (k + t) (by omega)
 rw [Addr.add_lit] at this; rw [Nat.add_assoc, this]
 congr 3
 simp [List.getD, List.getElem?_drop]
def PartsOf (w : World) (lo hi : List Nat) (n : Nat) (e : Ending) (w' : World) : Prop :=
 ∃ a0 la ca b0 lb cb q, e = .returned (.tuple #[.slice a0 la ca, .slice b0 lb cb]) ∧ Sl w' a0 la ca lo ∧ Sl w' b0 lb cb hi ∧ la ≤ n ∧ lb ≤ n ∧ w' = w.drewN q
theorem parts_any (ao : Option Addr) (n cap : Nat) (xs : List Nat) (k : Nat) (w : World) (hs : Sl w ao n cap xs) :
  Calls Tryz.prog 140 #[.slice ao n cap, .int .i64 (k : Int)] w (PartsOf w (xs.take k) (xs.drop k) n) := by
 have hle := hs.le; have hbig := hs.big
 by_cases hk : n ≤ k
 ·have H1 : Hid (xs.take k = xs) := List.take_of_length_le (by rw [hs.len]; exact hk)
  have H2 : Hid (xs.drop k = []) := List.drop_of_length_le (by rw [hs.len]; exact hk)
  go_enter Tryz.func140, Tryz.ntmps140
  go_wp2
  go_ret2
  exact ⟨_, _, _, _, _, _, 0, rfl, by rw [H1.out]; exact hs, by rw [H2.out]; exact Sl.none _, Nat.le_refl _, Nat.zero_le _, rfl⟩
 ·obtain ⟨b, off, rfl, hb, _⟩ := hs.at (by omega)
  have S1 := hid (hs.take k (by omega))
  have S2 := hid (sl_drop hs k (by omega))
  have hd : decide ((n : Int) ≤ (k : Int)) = false := by simp; omega
  have hck : (cap == k) = false := by simp; omega
  have hck2 : ¬ (cap = k) := by omega
  go_enter Tryz.func140, Tryz.ntmps140
  go_wp2
  go_quiet (fail)
  go_wp2
  go_ret2
  exact ⟨_, _, _, _, _, _, _, rfl, S1.out.drewN _, S2.out.drewN _, by omega, by omega, rfl⟩
theorem less_any (a0 b0 : Option Addr) (la ca lb cb : Nat) (xs ys : List Nat) (w : World) (ha : Sl w a0 la ca xs) (hb : Sl w b0 lb cb ys) (hge : val ys ≤ val xs) :
  Calls Tryz.prog 141 #[.slice a0 la ca, .slice b0 lb cb] w (NewSl w (limbs (val xs - val ys))) := by
 go_enter Tryz.func141, Tryz.ntmps141
 go_wp2_with fail; refine (sub_any _ _ _ _ _ _ _ _ _ ha hb hge).mono ?_
 rintro e w1 ⟨c0, n, c, rfl, hO, hB⟩; go_wp2_with fail
 go_ret
 exact ⟨_, _, _, rfl, hO, hB⟩
def IntoInv (w0 : World) (g N p S c : Nat) (w' : World) : Prop :=
 ∃ ys, Own w0.heap.size w' (some ⟨g, 0, none⟩) N N ys ∧ Below w0.heap.size w0 w' ∧ val ys + 4294967296 ^ p * c = S
def IntoRet (w0 : World) (g N S : Nat) (e : Ending) (w' : World) : Prop :=
 ∃ ys, e = .returned (.tuple #[]) ∧ Own w0.heap.size w' (some ⟨g, 0, none⟩) N N ys ∧ Below w0.heap.size w0 w' ∧ val ys = S
theorem addinto_any (w0 w : World) (g N i : Nat) (zs : List Nat) (a0 : Option Addr) (la ca : Nat) (xs : List Nat) (ha : Sl w0 a0 la ca xs) (hB : Below w0.heap.size w0 w)
  (hO : Own w0.heap.size w (some ⟨g, 0, none⟩) N N zs) (hg : w0.heap.size ≤ g) (hfit : i + la ≤ N) (hS : val zs + 4294967296 ^ i * val xs < 4294967296 ^ N) :
  Calls Tryz.prog 142 #[.slice (some ⟨g, i, none⟩) (N - i) (N - i), .slice a0 la ca] w (IntoRet w0 g N (val zs + 4294967296 ^ i * val xs)) := by
 have b1 := ha.big; have l1 := ha.le; have hNb := hO.big
 have HX : Hid (xs.take la = xs) := take_all xs la ha.len
 have HS := hid hS
 have hI : IntoInv w0 g N (i + 0) (val zs + 4294967296 ^ i * val (xs.take 0)) 0 w := ⟨zs, hO, hB, by simp [val]⟩
 go_enter Tryz.func142, Tryz.ntmps142
 clear hO hB hS; go_wp2_with fail
 go_loopw [4, 5, 6, 10] (fun c _ _ j wr => ∃ k cc : Nat, k ≤ la ∧ j = .int .i64 k ∧ c = .int .u32 cc ∧ cc ≤ 1 ∧ IntoInv w0 g N (i + k) (val zs + 4294967296 ^ i * val (xs.take k)) cc wr) (fun _ _ _ j _ => la - (intOf j).toNat)
 case atStart => exact ⟨0, 0, Nat.zero_le _, rfl, rfl, by omega, hI⟩
 case round =>
  clear hI; obtain ⟨k, cc, hk, rfl, rfl, hcc, hinv⟩ := hrel
  by_cases hkl : k < la
  ·obtain ⟨ys, hO, hB, hV⟩ := hinv
   obtain ⟨b, off, rfl, hbb, hcb⟩ := ha.at (by omega)
   have hxc : wr.cell? ⟨b, off + k, none⟩ = some (.int .u32 (xs.getD k 0 : Nat)) := (hB.cell (by exact hbb)).trans (hcb k (by omega))
   have hzc := hO.cell (i + k) (by omega)
   have hzf := hO.frozen (i + k); have hxl := ha.getD_lt k; have hzl := hO.getD_lt (i + k)
   have hstep := add_step (y := xs.getD k 0) (by rw [hO.len]; omega) hV
   rw [show (4294967296 : Nat) ^ (i + k) * xs.getD k 0 = 4294967296 ^ i * (4294967296 ^ k * xs.getD k 0) from by rw [Nat.pow_add, Nat.mul_assoc], ← Nat.mul_add, ← val_take_succ xs k (by rw [ha.len]; omega)] at hstep
   obtain ⟨x, hx⟩ : ∃ x, x = xs.getD k 0 := ⟨_, rfl⟩; obtain ⟨z, hz⟩ : ∃ z, z = ys.getD (i + k) 0 := ⟨_, rfl⟩; rw [← hx] at hxc hxl hstep; rw [← hz] at hzc hzl hstep; have HST := hid hstep; clear hx hz hV hstep hcb
   go_wp2_with (go_at_call 131; refine (add32_any z x cc _ hzl hxl hcc).mono ?_; rintro e w' ⟨rfl, rfl⟩)
   go_roundw
   case rel => exact ⟨k + 1, (z + x + cc) / 4294967296, by omega, by go_num, by go_num, by omega, _, hO.set (i + k) _ (Nat.mod_lt _ (by omega)), hB.setCell hg _, HST.out⟩
   case measure => simp [intOf]; omega
  ·obtain rfl : k = la := by omega
   have hI3 : IntoInv w0 g N (i + k) (val zs + 4294967296 ^ i * val xs) cc wr := by
    rwa [HX.out] at hinv
   clear hinv
   go_wp2
   go_loopw [4, 7] (fun c j wr => ∃ k cc : Nat, i + k ≤ N ∧ j = .int .i64 k ∧ c = .int .u32 cc ∧ cc ≤ 1 ∧ IntoInv w0 g N (i + k) (val zs + 4294967296 ^ i * val xs) cc wr) (fun _ j _ => N + 1 - (intOf j).toNat)
   case atStart => exact ⟨k, cc, hfit, rfl, rfl, hcc, hI3⟩
   case round =>
    clear hI3; obtain ⟨k, cc, hk, rfl, rfl, hcc, ys, hO, hB, hV⟩ := hrel
    by_cases hc0 : cc = 0
    ·have hb0 : (((cc : Nat) : Int) != 0) = false := by simp; omega
     have HV : Hid (val ys = val zs + 4294967296 ^ i * val xs) := by
      rw [hc0] at hV
      show _ = _
      omega
     clear hV hc0
     go_wp2
     go_end0
     exact ⟨ys, rfl, hO, hB, HV.out⟩
    ·have hb0 : (((cc : Nat) : Int) != 0) = true := by simp; omega
     have hkn : i + k < N := by
      rcases Nat.lt_or_ge (i + k) N with h | h
      ·exact h
      ·have h1 : 4294967296 ^ N ≤ 4294967296 ^ (i + k) := Nat.pow_le_pow_right (by omega) h
       have h2 : 4294967296 ^ (i + k) * 1 ≤ 4294967296 ^ (i + k) * cc := Nat.mul_le_mul_left _ (by omega)
       have := HS.out
       omega
     have hzc := hO.cell (i + k) (by omega)
     have hzf := hO.frozen (i + k)
     have hstep := add_step (y := 0) (by rw [hO.len]; omega) hV
     rw [Nat.mul_zero, Nat.add_zero (4294967296 ^ i * val xs)] at hstep; have hzl := hO.getD_lt (i + k)
     obtain ⟨z, hz⟩ : ∃ z, z = ys.getD (i + k) 0 := ⟨_, rfl⟩; rw [← hz] at hzc hzl hstep; have HST := hid hstep; clear hz hV hstep hc0
     go_wp2_with (go_at_call 131; refine (add32_any z 0 cc _ hzl (by omega) hcc).mono ?_; rintro e w' ⟨rfl, rfl⟩)
     go_roundw
     case rel => exact ⟨k + 1, (z + 0 + cc) / 4294967296, by omega, by go_num, by go_num, by omega, _, hO.set (i + k) _ (Nat.mod_lt _ (by omega)), hB.setCell hg _, HST.out⟩
     case measure => simp [intOf]; omega
end Go.Proofs.YtmmgipcacceakaaGreat

/- The contracts of times.cut and of product: the product by the parts' products. -/
namespace Go.Proofs.YtmmgipcacceakaaGreat
open Lib (hid)
open Go.RowKit
def ProdOk (k V : Nat) : Prop :=
 ∀ (a0 b0 : Option Addr) (la ca lb cb : Nat) (xs ys : List Nat) (w : World), Sl w a0 la ca xs → Sl w b0 lb cb ys → val xs + val ys < V → la ≤ 1000000000000 → lb ≤ 1000000000000 →
  Calls Tryz.prog 128 #[.int .i64 (k : Int), .slice a0 la ca, .slice b0 lb cb] w (NewSl w (limbs (val xs * val ys)))
theorem limbs_le {n k : Nat} (h : n < 4294967296 ^ k) : (limbs n).length ≤ k := limbs_len32 h
theorem cells_lay (zs ys : List Nat) (k : Nat) : splice (cellsOf zs) k (cellsOf ys) = cellsOf (zs.take k ++ (ys ++ zs.drop (k + ys.length))) := by
 unfold splice
 rw [cellsOf_append, cellsOf_append, cellsOf_take, cellsOf_drop, cellsOf_length]
theorem own_heap {B : Nat} {w : World} {g n : Nat} {ys : List Nat} (h : Own B w (some ⟨g, 0, none⟩) n n ys) : Hid (w.heap[g]? = some (.cells (cellsOf ys).toArray 118 (0, 0))) := row_full h.row
theorem Sl.hpos {w : World} {ao : Option Addr} {n cap : Nat} {xs : List Nat} (h : Sl w ao n cap xs) (h0 : 0 < (cellsOf xs).length) : ∃ ad, ao = some ad ∧ ∀ j v, (cellsOf xs)[j]? = some v → w.cell? (ad.add j) = some v := by
 rw [cellsOf_length, h.len] at h0
 have := h.src n (Nat.le_refl _) h0
 rwa [take_all xs n h.len] at this
theorem cut_any (k A C : Nat) (a0 b0 : Option Addr) (la ca lb cb : Nat) (w : World) (ha : Sl w a0 la ca (limbs A)) (hb : Sl w b0 lb cb (limbs C)) (ha2 : 2 ≤ la) (hb2 : 2 ≤ lb) (ra : la ≤ 1000000000000) (rb : lb ≤ 1000000000000) (hIH : ProdOk k (A + C)) :
  Calls Tryz.prog 138 #[.slice a0 la ca, .slice b0 lb cb, .func (.func 128) #[.int .i64 (k : Int)] #[]] w (NewSl w (limbs (A * C))) := by
 obtain ⟨i0, hi, hz0, hz1, hz2⟩ := info_parts Tryz.info_u32
 obtain ⟨h, hh, h1, h2, h3, h4⟩ : ∃ h : Nat, (max (la : Int) (lb : Int) + 1) / 2 = (h : Int) ∧ 1 ≤ h ∧ (h < la ∨ h < lb) ∧ 2 * h < la + lb ∧ h ≤ la + lb := ⟨(max la lb + 1) / 2, by omega, by omega, by omega, by omega, by omega⟩
 have HF : Hid (CutFacts A C la lb h _ _ _ _) := cut_facts (h := h) ha.len hb.len h1 h2 (by omega)
 obtain ⟨xs, hxs⟩ : ∃ xs, xs = limbs A := ⟨_, rfl⟩; obtain ⟨ys, hys⟩ : ∃ ys, ys = limbs C := ⟨_, rfl⟩; rw [← hxs] at ha; rw [← hys] at hb; rw [← hxs, ← hys] at HF; clear hxs hys; have HL0 := hid (All.cons ha (All.cons hb (All.nil _))); have HB0 := hid (Below.refl w.heap.size w); clear ha hb
 go_enter Tryz.func138, Tryz.ntmps138
 go_wp2_with fail; refine (parts_any _ _ _ _ h _ HL0.out.head).mono ?_
 rintro e w1 ⟨p0, pn, pc, px, pm, pd, q, rfl, hX, hY, hp1, hp2, hq⟩
 have hB : Below w.heap.size w w1 := by rw [hq]; exact below_drewN _ _ _
 have HL1 := hid (All.cons hX (All.cons hY (HL0.out.below hB))); have HB1 := hid (Below.steps HB0.out hB); clear hX hY hq hB HL0 HB0; go_wp2_with fail; refine (parts_any _ _ _ _ h _ HL1.out.tl.tl.tl.head).mono ?_; rintro e w2 ⟨r0, rn, rc, rx, rm, rd, q, rfl, hX, hY, hr1, hr2, hq⟩
 have hB : Below w1.heap.size w1 w2 := by rw [hq]; exact below_drewN _ _ _
 have HL2 := hid (All.cons hX (All.cons hY (HL1.out.below hB))); have HB2 := hid (Below.steps HB1.out hB); clear hX hY hq hB HL1 HB1; go_wp2_with fail
 refine ((hIH _ _ _ _ _ _ _ _ _ HL2.out.tl.tl.head HL2.out.head HF.out.l0 (by omega) (by omega))).mono ?_
 rintro e w3 ⟨lo0, lon, loc, rfl, hX, hB⟩
 have hlo : lon ≤ 2 * h := by rw [← hX.len]; exact limbs_le HF.out.low
 have HL3 := hid (All.cons hX.sl (HL2.out.below hB)); have HB3 := hid (Below.steps HB2.out hB); clear hX hB HL2 HB2; go_wp2_with fail
 refine ((hIH _ _ _ _ _ _ _ _ _ HL3.out.tl.tl.tl.tl.head HL3.out.tl.tl.head HF.out.l1 (by omega) (by omega))).mono ?_
 rintro e w4 ⟨hg0, hgn, hgc, rfl, hX, hB⟩
 have hhg : hgn ≤ la + lb - 2 * h := by rw [← hX.len]; exact limbs_le HF.out.high
 have HL4 := hid (All.cons hX.sl (HL3.out.below hB)); have HB4 := hid (Below.steps HB3.out hB); clear hX hB HL3 HB3; go_wp2_with fail
 refine (add_any _ _ _ _ _ _ _ _ _ HL4.out.tl.tl.tl.tl.head HL4.out.tl.tl.tl.tl.tl.head (by omega) (by omega)).mono ?_
 rintro e w5 ⟨sa0, san, sac, rfl, hX, hB⟩
 have hn_sa : san ≤ la := by rw [← hX.len]; exact limbs_le (Nat.lt_of_le_of_lt HF.out.sa HF.out.la)
 have HL5 := hid (All.cons hX.sl (HL4.out.below hB)); have HB5 := hid (Below.steps HB4.out hB); clear hX hB HL4 HB4; go_wp2_with fail
 refine (add_any _ _ _ _ _ _ _ _ _ HL5.out.tl.tl.tl.head HL5.out.tl.tl.tl.tl.head (by omega) (by omega)).mono ?_
 rintro e w6 ⟨sc0, scn, scc, rfl, hX, hB⟩
 have hn_sc : scn ≤ lb := by rw [← hX.len]; exact limbs_le (Nat.lt_of_le_of_lt HF.out.sc HF.out.lc)
 have HL6 := hid (All.cons hX.sl (HL5.out.below hB)); have HB6 := hid (Below.steps HB5.out hB); clear hX hB HL5 HB5; go_wp2_with fail
 refine ((hIH _ _ _ _ _ _ _ _ _ HL6.out.tl.head HL6.out.head (by rw [val_limbs, val_limbs]; exact HF.out.lm) (by omega) (by omega))).mono ?_
 rintro e w7 ⟨mx0, mxn, mxc, rfl, hX, hB⟩; rw [val_limbs, val_limbs] at hX; have HL7 := hid (All.cons hX.sl (HL6.out.below hB)); have HB7 := hid (Below.steps HB6.out hB); clear hX hB HL6 HB6; go_wp2_with fail
 refine (less_any _ _ _ _ _ _ _ _ _ HL7.out.head HL7.out.tl.tl.tl.tl.head (by rw [val_limbs, val_limbs]; exact HF.out.s1)).mono ?_
 rintro e w8 ⟨d10, d1n, d1c, rfl, hX, hB⟩; rw [val_limbs, val_limbs] at hX; have HL8 := hid (All.cons hX.sl (HL7.out.below hB)); have HB8 := hid (Below.steps HB7.out hB); clear hX hB HL7 HB7; go_wp2_with fail
 refine (less_any _ _ _ _ _ _ _ _ _ HL8.out.head HL8.out.tl.tl.tl.tl.head (by rw [val_limbs, val_limbs]; exact HF.out.s2)).mono ?_
 rintro e w9 ⟨d20, d2n, d2c, rfl, hX, hB⟩; rw [val_limbs, val_limbs] at hX
 have hmd : d2n ≤ la + lb - h := by rw [← hX.len]; exact limbs_le HF.out.mid
 have HL9 := hid (All.cons hX.sl (HL8.out.below hB)); have HB9 := hid (Below.steps HB8.out hB); clear hX hB HL8 HB8
 go_wp2_with (at_make; refine wpList_make_full _ rfl _ _ 50 rfl w9.heap.size 118 i0 (.int .u32 0) 1 Tryz.underlying50 hi hz0 hz1 _ _ _ _ (la + lb) rfl rfl (by omega) (by omega) ?b2 ?b3 (Nat.le_refl _) ?_)
 case b2 => rw [hz2]; omega
 case b3 => unfold maxLen; omega
 intro v1 hown1 hgrow1
 rw [made_u32] at hown1
 have hb1 : Below w9.heap.size w9 v1 := (Below.refl _ _).grown hgrow1 (Nat.le_refl _) (fun k h => by cases h)
 have hO1 : Own w9.heap.size v1 (some ⟨w9.heap.size, 0, none⟩) (la + lb) (la + lb) (List.replicate (la + lb) 0) :=
  ⟨hown1, by omega, fun x hx => by rw [(List.mem_replicate.1 hx).2]; omega⟩
 have hZ1 : ∀ t, 0 ≤ t → (List.replicate (la + lb) 0).getD t 0 = 0 := fun t _ => getD_replicate_zero _ _
 have SLO := hid HL9.out.tl.tl.tl.tl.tl.tl.head; have SHI := hid HL9.out.tl.tl.tl.tl.tl.head; have SMD := hid HL9.out.head; have HG1 := own_heap hO1; have hlol := SLO.out.len; have hhil := SHI.out.len
 have e1 := val_lay (ys := limbs (val (xs.take h) * val (ys.take h))) hZ1 (by rw [hlol]; simp; omega)
 have z1 : ∀ t, 0 + (limbs (val (xs.take h) * val (ys.take h))).length ≤ t → _ := fun t => lay_zero (t := t) hZ1 (by rw [hlol]; simp; omega)
 have f1 : Wf _ := wf_lay (k := 0) hO1.wf (wf_limbs (val (xs.take h) * val (ys.take h)))
 have g1 := len_lay (zs := List.replicate (la + lb) 0) (ys := limbs (val (xs.take h) * val (ys.take h))) (k := 0) (by rw [hlol]; simp; omega)
 have HSP1 := hid (cells_lay (List.replicate (la + lb) 0) (limbs (val (xs.take h) * val (ys.take h))) 0); obtain ⟨zs1, hzs1⟩ : ∃ zs1, zs1 = (List.replicate (la + lb) 0).take 0 ++ (limbs (val (xs.take h) * val (ys.take h)) ++ (List.replicate (la + lb) 0).drop (0 + (limbs (val (xs.take h) * val (ys.take h))).length)) := ⟨_, rfl⟩; rw [← hzs1] at e1 z1 f1 g1 HSP1; rw [val_replicate, val_limbs, Nat.zero_add, Nat.pow_zero, Nat.one_mul] at e1; rw [List.length_replicate] at g1; rw [Nat.zero_add, hlol] at z1
 have hZ2 : ∀ t, 2 * h ≤ t → zs1.getD t 0 = 0 := fun t ht => z1 t (by omega)
 have e2 := val_lay (ys := limbs (val (xs.drop h) * val (ys.drop h))) hZ2 (by rw [hhil, g1]; omega)
 have f2 : Wf _ := wf_lay (k := 2 * h) f1 (wf_limbs (val (xs.drop h) * val (ys.drop h)))
 have g2 := len_lay (zs := zs1) (ys := limbs (val (xs.drop h) * val (ys.drop h))) (k := 2 * h) (by rw [hhil, g1]; omega)
 have HSP2 := hid (cells_lay zs1 (limbs (val (xs.drop h) * val (ys.drop h))) (2 * h)); obtain ⟨zs2, hzs2⟩ : ∃ zs2, zs2 = zs1.take (2 * h) ++ (limbs (val (xs.drop h) * val (ys.drop h)) ++ zs1.drop (2 * h + (limbs (val (xs.drop h) * val (ys.drop h))).length)) := ⟨_, rfl⟩; rw [← hzs2] at e2 f2 g2 HSP2; rw [e1, val_limbs] at e2; rw [g1] at g2; obtain ⟨cz, hcz⟩ : ∃ cz, cz = cellsOf (List.replicate (la + lb) 0) := ⟨_, rfl⟩
 have HCZL : Hid (cz.length = la + lb) := by show _ = _; rw [hcz, cellsOf_length, List.length_replicate]
 rw [← hcz] at HG1 HSP1; obtain ⟨cl, hcl⟩ : ∃ cl, cl = cellsOf (limbs (val (xs.take h) * val (ys.take h))) := ⟨_, rfl⟩
 have HCLL : Hid (cl.length = lon) := by show _ = _; rw [hcl, cellsOf_length, hlol]
 have HCLP : Hid (0 < cl.length → ∃ ad, lo0 = some ad ∧ ∀ j v, cl[j]? = some v → v1.cell? (ad.add j) = some v) := by rw [hcl]; exact fun h0 => (SLO.out.below hb1).hpos h0
 have HCL1 : Hid (∀ v ∈ cl, v.oneCell' = true) := by rw [hcl]; exact cellsOf_one _
 rw [← hcl] at HSP1; obtain ⟨c1, hc1⟩ : ∃ c1, c1 = cellsOf zs1 := ⟨_, rfl⟩
 have HC1L : Hid (c1.length = la + lb) := by show _ = _; rw [hc1, cellsOf_length, g1]
 rw [← hc1] at HSP1 HSP2; obtain ⟨ch, hch⟩ : ∃ ch, ch = cellsOf (limbs (val (xs.drop h) * val (ys.drop h))) := ⟨_, rfl⟩
 have HCHL : Hid (ch.length = hgn) := by show _ = _; rw [hch, cellsOf_length, hhil]
 have HCHP : Hid (∀ v2, Below w9.heap.size w9 v2 → 0 < ch.length → ∃ ad, hg0 = some ad ∧ ∀ j v, ch[j]? = some v → v2.cell? (ad.add j) = some v) := by rw [hch]; exact fun v2 hb h0 => (SHI.out.below hb).hpos h0
 have HCH1 : Hid (∀ v ∈ ch, v.oneCell' = true) := by rw [hch]; exact cellsOf_one _
 rw [← hch] at HSP2; have HV2 := hid e2
 have HF2 := hid f2; have HL2 := hid g2; have HBW := HB9; clear hzs1 hzs2 e1 e2 f1 f2 g1 g2 z1 hZ1 hZ2 hlol hhil hcz hcl hc1 hch hown1 hgrow1 hO1
 go_wp2_with (first
  | ((with_reducible refine wpList_copy_splice rfl (.tmp 62) (.tmp 63) 50 50 rfl 118 rfl Tryz.size_u32 _ _ _ _ _ _ rfl rfl w9.heap.size 0 cz 118 HG1.out cl (by rw [HCLL.out]; exact (Nat.min_eq_left (by omega)).symm) (fun h => ⟨rfl, HCLP.out h⟩) (by rw [HCLL.out, HCZL.out]; omega) HCL1.out w9.heap.size w9 hb1 (Nat.le_refl _) ?_); intro v2 HG2 hb2; rw [HSP1.out] at HG2; clear HG1 HCLL HCLP HCL1 HCZL HSP1 hb1)
  | ((with_reducible refine wpList_copy_splice rfl (.tmp 68) (.tmp 69) 50 50 rfl 118 rfl Tryz.size_u32 _ _ _ _ _ _ rfl rfl w9.heap.size (2 * h) c1 118 HG2.out ch (by rw [HCHL.out]; exact (Nat.min_eq_left (by omega)).symm) (fun h => ⟨rfl, HCHP.out _ hb2 h⟩) (by rw [HCHL.out, HC1L.out]; omega) HCH1.out w9.heap.size w9 hb2 (Nat.le_refl _) ?_); intro v3 HG3 hb3; rw [HSP2.out] at HG3; clear HG2 HCHL HCHP HCH1 HC1L HSP2 hb2))
 have HO3 : Hid (Own w9.heap.size v3 (some ⟨w9.heap.size, 0, none⟩) (la + lb) (la + lb) zs2) := Own.at_row (Nat.le_refl _) HL2.out (by omega) HF2.out HG3.out
 have HINTO := hid (addinto_any w9 v3 w9.heap.size (la + lb) h zs2 _ _ _ _ SMD.out hb3 HO3.out (Nat.le_refl _) (by omega) (by rw [HV2.out, val_limbs, HF.out.all]; exact mul_lt_pow HF.out.la HF.out.lc))
 rw [HV2.out, val_limbs, HF.out.all] at HINTO; clear HG3 HO3 HV2 HF2 HL2
 go_wp2_with fail
 refine HINTO.out.mono ?_
 rintro e v4 ⟨zs4, rfl, hO4, hb4, hv4⟩; have hbare := bare_own _ _ _ _ _ _ hO4; rw [hv4] at hbare; have HBA := hid hbare; clear hbare hv4 HINTO hO4; go_wp2_with fail
 refine HBA.out.mono fun e w' h => ?_
 obtain ⟨ao, kk, cap, rfl, h3, rfl⟩ := h; go_wp2_with fail
 go_ret
 exact ⟨_, _, _, rfl, h3.mono HBW.out.size, Below.steps HBW.out hb4⟩
end Go.Proofs.YtmmgipcacceakaaGreat

/- The contract of times.Mul. -/
namespace Go.Proofs.YtmmgipcacceakaaGreat
open Go.RowKit
theorem prod_step (k V : Nat) (hk : 2 ≤ k) (hk2 : k ≤ 1000000) (hIH : ProdOk k V) : ProdOk k (V + 1) := by
 intro a0 b0 la ca lb cb xs ys w ha hb hV ra rb
 have HIH : Hid (ProdOk k (val xs + val ys)) := fun a0 b0 la ca lb cb xs' ys' w ha hb h ra rb => hIH a0 b0 la ca lb cb xs' ys' w ha hb (by omega) ra rb
 clear hIH; have HV := Lib.hid hV; clear hV
 go_enter Tryz.func128, Tryz.ntmps128
 go_wp2_with fail; refine (bare_any _ _ _ _ _ ha).mono ?_
 rintro e w' ⟨a1, n1, c1, rfl, hA, hn1, rfl⟩; go_wp2_with fail; refine (bare_any _ _ _ _ _ hb).mono ?_; rintro e w' ⟨b1, m1, d1, rfl, hB, hm1, rfl⟩
 by_cases hlt : min n1 m1 < k
 ·have d1 : decide (min (n1 : Int) (m1 : Int) < (k : Int)) = true := by simp; omega
  go_wp2_with fail
  have h := rows_any _ _ _ _ _ _ _ _ _ hA hB (by omega) (by omega)
  rw [val_limbs, val_limbs] at h
  refine h.mono ?_
  rintro e w1 ⟨c0, cn, cc, rfl, hC, hb1⟩; go_wp2_with fail
  go_ret
  exact ⟨_, _, _, rfl, hC, hb1⟩
 ·have d1 : decide (min (n1 : Int) (m1 : Int) < (k : Int)) = false := by simp; omega
  go_wp2_with fail
  refine (cut_any k _ _ _ _ _ _ _ _ _ hA hB (by omega) (by omega) (by omega) (by omega) HIH.out).mono ?_
  rintro e w1 ⟨c0, cn, cc, rfl, hC, hb1⟩; go_wp2_with fail
  go_ret
  exact ⟨_, _, _, rfl, hC, hb1⟩
theorem prod_ok (k : Nat) (hk : 2 ≤ k) (hk2 : k ≤ 1000000) (V : Nat) : ProdOk k V := by
 induction V with
 | zero => intro a0 b0 la ca lb cb xs ys w ha hb hV; omega
 | succ V ih => exact prod_step k V hk hk2 ih
theorem prod_any (k : Nat) (hk : 2 ≤ k) (hk2 : k ≤ 1000000) (a0 b0 : Option Addr) (la ca lb cb : Nat) (xs ys : List Nat) (w : World) (ha : Sl w a0 la ca xs) (hb : Sl w b0 lb cb ys) (ra : la ≤ 1000000000000) (rb : lb ≤ 1000000000000) :
  Calls Tryz.prog 128 #[.int .i64 (k : Int), .slice a0 la ca, .slice b0 lb cb] w (NewSl w (limbs (val xs * val ys))) :=
 prod_ok k hk hk2 (val xs + val ys + 1) a0 b0 la ca lb cb xs ys w ha hb (by omega) ra rb
theorem mul_any (a0 b0 : Option Addr) (la ca lb cb : Nat) (xs ys : List Nat) (w : World) (ha : Sl w a0 la ca xs) (hb : Sl w b0 lb cb ys) (ra : la ≤ 1000000000000) (rb : lb ≤ 1000000000000) :
  Calls Tryz.prog 108 #[.slice a0 la ca, .slice b0 lb cb] w (NewSl w (limbs (val xs * val ys))) := by
 go_enter Tryz.func108, Tryz.ntmps108
 go_wp2_with fail
 refine (prod_any 24 (by omega) (by omega) _ _ _ _ _ _ _ _ _ ha hb ra rb).mono ?_
 rintro e w1 ⟨c0, cn, cc, rfl, hC, hb1⟩; go_wp2_with fail
 go_ret
 exact ⟨_, _, _, rfl, hC, hb1⟩
end Go.Proofs.YtmmgipcacceakaaGreat


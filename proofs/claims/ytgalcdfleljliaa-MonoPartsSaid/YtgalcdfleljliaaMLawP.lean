/-
  What the laws of layer 7 say, in plain words.
-/
import Derived.Test.YtgalcdfleljliaaMLaw
set_option maxRecDepth 8192
namespace Go.Proofs.Ytgalcdfleljliaa
open Go.RowKit

theorem joinR_is {f : Int → Int → Int} (f0 : f 0 0 = 0) {er : Int} {xs ys zs : List (Int × Int)} (hx : mayM 0 xs = true) (hy : mayM 0 ys = true) (hz : mayM 0 zs = true) (h : ∀ v, f (expo xs v) (expo ys v) = expo zs v) : joinR f er xs ys = (zs, 0) := by
  have e : joinL f xs ys = zs := ris_ext (join_ris f0 hx hy) (may_ris hz) fun v => by rw [join_expo f0 hx hy, h]
  unfold joinR
  rw [if_pos ⟨hx, hy⟩, e, if_pos hz]
theorem joinR_cases {f : Int → Int → Int} (f0 : f 0 0 = 0) (er : Int) {xs ys : List (Int × Int)} (hx : mayM 0 xs = true) (hy : mayM 0 ys = true) :
    (∃ zs, joinR f er xs ys = (zs, 0) ∧ mayM 0 zs = true ∧ ∀ v, expo zs v = f (expo xs v) (expo ys v)) ∨ (joinR f er xs ys = ([], er) ∧ ∃ v, ¬ (0 ≤ f (expo xs v) (expo ys v) ∧ f (expo xs v) (expo ys v) ≤ 10000)) := by
  unfold joinR
  rw [if_pos ⟨hx, hy⟩]
  cases hm : mayM 0 (joinL f xs ys) with
  | true => exact .inl ⟨_, if_pos rfl, hm, fun v => join_expo f0 hx hy v⟩
  | false =>
    refine .inr ⟨if_neg (by simp), Classical.byContradiction fun h => ?_⟩
    have h1 : mayM 0 (joinL f xs ys) = true := (join_may f0 hx hy).2 fun v => Classical.byContradiction fun h2 => h ⟨v, h2⟩
    rw [h1] at hm; cases hm

theorem common_may {xs ys : List (Int × Int)} (hx : mayM 0 xs = true) (hy : mayM 0 ys = true) : mayM 0 (joinL (fun x y => min x y) xs ys) = true :=
  (join_may (f := fun x y => min x y) rfl hx hy).2 fun v => by have := may_bd hx v; have := may_bd hy v; show 0 ≤ min _ _ ∧ min _ _ ≤ 10000; omega
theorem least_may {xs ys : List (Int × Int)} (hx : mayM 0 xs = true) (hy : mayM 0 ys = true) : mayM 0 (joinL (fun x y => max x y) xs ys) = true :=
  (join_may (f := fun x y => max x y) rfl hx hy).2 fun v => by have := may_bd hx v; have := may_bd hy v; show 0 ≤ max _ _ ∧ max _ _ ≤ 10000; omega
theorem common_expo {xs ys : List (Int × Int)} (hx : mayM 0 xs = true) (hy : mayM 0 ys = true) (v : Int) : expo (joinL (fun x y => min x y) xs ys) v = min (expo xs v) (expo ys v) := join_expo (f := fun x y => min x y) rfl hx hy v
theorem least_expo {xs ys : List (Int × Int)} (hx : mayM 0 xs = true) (hy : mayM 0 ys = true) (v : Int) : expo (joinL (fun x y => max x y) xs ys) v = max (expo xs v) (expo ys v) := join_expo (f := fun x y => max x y) rfl hx hy v

/-- a product over one of both; Common times Least; a quotient, if there is one -/
theorem back_plain {xs ys ps : List (Int × Int)} (hx : mayM 0 xs = true) (hy : mayM 0 ys = true) (hm : mayM 0 ps = true) (hp : ∀ v, expo ps v = expo xs v + expo ys v) :
    joinR (fun x y => x - y) 5 ps ys = (xs, 0) ∧ joinR (fun x y => x + y) 8 (joinL (fun x y => min x y) (orM xs) (orM ys)) (joinL (fun x y => max x y) (orM xs) (orM ys)) = (ps, 0) := by
  rw [orM_yes hx, orM_yes hy]
  refine ⟨joinR_is rfl hm hy hx fun v => ?_, joinR_is rfl (common_may hx hy) (least_may hx hy) hm fun v => ?_⟩
  · show expo ps v - expo ys v = _
    rw [hp]; omega
  · show expo _ v + expo _ v = _
    rw [common_expo hx hy, least_expo hx hy, hp]; omega
theorem quot_plain {xs ys : List (Int × Int)} (hx : mayM 0 xs = true) (hy : mayM 0 ys = true) :
    (∃ ss, joinR (fun x y => x - y) 5 xs ys = (ss, 0) ∧ joinR (fun x y => x + y) 8 ss ys = (xs, 0) ∧ joinL (fun x y => min x y) (orM xs) (orM ys) = ys) ∨ (joinR (fun x y => x - y) 5 xs ys = ([], 5) ∧ joinL (fun x y => min x y) (orM xs) (orM ys) ≠ ys) := by
  rw [orM_yes hx, orM_yes hy]
  rcases joinR_cases (f := fun x y => x - y) rfl 5 hx hy with ⟨ss, h1, h2, h3⟩ | ⟨h1, v, h2⟩
  · refine .inl ⟨ss, h1, joinR_is rfl h2 hy hx fun v => ?_, ris_ext (join_ris (f := fun x y => min x y) rfl hx hy) (may_ris hy) fun v => ?_⟩
    · show expo ss v + expo ys v = _
      rw [h3]; show expo xs v - expo ys v + expo ys v = _; omega
    · rw [common_expo hx hy]
      have h4 := (may_bd h2 v).1
      rw [h3] at h4
      have h5 : 0 ≤ expo xs v - expo ys v := h4
      omega
  · refine .inr ⟨h1, fun e => ?_⟩
    have h3 := common_expo hx hy v
    rw [e] at h3
    have := may_bd hx v
    have := may_bd hy v
    have h4 : ¬ (0 ≤ expo xs v - expo ys v ∧ expo xs v - expo ys v ≤ 10000) := h2
    omega

/-! ### the order -/
theorem IsCmp.neg {c : Int} {f g : Int → Int} (h : IsCmp c f g) : IsCmp (-c) g f := by
  rcases h with ⟨rfl, h⟩ | ⟨v, rfl, h1, h2⟩ | ⟨v, rfl, h1, h2⟩
  · exact .inl ⟨rfl, fun v => (h v).symm⟩
  · exact .inr (.inr ⟨v, rfl, h1, fun u hu => (h2 u hu).symm⟩)
  · exact .inr (.inl ⟨v, rfl, h1, fun u hu => (h2 u hu).symm⟩)
theorem IsCmp.range {c : Int} {f g : Int → Int} (h : IsCmp c f g) : c = -1 ∨ c = 0 ∨ c = 1 := by
  rcases h with ⟨rfl, _⟩ | ⟨_, rfl, _⟩ | ⟨_, rfl, _⟩ <;> simp
theorem IsCmp.le_trans {x z w : Int} {f g h : Int → Int} (a : IsCmp x f g) (b : IsCmp z g h) (c : IsCmp w f h) (hx : x ≤ 0) (hz : z ≤ 0) : w ≤ 0 := by
  rcases a with ⟨rfl, a1⟩ | ⟨v, rfl, a1, a2⟩ | ⟨v, rfl, _⟩
  · have e : f = g := funext a1
    rw [e] at c
    rw [c.unique b]; exact hz
  · rcases b with ⟨rfl, b1⟩ | ⟨u, rfl, b1, b2⟩ | ⟨u, rfl, _⟩
    · have e : g = h := funext b1
      have : w = -1 := c.unique (.inr (.inl ⟨v, rfl, by rw [← e]; exact a1, fun t ht => by rw [← e]; exact a2 t ht⟩))
      omega
    · rcases Int.lt_trichotomy u v with e | e | e
      · have : w = -1 := c.unique (.inr (.inl ⟨v, rfl, by rw [← b2 v e]; exact a1, fun t ht => by rw [a2 t ht, b2 t (by omega)]⟩))
        omega
      · subst e
        have : w = -1 := c.unique (.inr (.inl ⟨u, rfl, by omega, fun t ht => by rw [a2 t ht, b2 t ht]⟩))
        omega
      · have : w = -1 := c.unique (.inr (.inl ⟨u, rfl, by rw [a2 u e]; exact b1, fun t ht => by rw [a2 t (by omega), b2 t ht]⟩))
        omega
    · omega
  · omega
theorem IsCmp.ge_trans {x z w : Int} {f g h : Int → Int} (a : IsCmp x f g) (b : IsCmp z g h) (c : IsCmp w f h) (hx : 0 ≤ x) (hz : 0 ≤ z) : 0 ≤ w := by
  have := IsCmp.le_trans b.neg a.neg c.neg (by omega) (by omega)
  omega
theorem IsCmp.add {c : Int} {f g : Int → Int} (h : IsCmp c f g) (k : Int → Int) : IsCmp c (fun v => f v + k v) (fun v => g v + k v) := by
  rcases h with ⟨rfl, h⟩ | ⟨v, rfl, h1, h2⟩ | ⟨v, rfl, h1, h2⟩
  · exact .inl ⟨rfl, fun v => by show f v + k v = g v + k v; rw [h v]⟩
  · exact .inr (.inl ⟨v, rfl, by show f v + k v < g v + k v; omega, fun u hu => by show f u + k u = g u + k u; rw [h2 u hu]⟩)
  · exact .inr (.inr ⟨v, rfl, by show g v + k v < f v + k v; omega, fun u hu => by show f u + k u = g u + k u; rw [h2 u hu]⟩)

theorem cmpR_yes {xs ys : List (Int × Int)} (hx : mayM 0 xs = true) (hy : mayM 0 ys = true) : ∃ c, cmpR xs ys = (c, 0) ∧ IsCmp c (expo xs) (expo ys) := ⟨cmpM xs ys, if_pos ⟨hx, hy⟩, cmpM_is hx hy⟩
theorem cmpR_is {xs ys : List (Int × Int)} (hx : mayM 0 xs = true) (hy : mayM 0 ys = true) {c : Int} (h : IsCmp c (expo xs) (expo ys)) : cmpR xs ys = (c, 0) := by
  obtain ⟨d, hd, h2⟩ := cmpR_yes hx hy
  rw [hd, h2.unique h]
theorem cmp_zero {xs ys : List (Int × Int)} (hx : mayM 0 xs = true) (hy : mayM 0 ys = true) {c : Int} (h : IsCmp c (expo xs) (expo ys)) : c = 0 ↔ xs = ys := by
  constructor
  · intro hc
    subst hc
    rcases h with ⟨_, h⟩ | ⟨_, h, _⟩ | ⟨_, h, _⟩
    · exact ris_ext (may_ris hx) (may_ris hy) h
    · omega
    · omega
  · intro e
    subst e
    exact h.unique (.inl ⟨rfl, fun _ => rfl⟩)
theorem cmp_one {xs : List (Int × Int)} (hx : mayM 0 xs = true) {o : Int} (h : IsCmp o (expo xs) (expo [])) : 0 ≤ o ∧ (o = 0 ↔ xs = []) := by
  refine ⟨?_, cmp_zero hx rfl h⟩
  rcases h with ⟨rfl, _⟩ | ⟨v, rfl, h1, _⟩ | ⟨v, rfl, _⟩
  · omega
  · have := (may_bd hx v).1
    have h2 : expo xs v < 0 := h1
    omega
  · omega

/-! ### parts -/
theorem outM_may {xs : List (Int × Int)} (hx : mayM 0 xs = true) (v : Int) : mayM 0 (outM v xs) = true :=
  may_iff.2 ⟨outM_ris v (may_ris hx), fun u => by
    rw [outM_expo]
    by_cases hu : u = v
    · rw [if_pos hu]; omega
    · rw [if_neg hu]; exact may_bd hx u⟩
theorem parts_plain {xs : List (Int × Int)} (hx : mayM 0 xs = true) (hn : xs ≠ []) (k d : Int) (hk : clsM (orM xs) = k) (hd : exE xs k = d) :
    (1 ≤ k ∧ k ≤ 200) ∧ (0 ≤ d ∧ d ≤ 10000) ∧ joinR (fun x y => x + y) 8 (outM k (orM xs)) [(k, d)] = (xs, 0) ∧ clsM (orM (outM k (orM xs))) < k ∧ exE (outM k (orM xs)) k = 0 := by
  unfold exE at hd ⊢
  rw [orM_yes hx] at hk hd ⊢
  rw [orM_yes (outM_may hx k)]
  rcases cls_spec (may_ris hx) with ⟨h, _⟩ | ⟨k1, k2, k3, k4⟩
  · exact absurd h hn
  · rw [hk] at k1 k2 k3 k4
    have hdb := may_bd hx k
    rw [hd] at k3 hdb
    have hone : mayM 0 [(k, d)] = true := by
      unfold mayM okP
      simp only [Bool.and_eq_true, decide_eq_true_eq]
      exact ⟨⟨k1, k2, by omega, hdb.2⟩, rfl⟩
    refine ⟨⟨by omega, k2⟩, hdb, joinR_is rfl (outM_may hx k) hone hx fun v => ?_, ?_, by rw [outM_expo, if_pos rfl]⟩
    · show expo _ v + expo _ v = _
      rw [outM_expo]
      simp only [expo]
      by_cases hv : v = k
      · subst hv; rw [if_pos rfl, if_pos rfl, hd]; omega
      · rw [if_neg hv, if_neg (by omega)]; omega
    · rcases cls_spec (outM_ris k (may_ris hx)) with ⟨_, h⟩ | ⟨j1, j2, j3, j4⟩
      · rw [h]; exact k1
      · rcases Int.lt_trichotomy (clsM (outM k xs)) k with g | g | g
        · exact g
        · rw [g, outM_expo, if_pos rfl] at j3; exact absurd rfl j3
        · rw [outM_expo, if_neg (by omega), k4 _ g] at j3; exact absurd rfl j3

section
variable {a0 b0 : Option Addr} {la ca lc cc : Nat} {xs ys : List (Int × Int)} {w : World}
theorem common_is (qs : List (Int × Int)) (ha : Ml w a0 la ca xs) (hb : Ml w b0 lc cc ys) (h : joinL (fun x y => min x y) (orM xs) (orM ys) = qs) :
    Calls Try.prog 24 #[.slice a0 la ca, .slice b0 lc cc] w (NewM w qs) := by rw [← h]; exact common_any ha hb
theorem least_is (qs : List (Int × Int)) (ha : Ml w a0 la ca xs) (hb : Ml w b0 lc cc ys) (h : joinL (fun x y => max x y) (orM xs) (orM ys) = qs) :
    Calls Try.prog 26 #[.slice a0 la ca, .slice b0 lc cc] w (NewM w qs) := by rw [← h]; exact least_any ha hb
theorem common7_is (qs : List (Int × Int)) (ha : Ml w a0 la ca xs) (hb : Ml w b0 lc cc ys) (h : joinL (fun x y => min x y) (orM xs) (orM ys) = qs) :
    Calls Try.prog 25 #[.slice a0 la ca, .slice b0 lc cc] w (NewM w qs) := by rw [← h]; exact common7_any ha hb
theorem least7_is (qs : List (Int × Int)) (ha : Ml w a0 la ca xs) (hb : Ml w b0 lc cc ys) (h : joinL (fun x y => max x y) (orM xs) (orM ys) = qs) :
    Calls Try.prog 27 #[.slice a0 la ca, .slice b0 lc cc] w (NewM w qs) := by rw [← h]; exact least7_any ha hb
theorem without_is (qs : List (Int × Int)) (v : Int) (ha : Ml w a0 la ca xs) (h : outM v (orM xs) = qs) :
    Calls Try.prog 28 #[.slice a0 la ca, .int .i64 v] w (NewM w qs) := by rw [← h]; exact without_any ha v
theorem without7_is (qs : List (Int × Int)) (v : Int) (ha : Ml w a0 la ca xs) (h : outM v (orM xs) = qs) :
    Calls Try.prog 29 #[.slice a0 la ca, .int .i64 v] w (NewM w qs) := by rw [← h]; exact without7_any ha v
end

end Go.Proofs.Ytgalcdfleljliaa

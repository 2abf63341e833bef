/-
  Products, sums and derivatives of polynomials as ones in a variable, in plain words: degrees, classes, initials, derivatives.
-/
import Derived.Test.YtmaanhmdgmjhdaaGreatGV
import Derived.Test.YtmaanhmdgmjhdaaGreatGP1
set_option maxRecDepth 8192
namespace Go.Proofs.YtmaanhmdgmjhdaaGreat
open Go.RowKit
theorem lin_zero (p : List Term) : lin (fun _ => 0) p = 0 := by
  induction p with
  | nil => rfl
  | cons t r ih => simp only [lin, ih]; omega
theorem timesT_fall {p q : List Term} (hp : fall p) (hq : fall q) (hf : fitT p q) : fall (timesT p q) := (timesT_spec (fall_mays hp) (fall_mays hq) hf).1
theorem deg_times {p q : List Term} (hp : fall p) (hq : fall q) (hf : fitT p q) (hp0 : p ≠ []) (hq0 : q ≠ []) (v : Int) : degP (timesT p q) v = degP p v + degP q v := by
  have h1 := degP_zero p v
  have h2 := degP_zero q v
  refine degP_is (by omega) (fun x hx => ?_) (.inr ?_)
  · obtain ⟨t, ht, s, hs, e⟩ := times_mem hf hx (timesT_fall hp hq hf)
    rw [e, mulM_expo (fall_may hp t ht) (fall_may hq s hs)]
    have := degP_ge ht v
    have := degP_ge hs v
    omega
  · obtain ⟨x, hx, h⟩ := times_top v hp hq hf hp0 hq0
    obtain ⟨t, ht, et⟩ := degP_att (fall_mays hp) hp0 v
    obtain ⟨s, hs, es⟩ := degP_att (fall_mays hq) hq0 v
    refine ⟨x, hx, ?_⟩
    have h3 := h t ht s hs
    obtain ⟨a, ha, b, hb, e⟩ := times_mem hf hx (timesT_fall hp hq hf)
    have h4 : expo x.2 v = expo a.2 v + expo b.2 v := by rw [e, mulM_expo (fall_may hp a ha) (fall_may hq b hb)]
    have := degP_ge ha v
    have := degP_ge hb v
    omega
theorem cls_times {p q : List Term} (hp : fall p) (hq : fall q) (hf : fitT p q) (hp0 : p ≠ []) (hq0 : q ≠ []) : clsP (timesT p q) = max (clsP p) (clsP q) := by
  have h1 := clsP_bd hp
  have h2 := clsP_bd hq
  refine clsP_is (timesT_fall hp hq hf) (by omega) (fun v hv => ?_) ?_
  · rw [deg_times hp hq hf hp0 hq0, clsP_above hp (by omega), clsP_above hq (by omega)]; rfl
  · by_cases hc : max (clsP p) (clsP q) = 0
    · exact .inl hc
    · right
      rw [deg_times hp hq hf hp0 hq0]
      by_cases h : clsP q ≤ clsP p
      · rw [Int.max_eq_left h] at hc ⊢
        have := clsP_here hp (by omega)
        have := degP_zero q (clsP p)
        omega
      · rw [Int.max_eq_right (by omega)] at hc ⊢
        have := clsP_here hq (by omega)
        have := degP_zero p (clsP q)
        omega
theorem out_mul {a b : List (Int × Int)} (ha : mayM 0 a = true) (hb : mayM 0 b = true) (hm : mayM 0 (mulM a b) = true) (v : Int) : outM v (mulM a b) = mulM (outM v a) (outM v b) ∧ mayM 0 (mulM (outM v a) (outM v b)) = true := by
  have h1 := out_may ha v
  have h2 := out_may hb v
  have he : ∀ u, expo (outM v (mulM a b)) u = expo (mulM (outM v a) (outM v b)) u := fun u => by
    rw [outM_expo, mulM_expo h1 h2, mulM_expo ha hb, outM_expo, outM_expo]
    by_cases hu : u = v
    · rw [if_pos hu, if_pos hu, if_pos hu]; rfl
    · rw [if_neg hu, if_neg hu, if_neg hu]
  have h3 : mayM 0 (mulM (outM v a) (outM v b)) = true := by
    rw [may_mulM h1 h2]
    intro u
    have := he u
    rw [mulM_expo h1 h2] at this
    rw [← this]
    exact (may_bd (out_may hm v) u).2
  exact ⟨mono_ext (out_may hm v) h3 he, h3⟩
theorem fit_parts {p q p' q' : List Term} (hp : mays p) (hq : mays q) (hp' : mays p') (hq' : mays q') (hf : fitT p q) (h1 : ∀ t ∈ p', ∃ s ∈ p, ∀ v, expo t.2 v ≤ expo s.2 v) (h2 : ∀ t ∈ q', ∃ s ∈ q, ∀ v, expo t.2 v ≤ expo s.2 v) : fitT p' q' := by
  intro t ht s hs
  obtain ⟨a, ha, ea⟩ := h1 t ht
  obtain ⟨b, hb, eb⟩ := h2 s hs
  rw [may_mulM (hp' t ht) (hq' s hs)]
  intro v
  have := (may_mulM (hp a ha) (hq b hb)).1 (hf a ha b hb) v
  have := ea v
  have := eb v
  omega
theorem parts_self (p : List Term) : ∀ t ∈ p, ∃ s ∈ p, ∀ v, expo t.2 v ≤ expo s.2 v := fun t ht => ⟨t, ht, fun _ => Int.le_refl _⟩
theorem parts_coef {p : List Term} (h : mays p) (c e : Int) : ∀ t ∈ coefP p c e, ∃ s ∈ p, ∀ v, expo t.2 v ≤ expo s.2 v := by
  intro t ht
  obtain ⟨s, hs, rfl⟩ := List.mem_map.1 ht
  have hs := (List.mem_filter.1 hs).1
  refine ⟨s, hs, fun v => ?_⟩
  show expo (outM c s.2) v ≤ _
  rw [outM_expo]
  have := (may_bd (h s hs) v).1
  split <;> omega
theorem parts_der {p : List Term} (h : mays p) (c : Int) : ∀ t ∈ derP p c, ∃ s ∈ p, ∀ v, expo t.2 v ≤ expo s.2 v := by
  intro t ht
  obtain ⟨s, hs, rfl⟩ := List.mem_map.1 ht
  have hs2 := List.mem_filter.1 hs
  have h0 : 0 < expo s.2 c := by simpa using hs2.2
  refine ⟨s, hs2.1, fun v => ?_⟩
  show expo (subM s.2 c) v ≤ _
  rw [subM_expo (h s hs2.1) (var_of (h s hs2.1) h0)]
  split <;> omega
theorem init_times {p q : List Term} (hp : fall p) (hq : fall q) (hf : fitT p q) (hp0 : p ≠ []) (hq0 : q ≠ []) (hc : clsP p = clsP q) :
    fitT (initP p) (initP q) ∧ initP (timesT p q) = timesT (initP p) (initP q) := by
  have hfi : fitT (initP p) (initP q) := fit_parts (fall_mays hp) (fall_mays hq) (fall_mays (init_fall hp)) (fall_mays (init_fall hq)) hf (parts_coef (fall_mays hp) _ _) (parts_coef (fall_mays hq) _ _)
  refine ⟨hfi, fall_ext (init_fall (timesT_fall hp hq hf)) (timesT_fall (init_fall hp) (init_fall hq) hfi) fun ρ => ?_⟩
  rw [(timesT_spec (fall_mays (init_fall hp)) (fall_mays (init_fall hq)) hfi).2]
  unfold initP
  rw [cls_times hp hq hf hp0 hq0, ← hc, Int.max_self, deg_times hp hq hf hp0 hq0, ← lin_ev, ← lin_ev, ← lin_ev, lin_coef, lin_coef, lin_coef]
  obtain ⟨c, hcc⟩ : ∃ c, clsP p = c := ⟨_, rfl⟩
  rw [hcc]
  rw [lin_times (φ := fun m => if (expo m c == degP p c + degP q c) = true then evM (outM c m) ρ else 0) (α := fun m => if (expo m c == degP p c) = true then evM (outM c m) ρ else 0) (β := fun m => if (expo m c == degP q c) = true then evM (outM c m) ρ else 0) (γ := fun _ => 0) (δ := fun _ => 0) hf]
  · rw [lin_zero, lin_zero]; omega
  · intro t ht s hs
    have ha := fall_may hp t ht
    have hb := fall_may hq s hs
    have h1 := degP_ge ht c
    have h2 := degP_ge hs c
    have ho := out_mul ha hb (hf t ht s hs) c
    simp only [mulM_expo ha hb, beq_iff_eq, Int.mul_zero, Int.add_zero]
    by_cases e1 : expo t.2 c = degP p c
    · by_cases e2 : expo s.2 c = degP q c
      · rw [if_pos (by omega), if_pos e1, if_pos e2, ho.1, evM_mul (out_may ha c) (out_may hb c)]
      · rw [if_neg (by omega), if_neg e2, Int.mul_zero]
    · rw [if_neg (by omega), if_neg e1, Int.zero_mul]
def dM (v : Int) (ρ : Nat → Int) (m : List (Int × Int)) : Int := if decide (0 < expo m v) = true then expo m v * evM (subM m v) ρ else 0
theorem ev_der (p : List Term) (v : Int) (ρ : Nat → Int) : ev (derP p v) ρ = lin (dM v ρ) p := by
  rw [← lin_ev, lin_der]
  rfl
theorem sub_mul {a b : List (Int × Int)} (ha : mayM 0 a = true) (hb : mayM 0 b = true) (hm : mayM 0 (mulM a b) = true) {v : Int} (h0 : 0 < expo a v) : evM (subM (mulM a b) v) = fun ρ => evM (subM a v) ρ * evM b ρ := by
  have hv := var_of ha h0
  have hs := (subM_may ha hv).2 h0
  have hbd := may_bd hb v
  have hsm := (subM_may hm hv).2 (by rw [mulM_expo ha hb]; omega)
  have he : ∀ u, expo (subM (mulM a b) v) u = expo (mulM (subM a v) b) u := fun u => by
    rw [subM_expo hm hv, mulM_expo ha hb, mulM_expo hs hb, subM_expo ha hv]
    omega
  have h3 : mayM 0 (mulM (subM a v) b) = true := by
    rw [may_mulM hs hb]
    intro u
    have := he u
    rw [mulM_expo hs hb] at this
    rw [← this]
    exact (may_bd hsm u).2
  funext ρ
  rw [mono_ext hsm h3 he, evM_mul hs hb]
theorem dM_mul {a b : List (Int × Int)} (ha : mayM 0 a = true) (hb : mayM 0 b = true) (hm : mayM 0 (mulM a b) = true) (v : Int) (ρ : Nat → Int) : dM v ρ (mulM a b) = dM v ρ a * evM b ρ + evM a ρ * dM v ρ b := by
  have hea := (may_bd ha v).1
  have heb := (may_bd hb v).1
  have hm2 : mayM 0 (mulM b a) = true := by rw [mulM_comm hb ha]; exact hm
  unfold dM
  simp only [decide_eq_true_eq, mulM_expo ha hb]
  by_cases h1 : 0 < expo a v
  · have e1 := congrFun (sub_mul ha hb hm h1) ρ
    by_cases h2 : 0 < expo b v
    · have e2 := congrFun (sub_mul hb ha hm2 h2) ρ
      rw [mulM_comm hb ha] at e2
      rw [if_pos (by omega), if_pos h1, if_pos h2]
      rw [Int.add_mul]
      conv => lhs; congr; · rw [e1]
              · rw [e2]
      grind
    · rw [if_pos (by omega), if_pos h1, if_neg h2, e1, show expo b v = 0 by omega]
      grind
  · by_cases h2 : 0 < expo b v
    · have e2 := congrFun (sub_mul hb ha hm2 h2) ρ
      rw [mulM_comm hb ha] at e2
      rw [if_pos (by omega), if_neg h1, if_pos h2, e2, show expo a v = 0 by omega]
      grind
    · rw [if_neg (by omega), if_neg h1, if_neg h2]
      omega
theorem der_times {p q : List Term} (hp : fall p) (hq : fall q) (hf : fitT p q) (v : Int) :
    fitT (derP p v) q ∧ fitT p (derP q v) ∧ derP (timesT p q) v = addT (timesT (derP p v) q) (timesT p (derP q v)) := by
  have hdp := der_fall hp v
  have hdq := der_fall hq v
  have h1 : fitT (derP p v) q := fit_parts (fall_mays hp) (fall_mays hq) (fall_mays hdp) (fall_mays hq) hf (parts_der (fall_mays hp) v) (parts_self q)
  have h2 : fitT p (derP q v) := fit_parts (fall_mays hp) (fall_mays hq) (fall_mays hp) (fall_mays hdq) hf (parts_self p) (parts_der (fall_mays hq) v)
  have s1 := timesT_spec (fall_mays hdp) (fall_mays hq) h1
  have s2 := timesT_spec (fall_mays hp) (fall_mays hdq) h2
  have s3 := addT_spec s1.1 (fall_mays s2.1)
  refine ⟨h1, h2, fall_ext (der_fall (timesT_fall hp hq hf) v) s3.1 fun ρ => ?_⟩
  rw [s3.2, s1.2, s2.2, ev_der, ev_der, ev_der]
  rw [lin_times (φ := dM v ρ) (α := dM v ρ) (β := fun m => evM m ρ) (γ := fun m => evM m ρ) (δ := dM v ρ) hf (fun t ht s hs => dM_mul (fall_may hp t ht) (fall_may hq s hs) (hf t ht s hs) v ρ)]
  rw [lin_ev, lin_ev]
theorem der_add {p q : List Term} (hp : fall p) (hq : fall q) (v : Int) : derP (addT p q) v = addT (derP p v) (derP q v) := by
  have s0 := addT_spec hp (fall_mays hq)
  have s3 := addT_spec (der_fall hp v) (fall_mays (der_fall hq v))
  refine fall_ext (der_fall s0.1 v) s3.1 fun ρ => ?_
  rw [s3.2, ev_der, ev_der, ev_der, lin_addT _ hp (fall_mays hq)]
end Go.Proofs.YtmaanhmdgmjhdaaGreat

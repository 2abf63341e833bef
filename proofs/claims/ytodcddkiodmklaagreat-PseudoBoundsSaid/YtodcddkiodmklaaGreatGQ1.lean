/- PsA, PsC, PsI, PsF, PlDelS, PsD, PsP, PsT, PsS -/
import Derived.Test.YtodcddkiodmklaaGreatGPc
set_option maxHeartbeats 40000000
set_option maxRecDepth 100000
namespace Go.Proofs.YtodcddkiodmklaaGreat
def hdP (p : List Term) (v : Int) : List Term := coefP p v (degP p v)
def tlP (p : List Term) (v : Int) : List Term := p.filter fun t => !(expo t.2 v == degP p v)
theorem hd_fall {p : List Term} (h : fall p) (v : Int) : fall (hdP p v) := coef_fall h _ _
theorem tl_fall {p : List Term} (h : fall p) (v : Int) : fall (tlP p v) := zz56 _ h
theorem hd_mem {p : List Term} {v : Int} {a : Term} (h : a ∈ hdP p v) : ∃ s ∈ p, expo s.2 v = degP p v ∧ a = (s.1, outM v s.2) := by
 obtain ⟨s, hs, rfl⟩ := List.mem_map.1 h; obtain ⟨h1, h2⟩ := List.mem_filter.1 hs
 exact ⟨s, h1, by simpa using h2, rfl⟩
theorem tl_mem {p : List Term} {v : Int} {a : Term} (h : a ∈ tlP p v) : a ∈ p ∧ expo a.2 v < degP p v := by
 obtain ⟨h1, h2⟩ := List.mem_filter.1 h; have h3 := degP_ge h1 v
 have h4 : expo a.2 v ≠ degP p v := by simpa using h2
 exact ⟨h1, by omega⟩
theorem ev_split_at {v : Int} (hv : 1 ≤ v ∧ v ≤ 200) (d : Int) (ρ : Nat → Int) : ∀ {p : List Term}, mays p → ev p ρ = ev (coefP p v d) ρ * evM (powM v d) ρ + ev (p.filter fun t => !(expo t.2 v == d)) ρ
 | [], _ => by simp [coefP, ev]
 | t :: r, h => by
  have ih := ev_split_at hv d ρ (p := r) fun s hs => h s (by simp [hs])
  by_cases e : expo t.2 v = d
  ·have e1 : coefP (t :: r) v d = (t.1, outM v t.2) :: coefP r v d := by simp [coefP, e]
   have e2 : ((t :: r).filter fun t => !(expo t.2 v == d)) = r.filter fun t => !(expo t.2 v == d) := by simp [e]
   rw [e1, e2]
   have e3 := evM_out (h t (by simp)) hv ρ
   rw [e] at e3
   simp only [ev]
   rw [e3, ih]
   grind
  ·have e1 : coefP (t :: r) v d = coefP r v d := by simp [coefP, e]
   have e2 : ((t :: r).filter fun t => !(expo t.2 v == d)) = t :: r.filter fun t => !(expo t.2 v == d) := by simp [e]
   rw [e1, e2]
   simp only [ev]
   rw [ih]
   omega
theorem ev_split {p : List Term} (h : fall p) {v : Int} (hv : 1 ≤ v ∧ v ≤ 200) (ρ : Nat → Int) : ev p ρ = ev (hdP p v) ρ * evM (powM v (degP p v)) ρ + ev (tlP p v) ρ := ev_split_at hv _ ρ (zz58 h)
def EB (p : List Term) (E : Int) : Prop := ∀ t ∈ p, ∀ u, expo t.2 u ≤ E
theorem EB.mono {p : List Term} {E F : Int} (h : EB p E) (hE : E ≤ F) : EB p F := fun t ht u => Int.le_trans (h t ht u) hE
theorem EB.fit {p q : List Term} {E F : Int} (hp : mays p) (hq : mays q) (h : EB p E) (k : EB q F) (hEF : E + F ≤ 10000) : fitT p q := fun t ht s hs => by
 rw [zz108 (hp t ht) (hq s hs)]
 intro u
 have := h t ht u
 have := k s hs u
 omega
theorem EB.hd {p : List Term} {E : Int} (hp : mays p) (h : EB p E) (v : Int) : EB (hdP p v) E := fun a ha u => by
 obtain ⟨s, hs, _, rfl⟩ := hd_mem ha
 show expo (outM v s.2) u ≤ E
 rw [zz138]; have h1 := h s hs u
 split
 ·have h2 := h s hs v
  have := (may_bd (hp s hs) v).1
  omega
 ·exact h1
theorem EB.tl {p : List Term} {E : Int} (h : EB p E) (v : Int) : EB (tlP p v) E := fun a ha u => h a (tl_mem ha).1 u
theorem add_mem {p q : List Term} (hp : fall p) (hq : mays q) {x : Term} (hx : x ∈ addT p q) : ∃ y, (y ∈ p ∨ y ∈ q) ∧ y.2 = x.2 := by
 have hf := (zz3 hp hq).1; have h := cf_fall hf x hx; have h0 := fall_nz hf x hx; rw [cf_addT _ hp hq] at h
 by_cases h1 : cf p x.2 = 0
 ·obtain ⟨y, hy, e⟩ := cf_mem (p := q) (m := x.2) (by omega)
  exact ⟨y, .inr hy, e⟩
 ·obtain ⟨y, hy, e⟩ := cf_mem h1
  exact ⟨y, .inl hy, e⟩
theorem sub_mem {p q : List Term} (hp : fall p) (hq : mays q) {x : Term} (hx : x ∈ subT p q) : ∃ y, (y ∈ p ∨ y ∈ q) ∧ y.2 = x.2 := by
 obtain ⟨y, hy | hy, e⟩ := add_mem hp (zz120 hq) hx
 ·exact ⟨y, .inl hy, e⟩
 ·obtain ⟨z, hz, rfl⟩ := zz119 hy
  exact ⟨z, .inr hz, e⟩
theorem zz131 {v k : Int} (hv : 1 ≤ v ∧ v ≤ 200) (hk : 0 ≤ k ∧ k ≤ 10000) : fall [((1 : Int), powM v k)] := ⟨by omega, pow_may hv hk, (fun _ h => by cases h), trivial⟩
def mvP (g r : List Term) (v : Int) : List Term := timesT (hdP r v) (ofT [(1, powM v (degP r v - degP g v))])
def stR (g : List Term) (v : Int) (r : List Term) : List Term := subT (timesT (hdP g v) (tlP r v)) (timesT (mvP g r v) (tlP g v))
def stQ (g : List Term) (v : Int) (q r : List Term) : List Term := addT (timesT (hdP g v) q) (mvP g r v)
structure StepOk (g r : List Term) (v E F : Int) : Prop where
 fg : fall g
 fr : fall r
 hv : 1 ≤ v ∧ v ≤ 200
 h1 : 1 ≤ degP g v
 hd : degP g v ≤ degP r v
 eg : EB g E
 er : EB r F
 e0 : 0 ≤ E
 f0 : 0 ≤ F
 ef : E + F ≤ 10000
section
variable {g r q : List Term} {v E F : Int}
theorem StepOk.k (h : StepOk g r v E F) : 0 ≤ degP r v - degP g v ∧ degP r v - degP g v ≤ 10000 := by
 have := degP_le (zz58 h.fr) v
 have := h.h1
 have := h.hd
 omega
theorem StepOk.mvfit (h : StepOk g r v E F) : fitT (hdP r v) [((1 : Int), powM v (degP r v - degP g v))] := fun a ha s hs => by
 rw [List.mem_singleton.1 hs, zz108 (zz58 (hd_fall h.fr v) a ha) (pow_may h.hv h.k)]
 intro u
 obtain ⟨t, ht, _, rfl⟩ := hd_mem ha
 show expo (outM v t.2) u + _ ≤ _
 rw [zz138, zz150]
 have := (may_bd (zz58 h.fr t ht) u).2
 have := h.k
 split <;> omega
theorem StepOk.mv (h : StepOk g r v E F) : mvP g r v = timesT (hdP r v) [((1 : Int), powM v (degP r v - degP g v))] := by
 unfold mvP; rw [zz127 (zz131 h.hv h.k)]
theorem StepOk.mv_fall (h : StepOk g r v E F) : fall (mvP g r v) := by
 rw [h.mv]; exact zz188 (hd_fall h.fr v) (zz131 h.hv h.k) h.mvfit
theorem StepOk.mv_mem (h : StepOk g r v E F) {x : Term} (hx : x ∈ mvP g r v) : ∃ t ∈ r, expo t.2 v = degP r v ∧ ∀ u, expo x.2 u = expo t.2 u - if u = v then degP g v else 0 := by
 have hf := h.mv_fall; rw [h.mv] at hx hf; obtain ⟨a, ha, s, hs, e⟩ := zz192 h.mvfit hx hf; rw [List.mem_singleton.1 hs] at e; obtain ⟨t, ht, hd, rfl⟩ := hd_mem ha
 refine ⟨t, ht, hd, fun u => ?_⟩
 rw [e, zz116 (out_may (zz58 h.fr t ht) v) (pow_may h.hv h.k)]
 show expo (outM v t.2) u + _ = _
 rw [zz138, zz150]
 split
 ·subst_vars; omega
 ·omega
theorem StepOk.mv_ev (h : StepOk g r v E F) (ρ : Nat → Int) : ev (mvP g r v) ρ = ev (hdP r v) ρ * evM (powM v (degP r v - degP g v)) ρ := by
 rw [h.mv, (zz190 (zz58 (hd_fall h.fr v)) (zz58 (zz131 h.hv h.k)) h.mvfit).2]
 simp [ev]
theorem StepOk.mv_eb (h : StepOk g r v E F) : EB (mvP g r v) F := fun x hx u => by
 obtain ⟨t, ht, _, e⟩ := h.mv_mem hx; rw [e]
 have := h.er t ht u
 have := h.h1
 split <;> omega
theorem StepOk.fit1 (h : StepOk g r v E F) : fitT (hdP g v) (tlP r v) := EB.fit (zz58 (hd_fall h.fg v)) (zz58 (tl_fall h.fr v)) (h.eg.hd (zz58 h.fg) v) (h.er.tl v) h.ef
theorem StepOk.fit2 (h : StepOk g r v E F) : fitT (mvP g r v) (tlP g v) := EB.fit (zz58 h.mv_fall) (zz58 (tl_fall h.fg v)) h.mv_eb (h.eg.tl v) (by have := h.ef; omega)
theorem StepOk.fit0 (h : StepOk g r v E F) : fitT (hdP g v) (hdP r v) := EB.fit (zz58 (hd_fall h.fg v)) (zz58 (hd_fall h.fr v)) (h.eg.hd (zz58 h.fg) v) (h.er.hd (zz58 h.fr) v) h.ef
theorem StepOk.left_fall (h : StepOk g r v E F) : fall (timesT (hdP g v) (tlP r v)) := zz188 (hd_fall h.fg v) (tl_fall h.fr v) h.fit1
theorem StepOk.less_fall (h : StepOk g r v E F) : fall (timesT (mvP g r v) (tlP g v)) := zz188 h.mv_fall (tl_fall h.fg v) h.fit2
theorem StepOk.r_fall (h : StepOk g r v E F) : fall (stR g v r) := (zz179 h.left_fall (zz58 h.less_fall)).1
theorem StepOk.pw (h : StepOk g r v E F) (ρ : Nat → Int) : evM (powM v (degP r v)) ρ = evM (powM v (degP r v - degP g v)) ρ * evM (powM v (degP g v)) ρ := by
 have hk := h.k; have h1 := h.h1; have hd := h.hd; have hr := degP_le (zz58 h.fr) v; have a := pow_may h.hv hk
 have b := pow_may h.hv (e := degP g v) ⟨by omega, by omega⟩
 have e : mulM (powM v (degP r v - degP g v)) (powM v (degP g v)) = powM v (degP r v) := by
  refine zz112 ((zz108 a b).2 fun u => ?_) (pow_may h.hv ⟨by omega, hr⟩) fun u => ?_
  ·rw [zz150, zz150]; split <;> omega
  ·rw [zz116 a b, zz150, zz150, zz150]; split <;> omega
 rw [← e, evM_mul a b]
theorem StepOk.r_ev (h : StepOk g r v E F) (ρ : Nat → Int) : ev (stR g v r) ρ = ev (hdP g v) ρ * ev r ρ - ev (mvP g r v) ρ * ev g ρ := by
 unfold stR
 rw [(zz179 h.left_fall (zz58 h.less_fall)).2, (zz190 (zz58 (hd_fall h.fg v)) (zz58 (tl_fall h.fr v)) h.fit1).2, (zz190 (zz58 h.mv_fall) (zz58 (tl_fall h.fg v)) h.fit2).2]; have e1 := ev_split h.fr h.hv ρ
 have e2 := ev_split h.fg h.hv ρ; have e3 := h.mv_ev ρ; have e4 := h.pw ρ
 grind
theorem StepOk.r_mem (h : StepOk g r v E F) {x : Term} (hx : x ∈ stR g v r) : expo x.2 v < degP r v ∧ ∃ t ∈ r, ∃ s ∈ g, ∀ u, expo x.2 u = expo t.2 u + expo s.2 u - if u = v then degP g v else 0 := by
 obtain ⟨y, hy, e⟩ := sub_mem h.left_fall (zz58 h.less_fall) hx; rw [← e]
 rcases hy with hy | hy
 ·obtain ⟨a, ha, b, hb, e2⟩ := zz192 h.fit1 hy h.left_fall
  obtain ⟨s, hs, hd, rfl⟩ := hd_mem ha; obtain ⟨hb1, hb2⟩ := tl_mem hb
  have hx2 : ∀ u, expo y.2 u = expo b.2 u + expo s.2 u - if u = v then degP g v else 0 := fun u => by
   rw [e2, zz116 (out_may (zz58 h.fg s hs) v) (zz58 h.fr b hb1)]
   show expo (outM v s.2) u + _ = _
   rw [zz138]
   split
   ·subst_vars; omega
   ·omega
  refine ⟨?_, b, hb1, s, hs, hx2⟩
  rw [hx2 v, if_pos rfl]
  omega
 ·obtain ⟨a, ha, b, hb, e2⟩ := zz192 h.fit2 hy h.less_fall
  obtain ⟨t, ht, hd, e3⟩ := h.mv_mem ha; obtain ⟨hb1, hb2⟩ := tl_mem hb
  have hx2 : ∀ u, expo y.2 u = expo t.2 u + expo b.2 u - if u = v then degP g v else 0 := fun u => by
   rw [e2, zz116 (zz58 h.mv_fall a ha) (zz58 h.fg b hb1), e3 u]
   omega
  refine ⟨?_, t, ht, b, hb1, hx2⟩
  rw [hx2 v, if_pos rfl]
  omega
theorem StepOk.r_deg (h : StepOk g r v E F) : degP (stR g v r) v < degP r v := by
 rcases degP_at (stR g v r) v with e | ⟨x, hx, e⟩
 ·have := h.h1
  have := h.hd
  omega
 ·rw [e]; exact (h.r_mem hx).1
theorem StepOk.r_eb (h : StepOk g r v E F) : EB (stR g v r) (E + F) := fun x hx u => by
 obtain ⟨_, t, ht, s, hs, e⟩ := h.r_mem hx; rw [e]
 have := h.er t ht u
 have := h.eg s hs u
 have := h.h1
 split <;> omega
theorem StepOk.fit3 (h : StepOk g r v E F) (hq : fall q) (hqF : EB q F) : fitT (hdP g v) q := EB.fit (zz58 (hd_fall h.fg v)) (zz58 hq) (h.eg.hd (zz58 h.fg) v) hqF h.ef
theorem StepOk.q_fall (h : StepOk g r v E F) (hq : fall q) (hqF : EB q F) : fall (stQ g v q r) := (zz3 (zz188 (hd_fall h.fg v) hq (h.fit3 hq hqF)) (zz58 h.mv_fall)).1
theorem StepOk.q_ev (h : StepOk g r v E F) (hq : fall q) (hqF : EB q F) (ρ : Nat → Int) : ev (stQ g v q r) ρ = ev (hdP g v) ρ * ev q ρ + ev (mvP g r v) ρ := by
 unfold stQ
 rw [(zz3 (zz188 (hd_fall h.fg v) hq (h.fit3 hq hqF)) (zz58 h.mv_fall)).2, (zz190 (zz58 (hd_fall h.fg v)) (zz58 hq) (h.fit3 hq hqF)).2]
theorem StepOk.q_mem (h : StepOk g r v E F) (hq : fall q) (hqF : EB q F) {x : Term} (hx : x ∈ stQ g v q r) : (∃ t ∈ q, ∃ s ∈ g, expo s.2 v = degP g v ∧ ∀ u, expo x.2 u = expo t.2 u + expo s.2 u - if u = v then degP g v else 0) ∨ ∃ t ∈ r, expo t.2 v = degP r v ∧ ∀ u, expo x.2 u = expo t.2 u - if u = v then degP g v else 0 := by
 have hT := zz188 (hd_fall h.fg v) hq (h.fit3 hq hqF); obtain ⟨y, hy, e⟩ := add_mem hT (zz58 h.mv_fall) hx; rw [← e]
 rcases hy with hy | hy
 ·obtain ⟨a, ha, b, hb, e2⟩ := zz192 (h.fit3 hq hqF) hy hT
  obtain ⟨s, hs, hd, rfl⟩ := hd_mem ha
  refine .inl ⟨b, hb, s, hs, hd, fun u => ?_⟩
  rw [e2, zz116 (out_may (zz58 h.fg s hs) v) (zz58 hq b hb)]
  show expo (outM v s.2) u + _ = _
  rw [zz138]
  split
  ·subst_vars; omega
  ·omega
 ·exact .inr (h.mv_mem hy)
theorem StepOk.q_eb (h : StepOk g r v E F) (hq : fall q) (hqF : EB q F) : EB (stQ g v q r) (E + F) := fun x hx u => by
 rcases h.q_mem hq hqF hx with ⟨t, ht, s, hs, _, e⟩ | ⟨t, ht, _, e⟩
 ·rw [e]
  have := hqF t ht u
  have := h.eg s hs u
  have := h.h1
  split <;> omega
 ·rw [e]
  have := h.er t ht u
  have := h.h1
  have := h.e0
  split <;> omega
end
theorem pigeon {α β : Type} {R : α → β → Prop} : ∀ (L : List α) (K : List β), (∀ x ∈ L, ∃ k ∈ K, R x k) → L.Pairwise (fun x y => ∀ k, R x k → R y k → False) → L.length ≤ K.length
 | [], _, _, _ => Nat.zero_le _
 | x :: L, K, h, hp => by
  obtain ⟨k, hk, hx⟩ := h x (by simp)
  obtain ⟨a, b, rfl⟩ := List.append_of_mem hk; rw [List.pairwise_cons] at hp
  have := pigeon L (a ++ b) (fun y hy => by
   obtain ⟨k', hk', hy'⟩ := h y (by simp [hy])
   rcases List.mem_append.1 hk' with h1 | h1
   ·exact ⟨k', by simp [h1], hy'⟩
   ·rcases List.mem_cons.1 h1 with h2 | h2
    ·rw [h2] at hy'; exact (hp.1 y hy _ hx hy').elim
    ·exact ⟨k', by simp [h2], hy'⟩) hp.2
  simp at this ⊢
  omega
theorem fall_pair : ∀ {p : List Term}, fall p → p.Pairwise (fun x y => gtM x.2 y.2)
 | [], _ => List.Pairwise.nil
 | _ :: _, h => List.pairwise_cons.2 ⟨h.2.2.1, fall_pair h.2.2.2⟩
theorem count_le {β : Type} {p : List Term} (hp : fall p) (K : List β) (F : β → Int → Int) (h : ∀ x ∈ p, ∃ k ∈ K, ∀ u, expo x.2 u = F k u) : p.length ≤ K.length := by
 refine pigeon (R := fun x k => mayM 0 x.2 = true ∧ ∀ u, expo x.2 u = F k u) p K (fun x hx => ?_) ((fall_pair hp).imp fun {x y} hxy k h1 h2 => ?_)
 ·obtain ⟨k, hk, e⟩ := h x hx
  exact ⟨k, hk, zz58 hp x hx, e⟩
 ·have e : x.2 = y.2 := zz112 h1.1 h2.1 fun u => (h1.2 u).trans (h2.2 u).symm
  rw [e] at hxy
  exact zz83 hxy
def prodL {α β : Type} : List α → List β → List (α × β)
 | [], _ => []
 | a :: r, l => l.map (fun b => (a, b)) ++ prodL r l
theorem zz152 {α β : Type} (l : List β) : ∀ r : List α, (prodL r l).length = r.length * l.length
 | [] => by simp [prodL]
 | a :: r => by simp only [prodL, List.length_append, List.length_map, zz152 l r, List.length_cons, Nat.add_mul]; omega
theorem zz153 {α β : Type} {a : α} {b : β} {l : List β} (hb : b ∈ l) : ∀ {r : List α}, a ∈ r → (a, b) ∈ prodL r l
 | c :: r, h => by
  rcases List.mem_cons.1 h with rfl | h
  ·exact List.mem_append_left _ (List.mem_map.2 ⟨b, hb, rfl⟩)
  ·exact List.mem_append_right _ (zz153 hb h)
def addF (a b : Int → Int) : Int → Int := fun u => a u + b u
def cbn (g : Int → Int) (R : Nat → List (Int → Int)) : Nat → List (Int → Int)
 | 0 => [fun _ => 0]
 | s + 1 => (cbn g R s).map (addF g) ++ R (s + 1)
def cb : List (Int → Int) → Nat → List (Int → Int)
 | [], 0 => [fun _ => 0]
 | [], _ + 1 => []
 | g :: gs, s => cbn g (cb gs) s
theorem cb_zero : ∀ gs, cb gs 0 = [fun _ => 0]
 | [] => rfl
 | _ :: _ => rfl
theorem cb_mul {h : Int → Int} : ∀ {gs : List (Int → Int)} (s : Nat) (e : Int → Int), e ∈ cb gs s → h ∈ gs → addF h e ∈ cb gs (s + 1)
 | g :: gs, s, e, he, hh => by
  rcases List.mem_cons.1 hh with rfl | hh
  ·exact List.mem_append_left _ (List.mem_map.2 ⟨e, he, rfl⟩)
  ·induction s generalizing e with
   | zero =>
    have he' : e ∈ cb gs 0 := by rw [cb_zero]; exact he
    exact List.mem_append_right _ (cb_mul 0 e he' hh)
   | succ s ih =>
    have he' : e ∈ (cbn g (cb gs) s).map (addF g) ++ cb gs (s + 1) := he
    rcases List.mem_append.1 he' with h1 | h1
    ·obtain ⟨e', h2, rfl⟩ := List.mem_map.1 h1
     refine List.mem_append_left _ (List.mem_map.2 ⟨addF h e', ih e' h2, ?_⟩)
     funext u
     unfold addF
     omega
    ·exact List.mem_append_right _ (cb_mul (s + 1) e h1 hh)
def cnn (R : Nat → Nat) : Nat → Nat
 | 0 => 1
 | s + 1 => cnn R s + R (s + 1)
def cn : Nat → Nat → Nat
 | 0, 0 => 1
 | 0, _ + 1 => 0
 | n + 1, s => cnn (cn n) s
theorem cb_len : ∀ (gs : List (Int → Int)) (s : Nat), (cb gs s).length = cn gs.length s
 | [], 0 => rfl
 | [], _ + 1 => rfl
 | g :: gs, s => by
  show (cbn g (cb gs) s).length = cnn (cn gs.length) s
  induction s with
  | zero => rfl
  | succ s ih =>
   show ((cbn g (cb gs) s).map (addF g) ++ cb gs (s + 1)).length = cnn (cn gs.length) s + cn gs.length (s + 1)
   rw [List.length_append, List.length_map, ih, cb_len gs (s + 1)]
theorem sumC_append (p q : List Term) : sumC (p ++ q) = sumC p + sumC q := by
 induction p with
 | nil => simp [sumC]
 | cons t r ih => simp only [List.cons_append, sumC, ih]; omega
theorem sumC_put (c : Int) (m : List (Int × Int)) : ∀ p : List Term, sumC (putT p c m) ≤ sumC p + c.natAbs
 | [] => by
  unfold putT
  split <;> simp [sumC]
 | t :: r => by
  have ih := sumC_put c m r
  unfold putT
  split
  ·simp only [sumC]; omega
  ·split
   ·split
    ·simp only [sumC]; omega
    ·simp only [sumC]; omega
   ·split
    ·simp only [sumC]; omega
    ·simp only [sumC]; omega
theorem zz181 : ∀ (q p : List Term), sumC (addT p q) ≤ sumC p + sumC q
 | [], p => by simp [addT, sumC]
 | t :: r, p => by
  have h1 := sumC_put t.1 t.2 p; have h2 := zz181 r (putT p t.1 t.2)
  simp only [addT, sumC]
  omega
theorem sumC_neg (p : List Term) : sumC (negP p) = sumC p := by
 induction p with
 | nil => rfl
 | cons t r ih =>
  unfold negP at ih ⊢
  simp only [List.map_cons, sumC, ih, Int.natAbs_neg]
theorem sumC_sub (p q : List Term) : sumC (subT p q) ≤ sumC p + sumC q := by
 have := zz181 (negP q) p
 rw [sumC_neg] at this
 exact this
theorem sumC_mulT (t : Term) (q : List Term) : sumC (mulT t q) = t.1.natAbs * sumC q := by
 induction q with
 | nil => rfl
 | cons s r ih =>
  unfold mulT at ih ⊢
  simp only [List.map_cons, sumC, ih, Int.natAbs_mul, Nat.mul_add]
theorem sumC_mulL (q : List Term) : ∀ p : List Term, sumC (mulL p q) = sumC p * sumC q
 | [] => by simp [mulL, sumC]
 | t :: r => by simp only [mulL, sumC_append, sumC_mulT, sumC_mulL q r, sumC, Nat.add_mul]
theorem zz184 (p q : List Term) : sumC (timesT p q) ≤ sumC p * sumC q := by
 have := zz181 (mulL p q) []
 rw [sumC_mulL] at this
 simpa [sumC, timesT, ofT] using this
theorem zz182 : ∀ {p : List Term} {t : Term}, t ∈ p → t.1.natAbs ≤ sumC p
 | s :: r, t, h => by
  rcases List.mem_cons.1 h with rfl | h
  ·simp only [sumC]; omega
  ·have := zz182 h
   simp only [sumC]; omega
theorem sumC_coef (v d : Int) (p : List Term) : sumC (coefP p v d) + sumC (p.filter fun t => !(expo t.2 v == d)) = sumC p := by
 induction p with
 | nil => rfl
 | cons t r ih =>
  by_cases e : expo t.2 v = d
  ·have e1 : coefP (t :: r) v d = (t.1, outM v t.2) :: coefP r v d := by simp [coefP, e]
   have e2 : ((t :: r).filter fun t => !(expo t.2 v == d)) = r.filter fun t => !(expo t.2 v == d) := by simp [e]
   rw [e1, e2]
   simp only [sumC]
   omega
  ·have e1 : coefP (t :: r) v d = coefP r v d := by simp [coefP, e]
   have e2 : ((t :: r).filter fun t => !(expo t.2 v == d)) = t :: r.filter fun t => !(expo t.2 v == d) := by simp [e]
   rw [e1, e2]
   simp only [sumC]
   omega
theorem zz183 (p : List Term) (v : Int) : sumC (hdP p v) + sumC (tlP p v) = sumC p := sumC_coef v _ p
section
variable {g r q : List Term} {v E F : Int}
theorem StepOk.mv_sum (h : StepOk g r v E F) : sumC (mvP g r v) ≤ sumC (hdP r v) := by
 rw [h.mv]
 have := zz184 (hdP r v) [((1 : Int), powM v (degP r v - degP g v))]
 simpa [sumC] using this
theorem StepOk.left_sum (_ : StepOk g r v E F) : sumC (timesT (hdP g v) (tlP r v)) ≤ sumC g * sumC r :=
 Nat.le_trans (zz184 _ _) (Nat.mul_le_mul (by have := zz183 g v; omega) (by have := zz183 r v; omega))
theorem StepOk.less_sum (h : StepOk g r v E F) : sumC (timesT (mvP g r v) (tlP g v)) ≤ sumC g * sumC r := by
 rw [Nat.mul_comm]
 exact Nat.le_trans (zz184 _ _) (Nat.mul_le_mul (by have := zz183 r v; have := h.mv_sum; omega) (by have := zz183 g v; omega))
theorem StepOk.r_sum (h : StepOk g r v E F) : sumC (stR g v r) ≤ sumC g * sumC r := by
 have h1 := sumC_sub (timesT (hdP g v) (tlP r v)) (timesT (mvP g r v) (tlP g v)); have h2 := zz184 (hdP g v) (tlP r v); have h3 := zz184 (mvP g r v) (tlP g v)
 have h4 : sumC (mvP g r v) * sumC (tlP g v) ≤ sumC (tlP g v) * sumC (hdP r v) := by rw [Nat.mul_comm]; exact Nat.mul_le_mul_left _ h.mv_sum
 have h5 := zz183 g v; have h6 := zz183 r v
 have h7 : sumC g * sumC r = sumC (hdP g v) * sumC (hdP r v) + sumC (hdP g v) * sumC (tlP r v) + (sumC (tlP g v) * sumC (hdP r v) + sumC (tlP g v) * sumC (tlP r v)) := by
  rw [← h5, ← h6, Nat.add_mul, Nat.mul_add, Nat.mul_add]
 unfold stR
 omega
theorem StepOk.raised_sum (_ : StepOk g r v E F) : sumC (timesT (hdP g v) q) ≤ sumC g * sumC q :=
 Nat.le_trans (zz184 _ _) (Nat.mul_le_mul_right _ (by have := zz183 g v; omega))
theorem StepOk.q_sum (h : StepOk g r v E F) : sumC (stQ g v q r) ≤ sumC g * sumC q + sumC r := by
 have h1 := zz181 (mvP g r v) (timesT (hdP g v) q); have h2 := h.raised_sum (q := q); have h3 := h.mv_sum; have h4 := zz183 r v
 unfold stQ
 omega
end
def itP (g : List Term) (v : Int) (f : List Term) : Nat → List Term × List Term
 | 0 => ([], f)
 | n + 1 => (stQ g v (itP g v f n).1 (itP g v f n).2, stR g v (itP g v f n).2)
structure DivOk (g f : List Term) (v E F : Int) (N : Nat) : Prop where
 fg : fall g
 ff : fall f
 hv : 1 ≤ v ∧ v ≤ 200
 h1 : 1 ≤ degP g v
 eg : EB g E
 ef : EB f F
 e0 : 0 ≤ E
 f0 : 0 ≤ F
 df : degP f v ≤ N
 sm : F + (N + 1) * E ≤ 10000
def Long (g : List Term) (v : Int) (f : List Term) (n : Nat) : Prop := ∀ j, j < n → degP g v ≤ degP (itP g v f j).2 v
structure ItOk (g f : List Term) (v E F : Int) (n : Nat) : Prop where
 fr : fall (itP g v f n).2
 fq : fall (itP g v f n).1
 er : EB (itP g v f n).2 (F + n * E)
 eq : EB (itP g v f n).1 (F + n * E)
 dg : degP (itP g v f n).2 v + n ≤ degP f v ∨ n = 0
 ev : ∀ ρ, ev (hdP g v) ρ ^ n * ev f ρ = ev (itP g v f n).1 ρ * ev g ρ + ev (itP g v f n).2 ρ
 sr : ∀ x ∈ (itP g v f n).2, ∃ t ∈ f, ∃ e ∈ cb (g.map fun s => expo s.2) n, ∀ u, expo x.2 u = expo t.2 u + e u - if u = v then n * degP g v else 0
 sq : ∀ x ∈ (itP g v f n).1, 0 < n ∧ ∃ t ∈ f, ∃ e ∈ cb (g.map fun s => expo s.2) (n - 1), ∀ u, expo x.2 u = expo t.2 u + e u - if u = v then n * degP g v else 0
 cr : sumC (itP g v f n).2 ≤ sumC g ^ n * sumC f
 cq : sumC (itP g v f n).1 ≤ n * (sumC g ^ n * sumC f)
section
variable {g f : List Term} {v E F : Int} {N : Nat}
theorem DivOk.gpos (h : DivOk g f v E F N) : 1 ≤ sumC g := by
 rcases degP_at g v with e | ⟨t, ht, e⟩
 ·have := h.h1; omega
 ·have h2 := zz182 ht
  have := fall_nz h.fg t ht
  omega
theorem DivOk.stepOk (h : DivOk g f v E F N) {n : Nat} (hi : ItOk g f v E F n) (hl : degP g v ≤ degP (itP g v f n).2 v) : StepOk g (itP g v f n).2 v E (F + n * E) ∧ n ≤ N := by
 have hn : n ≤ N := by
  have := h.h1
  have := h.df
  rcases hi.dg with e | e <;> omega
 have hm : (n : Int) * E ≤ N * E := Int.mul_le_mul_of_nonneg_right (by omega) h.e0
 have hm0 : 0 ≤ (n : Int) * E := Int.mul_nonneg (by omega) h.e0
 have h1 := h.sm
 have h2 : ((N : Int) + 1) * E = N * E + E := by rw [Int.add_mul, Int.one_mul]
 exact ⟨⟨h.fg, hi.fr, h.hv, h.h1, hl, h.eg, hi.er, h.e0, by have := h.f0; omega, by omega⟩, hn⟩
theorem DivOk.it (h : DivOk g f v E F N) : ∀ n : Nat, Long g v f n → ItOk g f v E F n
 | 0, _ => by
  refine ⟨h.ff, trivial, h.ef.mono (by simp), (fun t ht => by cases ht), .inr rfl, (fun ρ => by simp [itP, ev]), (fun x hx => ⟨x, hx, fun _ => 0, by rw [cb_zero]; simp, fun u => by simp⟩), (fun x hx => by cases hx), (by simp [itP]), (by simp [itP, sumC])⟩
 | n + 1, hl => by
  have hi := h.it n fun j hj => hl j (by omega)
  obtain ⟨hs, hn⟩ := h.stepOk hi (hl n (by omega))
  have e1 : F + ((n + 1 : Nat) : Int) * E = E + (F + n * E) := by
   rw [show ((n + 1 : Nat) : Int) = n + 1 from rfl, Int.add_mul, Int.one_mul]; omega
  have hG := h.gpos
  refine ⟨hs.r_fall, hs.q_fall hi.fq hi.eq, ?_, ?_, .inl ?_, fun ρ => ?_, fun x hx => ?_, fun x hx => ⟨by omega, ?_⟩, ?_, ?_⟩
  ·rw [e1]; exact hs.r_eb
  ·rw [e1]; exact hs.q_eb hi.fq hi.eq
  ·have h2 := hs.r_deg
   show degP (stR g v (itP g v f n).2) v + ((n + 1 : Nat) : Int) ≤ degP f v
   rcases hi.dg with e | e
   ·omega
   ·subst e
    have h3 : degP (itP g v f 0).2 v = degP f v := rfl
    rw [h3] at h2
    omega
  ·have a := hi.ev ρ
   have b := hs.r_ev ρ; have c := hs.q_ev hi.fq hi.eq ρ
   show ev (hdP g v) ρ ^ (n + 1) * ev f ρ = ev (stQ g v (itP g v f n).1 (itP g v f n).2) ρ * ev g ρ + ev (stR g v (itP g v f n).2) ρ
   rw [b, c, Int.pow_succ]
   grind
  ·obtain ⟨_, t, ht, s, hsg, e⟩ := hs.r_mem hx
   obtain ⟨t0, ht0, e0, he0, h0⟩ := hi.sr t ht
   refine ⟨t0, ht0, addF (expo s.2) e0, cb_mul n e0 he0 (List.mem_map.2 ⟨s, hsg, rfl⟩), fun u => ?_⟩
   rw [e, h0]
   unfold addF
   rw [show ((n + 1 : Nat) : Int) * degP g v = n * degP g v + degP g v by rw [show ((n + 1 : Nat) : Int) = n + 1 from rfl, Int.add_mul, Int.one_mul]]
   split <;> omega
  ·rw [show n + 1 - 1 = n from rfl]
   rcases hs.q_mem hi.fq hi.eq hx with ⟨t, ht, s, hsg, _, e⟩ | ⟨t, ht, _, e⟩
   ·obtain ⟨hn0, t0, ht0, e0, he0, h0⟩ := hi.sq t ht
    have hm := cb_mul (n - 1) e0 he0 (List.mem_map.2 ⟨s, hsg, rfl⟩ : expo s.2 ∈ g.map fun s => expo s.2)
    rw [show n - 1 + 1 = n by omega] at hm
    refine ⟨t0, ht0, addF (expo s.2) e0, hm, fun u => ?_⟩
    rw [e, h0]
    unfold addF
    rw [show ((n + 1 : Nat) : Int) * degP g v = n * degP g v + degP g v by rw [show ((n + 1 : Nat) : Int) = n + 1 from rfl, Int.add_mul, Int.one_mul]]
    split <;> omega
   ·obtain ⟨t0, ht0, e0, he0, h0⟩ := hi.sr t ht
    refine ⟨t0, ht0, e0, he0, fun u => ?_⟩
    rw [e, h0]
    rw [show ((n + 1 : Nat) : Int) * degP g v = n * degP g v + degP g v by rw [show ((n + 1 : Nat) : Int) = n + 1 from rfl, Int.add_mul, Int.one_mul]]
    split <;> omega
  ·show sumC (stR g v (itP g v f n).2) ≤ _
   rw [Nat.pow_succ, Nat.mul_comm (sumC g ^ n), Nat.mul_assoc]
   exact Nat.le_trans hs.r_sum (Nat.mul_le_mul_left _ hi.cr)
  ·show sumC (stQ g v (itP g v f n).1 (itP g v f n).2) ≤ _
   have h2 := hs.q_sum (q := (itP g v f n).1)
   have h3 : sumC g * sumC (itP g v f n).1 ≤ sumC g * (n * (sumC g ^ n * sumC f)) := Nat.mul_le_mul_left _ hi.cq
   have h4 := hi.cr
   have h5 : sumC g ^ n * sumC f ≤ sumC g ^ (n + 1) * sumC f := Nat.mul_le_mul_right _ (Nat.pow_le_pow_right hG (by omega))
   have h6 : sumC g * (n * (sumC g ^ n * sumC f)) = n * (sumC g ^ (n + 1) * sumC f) := by rw [Nat.pow_succ]; ac_rfl
   rw [Nat.add_mul, Nat.one_mul]
   omega
theorem DivOk.steps (h : DivOk g f v E F N) {n : Nat} (hl : Long g v f n) : n ≤ N := by
 rcases n with _ | n
 ·omega
 ·exact Nat.lt_of_lt_of_le (Nat.lt_succ_self n) (by
   have hi := h.it (n + 1) hl
   have := zz38 (itP g v f (n + 1)).2 v
   have := h.df
   rcases hi.dg with e | e <;> omega)
theorem ItOk.rlen {n : Nat} (h : ItOk g f v E F n) : (itP g v f n).2.length ≤ f.length * cn g.length n := by
 have := count_le h.fr (prodL f (cb (g.map fun s => expo s.2) n)) (fun k u => expo k.1.2 u + k.2 u - if u = v then n * degP g v else 0) (fun x hx => by
  obtain ⟨t, ht, e, he, h0⟩ := h.sr x hx
  exact ⟨(t, e), zz153 he ht, h0⟩)
 rwa [zz152, cb_len, List.length_map] at this
theorem ItOk.qlen {n : Nat} (h : ItOk g f v E F n) : (itP g v f n).1.length ≤ f.length * cn g.length (n - 1) := by
 have := count_le h.fq (prodL f (cb (g.map fun s => expo s.2) (n - 1))) (fun k u => expo k.1.2 u + k.2 u - if u = v then n * degP g v else 0) (fun x hx => by
  obtain ⟨_, t, ht, e, he, h0⟩ := h.sq x hx
  exact ⟨(t, e), zz153 he ht, h0⟩)
 rwa [zz152, cb_len, List.length_map] at this
end
open Go.RowKit
structure FarB [Ol] (w w' : World) (b : Nat) : Prop where
 kp : ∀ c, Kp w c → c ≠ b
 g : w.grownBy w' (some b)
 u : ∀ (ad : Addr) (x : Int), w.cell? ad = some (.int .u32 x) → w'.cell? ad = some (.int .u32 x)
def isU (v : Value) : Bool := match v with | .int .u32 _ => true | _ => false
theorem cell_in {w : World} {b : Nat} {vs : List Value} {T : TypeId} (hA : AtN w b vs T) {ad : Addr} {x : Value} (hc : w.cell? ad = some x) (hb : ad.block = b) : x ∈ vs := by
 obtain ⟨b', o, s⟩ := ad; obtain rfl : b' = b := hb
 have hs : s = none := World.cell?_spot hc
 subst hs; rw [hA.cell] at hc
 exact List.mem_of_getElem? hc
theorem FarB.mk' [Ol] {w w' : World} {b : Nat} {vs : List Value} {T : TypeId} (hlo : Ol.lo ≤ b) (hA : AtN w b vs T) (hT : badT.contains T = true) (hI : ∃ u ∈ vs, notInt u = false) (hU : ∀ u ∈ vs, isU u = false) (hG : w.grownBy w' (some b)) : FarB w w' b := by
 refine ⟨fun c hc => hc.far hlo hA hT (by simpa using hI), hG, fun ad x hx => hG.cell hx fun e => ?_⟩
 have := hU _ (cell_in hA hx (Option.some.inj e))
 simp [isU] at this
theorem Gl.farB [Ol] {sz : Nat} {w w' : World} {ao : Option Addr} {n cap : Nat} {vss : List (List Value)} {b : Nat} (h : Gl sz w ao n cap vss) (hF : FarB w w' b) : Gl sz w' ao n cap vss := by
 have hk : ∀ ad, ao = some ad → 0 < n → w'.heap[ad.block]? = w.heap[ad.block]? := fun ad had h0 => hF.g.block _ (h.lt ad had h0) fun e => hF.kp _ (h.kp h0 ad had) (Option.some.inj e)
 refine ⟨h.len, h.le, h.big, h.each, h.nil, h.spot, fun ad had h0 => Nat.lt_of_lt_of_le (h.lt ad had h0) hF.g.size, fun ad had t ht j hj => ?_, fun h0 ad had => (h.kp h0 ad had).keep (hk ad had h0)⟩
 rw [← h.cells ad had t ht j hj]
 exact World.cell?_of_block (by rw [zz6]; exact hk ad had (by omega))
theorem Ml.farB [Ol] {w w' : World} {ao : Option Addr} {n cap : Nat} {ps : List (Int × Int)} {b : Nat} (h : Ml w ao n cap ps) (hF : FarB w w' b) : Ml w' ao n cap ps := by
 have hk : ∀ ad, ao = some ad → 0 < n → w'.heap[ad.block]? = w.heap[ad.block]? := fun ad had h0 => hF.g.block _ (h.blt h0 had) fun e => hF.kp _ (h.kp h0 ad had) (Option.some.inj e)
 refine ⟨h.len, h.le, h.big, h.wf, h.nil, fun ad had t ht => ?_, fun h0 ad had => (h.kp h0 ad had).keep (hk ad had h0)⟩
 have hc := h.cells ad had t ht; rw [← hc.1, ← hc.2]
 exact ⟨World.cell?_of_block (by rw [zz6]; exact hk ad had (by omega)), World.cell?_of_block (by rw [zz6]; exact hk ad had (by omega))⟩
theorem dsl_farB [Ol] {w w' : World} {ao : Option Addr} {n cap : Nat} {ps : List Nat} {b : Nat} (h : Dg.Sl w ao n cap ps) (hF : FarB w w' b) : Dg.Sl w' ao n cap ps := by
 have hk : ∀ ad, ao = some ad → 0 < n → w'.heap[ad.block]? = w.heap[ad.block]? := fun ad had h0 => hF.g.block _ (h.blt h0 had) fun e => hF.kp _ (h.kp h0 ad had) (Option.some.inj e)
 refine ⟨h.len, h.le, h.big, h.wf, h.nil, fun ad had t ht => ?_, fun h0 ad had => (h.kp h0 ad had).keep (hk ad had h0)⟩
 rw [← h.cells ad had t ht]
 exact World.cell?_of_block (by rw [zz6]; exact hk ad had (by omega))
theorem Sl.farB [Ol] {w w' : World} {ao : Option Addr} {n cap : Nat} {xs : List Nat} {b : Nat} (h : Sl w ao n cap xs) (hF : FarB w w' b) : Sl w' ao n cap xs :=
 ⟨h.len, h.le, h.big, h.wf, h.nil, fun ad had t ht => hF.u _ _ (h.cells ad had t ht)⟩
theorem In.farB [Ol] {w w' : World} {m : Bool} {ao : Option Addr} {n cap : Nat} {z : Int} {b : Nat} (h : In w m ao n cap z) (hF : FarB w w' b) : In w' m ao n cap z := by
 obtain ⟨xs, hs, hz⟩ := h
 exact ⟨xs, hs.farB hF, hz⟩
theorem Cn.farB [Ol] {w w' : World} {m : Bool} {ao : Option Addr} {n cap : Nat} {z : Int} {b : Nat} (h : Cn w m ao n cap z) (hF : FarB w w' b) : Cn w' m ao n cap z := ⟨h.neg, h.sl.farB hF⟩
theorem Zd.farB [Ol] {w w' : World} {m : Bool} {ao : Option Addr} {n cap : Nat} {z : Int} {b : Nat} (h : Zd w m ao n cap z) (hF : FarB w w' b) : Zd w' m ao n cap z := ⟨h.neg, dsl_farB h.sl hF⟩
theorem Pc.farB [Ol] {K : Nat} {w w' : World} {ao : Option Addr} {n cap : Nat} {p : List Term} {b : Nat} (h : Pc K w ao n cap p) (hF : FarB w w' b) : Pc K w' ao n cap p := by
 obtain ⟨vss, h1, h2⟩ := h.ex
 exact ⟨vss, h1.farB hF, h2.imp fun v a h => by
  obtain ⟨m, ao, n, cap, bo, k, cb, h1, h2, h3, h4⟩ := h
  exact ⟨m, ao, n, cap, bo, k, cb, h1, h2.farB hF, h3, h4.farB hF⟩⟩
theorem Pz.farB [Ol] {K : Nat} {w w' : World} {ao : Option Addr} {n cap : Nat} {p : List Term} {b : Nat} (h : Pz K w ao n cap p) (hF : FarB w w' b) : Pz K w' ao n cap p := by
 obtain ⟨vss, h1, h2⟩ := h.ex
 exact ⟨vss, h1.farB hF, h2.imp fun v a h => by
  obtain ⟨m, ao, n, cap, bo, k, cb, h1, h2, h3, h4⟩ := h
  exact ⟨m, ao, n, cap, bo, k, cb, h1, h2.farB hF, h3, h4.farB hF⟩⟩
theorem Pr.farB [Ol] {w w' : World} {ao : Option Addr} {n cap : Nat} {ps : List Raw} {b : Nat} (h : Pr w ao n cap ps) (hF : FarB w w' b) : Pr w' ao n cap ps := by
 obtain ⟨vss, h1, h2⟩ := h.ex
 exact ⟨vss, h1.farB hF, h2.imp fun v a h => by
  obtain ⟨ao, n, cap, bo, k, cb, h1, h2, h4⟩ := h
  exact ⟨ao, n, cap, bo, k, cb, h1, h2.farB hF, h4.farB hF⟩⟩
theorem tmsC_lower [Ol] {K K' : Nat} {w : World} : ∀ {X : List (List Value)} {p : List Term}, Tms (TmC K' w) X p → (∀ t ∈ p, Bd t.1 K) → Tms (TmC K w) X p
 | [], [], _, _ => trivial
 | _ :: _, _ :: _, h, hb => by
  obtain ⟨m, ao, n, cap, bo, k, cb, h1, h2, _, h4⟩ := h.1
  exact ⟨⟨m, ao, n, cap, bo, k, cb, h1, h2, hb _ (by simp), h4⟩, tmsC_lower h.2 fun t ht => hb t (by simp [ht])⟩
 | [], _ :: _, h, _ => h.elim
 | _ :: _, [], h, _ => h.elim
theorem Pc.lower [Ol] {K K' : Nat} {w : World} {ao : Option Addr} {n cap : Nat} {p : List Term} (h : Pc K' w ao n cap p) (hb : ∀ t ∈ p, Bd t.1 K) : Pc K w ao n cap p := by
 obtain ⟨X, h1, h2⟩ := h.ex
 exact ⟨X, h1, tmsC_lower h2 hb⟩
open Lib (hid)
open Go.RowKit
section
variable {G : Nat} {lb : Array Value} {f : Term → Bool}
def IsFS [Ol] (S : World → Prop) (G : Nat) (lb : Array Value) (f : Term → Bool) (K : Nat) : Prop := ∀ (m : Bool) (ao : Option Addr) (n cap : Nat) (bo : Option Addr) (l cb : Nat) (t : Term) (w : World), S w → Cn w m ao n cap t.1 → Bd t.1 K → Ml w bo l cb t.2 →
 Calls Tryz.prog G (#[.agg #[.bool m, .slice ao n cap, .slice bo l cb]] ++ lb) w (RetB (.bool (f t)) w)
theorem indexS_any [Ol] {S : World → Prop} (eg : ∀ args w, (callFunc G args).run Tryz.prog w = .ok (.enter G args) w) {K : Nat} (hV : IsFS S G lb f K)
  {ao : Option Addr} {n cap : Nat} {p : List Term} {w : World} (h : Pc K w ao n cap p) (hn : n ≤ 1000000) (hS : ∀ V, w.grownBy V (blk ao) → S V) :
  Calls Tryz.prog 158 #[.slice ao n cap, .func (.func G) #[] lb] w (fun e w' => ∃ z : Int, e = .returned (.int .i64 z) ∧ Below w.heap.size w w' ∧
   ((z = -1 ∧ ∀ t, t < n → f (p.getD t (0, [])) = false) ∨ ∃ k : Nat, z = k ∧ k < n ∧ f (p.getD k (0, [])) = true ∧ ∀ t, t < k → f (p.getD t (0, [])) = false)) := by
 have HM := hid h; have HV := hid hV; have HS := hid hS; clear h hV hS
 go_enter Tryz.func158, Tryz.ntmps158
 go_wp2
 go_loopw [8] (fun i wr => ∃ k : Nat, k ≤ n ∧ i = .int .i64 k ∧ Hid (∀ t, t < k → f (p.getD t (0, [])) = false) ∧ Hid (Pc K wr ao n cap p ∧ Below w.heap.size w wr)) (fun i _ => n - (intOf i).toNat)
 case atStart => exact ⟨0, Nat.zero_le _, rfl, fun t ht => by omega, HM.out, Below.refl _ _⟩
 case round =>
  clear HM; obtain ⟨k, hk, rfl, HT, HW⟩ := hrel
  by_cases hkn : k < n
  ·obtain ⟨b, off, xm, xa, xn, xc, xp, xq, xr, rfl, hb, hc, h1, h2, h3⟩ := HW.out.1.at hkn
   obtain ⟨c0, c1, c2⟩ := hc wr (Below.refl _ _); clear hc; have hcall := HV.out xm xa xn xc xp xq xr _ _ (HS.out _ (zz74 _ HW.out.2)) h1 h2 h3; clear h1 h2 h3
   cases hq : f (p.getD k (0, [])) with
   | true =>
    rw [hq] at hcall; have HC := hid hcall
    have HQ := hid hq; clear hcall hq
    go_wp2_with (go_at_fn G; refine HC.out.mono ?_; rintro e w2 ⟨rfl, hB⟩; have HB2 := hid hB; clear hB)
    go_ret
    exact ⟨k, rfl, Below.steps HW.out.2 HB2.out, .inr ⟨k, rfl, hkn, HQ.out, HT.out⟩⟩
   | false =>
    rw [hq] at hcall; have HC := hid hcall
    have HQ := hid hq; clear hcall hq
    go_wp2_with (go_at_fn G; refine HC.out.mono ?_; rintro e w2 ⟨rfl, hB⟩; have HB2 := hid hB; clear hB)
    go_roundw
    case rel =>
     refine ⟨k + 1, by omega, by go_num, fun t ht => ?_, HW.out.1.below HB2.out, Below.steps HW.out.2 HB2.out⟩
     by_cases htk : t < k
     ·exact HT.out t htk
     ·obtain rfl : t = k := by omega
      exact HQ.out
    case measure => simp [intOf]; omega
  ·obtain rfl : k = n := by omega
   go_wp2
   go_ret
   exact ⟨-1, rfl, HW.out.2, .inl ⟨rfl, HT.out⟩⟩
end
theorem deleteS_any [Ol] {S : World → Prop} {G : Nat} {lb : Array Value} {f : Term → Bool} (eg : ∀ args w, (callFunc G args).run Tryz.prog w = .ok (.enter G args) w) {B K : Nat} (hV : IsFS S G lb f K)
  {ao : Option Addr} {n cap : Nat} {p : List Term} {w : World} (h : Pw B K w ao n cap p) (hn : n ≤ 1000000) (hS : ∀ V, w.grownBy V (blk ao) → S V) :
  Calls Tryz.prog 121 #[.slice ao n cap, .func (.func G) #[] lb] w (fun e w' => ∃ m, e = .returned (.slice ao m cap) ∧ Pw B K w' ao m cap (outF f p) ∧ w.grownBy w' (blk ao)) := by
 have HI := hid (indexS_any eg hV h.pc hn hS); have HM := hid h; have HV := hid hV; have HS := hid hS; clear h hV hS
 go_enter Tryz.func121, Tryz.ntmps121
 go_wp2_with fail
 refine HI.out.mono ?_
 rintro e w1 ⟨z, rfl, hB, hz⟩; have HM1 := hid (HM.out.below hB); have HG1 := hid (zz74 (blk ao) hB); have HZ := hid hz; clear HI HM hB hz
 rcases HZ.out with ⟨rfl, hz⟩ | ⟨k, rfl, hk, hkv, hkl⟩
 ·have HO : Hid (outF f p = p) := zz136 (by rw [HM1.out.len]; exact hz)
  clear HZ hz
  go_wp2
  go_ret
  exact ⟨n, rfl, by rw [HO.out]; exact HM1.out, HG1.out⟩
 ·have f0 : ((k : Int) == -1) = false := beq_eq_false_iff_ne.2 (by omega)
  have hl := HM1.out.len
  have HT : Hid (p.take k = outF f (p.take (k + 1))) := by
   rw [Hid, zz137 (by omega) hkv, zz136]
   intro t ht
   have htk : t < k := by simp at ht; omega
   have := hkl t htk
   simpa [List.getD, List.getElem?_take, htk] using this
  have HPL : Hid (p.length = n) := hl
  clear HZ hkv hkl hl; obtain ⟨g, off, _, _, _, _, _, _, _, rfl, _, _, _, _, _⟩ := HM1.out.pc.at hk
  go_wp2
  go_loopw [5, 6, 7] (fun i j _ wr => ∃ (a b : Nat) (zs : List Term), i = .int .i64 a ∧ j = .int .i64 b ∧ a < b ∧ b ≤ n ∧ Hid (zs.take a = outF f (p.take b) ∧ zs.drop b = p.drop b) ∧ Hid (Pw B K wr (some ⟨g, off, none⟩) n cap zs) ∧ Hid (w.grownBy wr (some g))) (fun _ j _ _ => n - (intOf j).toNat)
  case atStart => exact ⟨k, k + 1, p, rfl, by go_num, by omega, by omega, ⟨HT.out, rfl⟩, HM1.out, HG1.out⟩
  case round =>
   clear HM1 HG1 HT; obtain ⟨a, b, zs, rfl, rfl, hab, hbn, HT, HM, HW⟩ := hrel
   by_cases hlt : b < n
   ·obtain ⟨g2, off2, xm, xa, xn, xc, xp, xq, xr, hge, hgl, hc, h1, h2, h3⟩ := HM.out.pc.at hlt
    cases hge
    obtain ⟨c0, c1, c2⟩ := hc wr (Below.refl _ _); clear hc
    have hzl : zs.length = n := HM.out.len
    obtain ⟨e1, e2⟩ := drop_getT HT.out.2; obtain ⟨t, ht⟩ : ∃ t, t = zs.getD b (0, []) := ⟨_, rfl⟩; rw [← ht] at h1 h2 h3 e1; have HE := hid (And.intro e1 e2); have HC0 := hid h1; have HC1 := hid h2; have HC2 := hid h3; clear ht e1 e2 h1 h2 h3; have hal := zz13 wr (.cells #[.bool xm, .slice xa xn xc, .slice xp xq xr] 68); have hcall := HV.out xm xa xn xc xp xq xr t _ (HS.out _ (zz82 HW.out (zz74 _ hal))) (HC0.out.below hal) HC1.out (HC2.out.below hal); have HAL := hid hal
    clear hal
    cases hq : f t with
    | true =>
     rw [hq] at hcall; have HC := hid hcall
     have HQ := hid hq; clear hcall hq
     go_wp2_with (go_at_fn G; refine HC.out.mono ?_; rintro e w2 ⟨rfl, hB⟩; have HB2 := hid hB; clear hB)
     go_roundw
     case rel =>
      refine ⟨a, b + 1, zs, rfl, by go_num, by omega, by omega, ⟨?_, HE.out.2⟩, HM.out.below (zz176 HB2.out), zz82 HW.out (zz74 _ (zz176 HB2.out))⟩
      rw [zz137 (by rw [HPL.out]; exact hlt) (by rw [← HE.out.1]; exact HQ.out)]
      exact HT.out.1
     case measure => simp [intOf]; omega
    | false =>
     rw [hq] at hcall; have HC := hid hcall
     have HQ := hid hq; clear hcall hq
     go_wp2_with (go_at_fn G; refine HC.out.mono ?_; rintro e w2 ⟨rfl, hB⟩; have HB2 := hid hB; have HM2 := hid (HM.out.below (zz176 hB)); obtain ⟨_, _, _, _, _, _, _, _, _, hge, _, hc, _, _, _⟩ := HM2.out.pc.at (k := a) (by omega); cases hge; obtain ⟨d0, d1, d2⟩ := hc w2 (Below.refl _ _); clear hc; obtain ⟨d3, d4, d5⟩ := HM2.out.fz3 (k := a) (by omega); have d6 := hB.cell (p := ⟨wr.heap.size, 0, none⟩) (by simp); have d7 := hB.cell (p := ⟨wr.heap.size, 1, none⟩) (by simp); have d8 := hB.cell (p := ⟨wr.heap.size, 2, none⟩) (by simp); simp at d6 d7 d8; clear hB)
     go_roundw
     case rel =>
      have hst := HM2.out.setT (Below.refl _ _) (k := a) (t := t) (by omega) (a := .bool xm) (b := .slice xa xn xc) (c := .slice xp xq xr) ⟨_, _, _, _, _, _, _, rfl, HC0.out.below (zz176 HB2.out), HC1.out, HC2.out.below (zz176 HB2.out)⟩
      refine ⟨a + 1, b + 1, zs.set a t, by go_num, by go_num, by omega, by omega, ⟨?_, ?_⟩, hst.1, zz82 (zz82 HW.out (zz74 _ (zz176 HB2.out))) hst.2⟩
      ·rw [outF_no (by rw [HPL.out]; exact hlt) (by rw [← HE.out.1]; exact HQ.out), take_setT (by omega), HT.out.1, ← HE.out.1]
      ·rw [drop_setT (by omega)]; exact HE.out.2
     case measure => simp [intOf]; omega
   ·obtain rfl : b = n := by omega
    obtain ⟨_, _, hbc, hcm, hrm⟩ := HM.out.room
    have hca : ¬ cap = a := by omega
    obtain ⟨cs, hq1, hq3, hq2⟩ := zz170 wr g (off + a * 3) (b - a) (cap - a) (by omega) (fun j hj => by rw [Nat.add_assoc]; exact (hrm (a * 3 + j) (by omega)).1) (fun j hj => by rw [Nat.add_assoc]; exact (hrm (a * 3 + j) (by omega)).2)
    have hcut := HM.out.cutT (k := a) (by omega) hq3
    have HR : Hid (Pw B K (wr.setCells g (off + a * 3) cs) (some ⟨g, off, none⟩) a cap (outF f p)) := by
     have h1 : zs.take a = outF f p := HT.out.1.trans (by rw [List.take_of_length_le (by rw [HPL.out]; exact Nat.le_refl _)])
     rw [Hid, ← h1]; exact hcut.1
    have HGW := hid (zz82 HW.out hcut.2)
    have hbig : cap ≤ 9223372036854775807 := by unfold maxLen at hcm; omega
    clear hrm hcut hq1 hcm
    go_wp2
    go_ret
    exact ⟨a, rfl, HR.out, HGW.out⟩
open Lib (hid)
open Go.RowKit
theorem pdegrees_any [Ol] {K : Nat} {ao : Option Addr} {n cap : Nat} {p : List Term} {w : World} (hp : Pc K w ao n cap p) (hf : fall p) (hn : n ≤ 1000000) :
  Calls Tryz.prog 127 #[.slice ao n cap] w (DegW w p) := by
 have HP := hid hp; have HF := hid hf; clear hp hf
 go_enter Tryz.func127, Tryz.ntmps127
 go_wp2
 go_loopw [3, 8] (fun s3 s8 wr => ∃ (k : Nat) (mo : Option Addr) (mn mc : Nat) (m : List (Int × Int)), s3 = .slice mo mn mc ∧ s8 = .int .i64 k ∧ k ≤ n ∧ Hid (Ml wr mo mn mc m ∧ IsDeg (p.take k) m ∧ Below w.heap.size w wr)) (fun _ s8 _ => n - (intOf s8).toNat)
 case atStart => exact ⟨0, none, 0, 0, [], rfl, rfl, Nat.zero_le _, Ml.zero _, IsDeg.nil, Below.refl _ _⟩
 case round =>
  obtain ⟨k, mo, mn, mc, m, rfl, rfl, hk, HI⟩ := hrel
  by_cases hkm : k < n
  ·have hkp : k < p.length := by rw [HP.out.len]; exact hkm
   obtain ⟨t, ht⟩ : ∃ t, t = p.getD k (0, []) := ⟨_, rfl⟩; obtain ⟨b, off, xm, xa, xn, xc, xp, xq, xr, hbo, hbl, hc, hCn, hBd, hMl⟩ := (HP.out.below HI.out.2.2).at (k := k) hkm; subst hbo; rw [← ht] at hMl; obtain ⟨c0, c1, c2⟩ := hc wr (Below.refl _ _)
   have hD := HI.out.2.1.next (zz57 HF.out t (by rw [ht]; exact getD_in _ hkp))
   rw [ht, getD_of _ hkp, ← List.take_succ_eq_append_getElem hkp, ← getD_of (0, []) hkp, ← ht] at hD
   have HT := hid (And.intro hMl hD); clear hc hCn hBd hMl hbl ht hD
   go_upto_region 5 with (fail)
   refine zz233 (fun W hW => ?_)
   obtain ⟨a1, hB⟩ := box1 wr [.bool xm, .slice xa xn xc, .slice xp xq xr] 68; rw [← hW] at a1 hB; clear hW c0 c1 c2; have HB1 := hid (Below.steps HI.out.2.2 hB); have HM1 := hid (And.intro (HI.out.1.below hB) (HT.out.1.below hB)); have HD := hid HT.out.2; obtain ⟨c0, c1, c2⟩ := a1.c3; clear a1 hB HT HI; go_wp2_with fail; refine (least_any HM1.out.1 HM1.out.2).mono ?_; rintro e w2 ⟨ro, rn, rc, rfl, h1, hB⟩
   have HI2 : Hid (Ml w2 ro rn rc _ ∧ IsDeg (p.take (k + 1)) _ ∧ Below w.heap.size w w2) := ⟨h1, HD.out, Below.steps HB1.out hB⟩
   clear h1 hB HB1 HM1 HD c0 c1 c2
   go_wp2
   go_roundw
   case rel => exact ⟨k + 1, ro, rn, rc, _, rfl, by go_num, by omega, HI2.out⟩
   case measure => simp [intOf]; omega
  ·obtain rfl : n = k := by omega
   have h := HI.out
   rw [List.take_of_length_le (by rw [HP.out.len]; exact Nat.le_refl _)] at h
   have HH := hid h; clear h HI
   go_wp2
   go_ret
   exact ⟨_, _, _, _, rfl, HH.out.1, HH.out.2.1, HH.out.2.2⟩
open Lib (hid)
open Go.RowKit
theorem partsFn_any [Ol] {x y : Nat} {v d z : Int} {m : Bool} {ao : Option Addr} {n cap : Nat} {bo : Option Addr} {l cb : Nat} {ps : List (Int × Int)} {r : Bool} {w : World} (hx : At1 w x (.int .i64 v) 3) (hy : At1 w y (.int .i64 d) 3) (hm : Ml w bo l cb ps) (hz : exE ps v = z) (hr : (z == d) = r) :
  Calls Tryz.prog 120 #[.agg #[.bool m, .slice ao n cap, .slice bo l cb], .pointer (some ⟨x, 0, none⟩), .pointer (some ⟨y, 0, none⟩)] w (RetB (.bool r) w) := by
 have HX := hid hx; have HY := hid hy; have HM := hid (And.intro hm hz); clear hx hy hm hz
 go_enter Tryz.func120, Tryz.ntmps120
 go_upto_region 1 with (fail)
 refine zz233 (fun W hW => ?_)
 obtain ⟨a1, hB⟩ := box1 w [.bool m, .slice ao n cap, .slice bo l cb] 68; rw [← hW] at a1 hB; clear hW; have HA := hid (And.intro a1 (And.intro (HX.out.below hB) (HY.out.below hB))); have HM2 := hid (And.intro (HM.out.1.below hB) HM.out.2); have HB := hid hB; clear a1 hB HM HX HY
 refine wp_region_held_drew (S := fun w' => (w'.cell? ⟨w.heap.size, 0, none⟩ = some (.bool m) ∧ w'.cell? ⟨w.heap.size, 1, none⟩ = some (.slice ao n cap) ∧ w'.cell? ⟨w.heap.size, 2, none⟩ = some (.slice bo l cb)) ∧ w'.cell? ⟨x, 0, none⟩ = some (.int .i64 v) ∧ w'.cell? ⟨y, 0, none⟩ = some (.int .i64 d)) (by kernel_rfl) ⟨(HA.out.1.below (Below.refl _ _).drew).c3, (HA.out.2.1.below (Below.refl _ _).drew).cell, (HA.out.2.2.below (Below.refl _ _).drew).cell⟩ (fun hH => ?_)
 refine zz10 (fun w1 hW => ?_)
 have HS1 : Hid (Below W.heap.size W w1) := by rw [hW]; exact (Below.refl _ _).drew
 rw [← hW] at hH; clear hW
 refine son 0 hH ?_; try simp only [nrm]
 refine son 1 hH ?_; try simp only [nrm]
 refine son 2 hH ?_; try simp only [nrm]
 refine son 4 hH ?_; try simp only [nrm]
 refine zz178 3 rfl (by kernel_rfl) (fun KK hK => ?_)
 go_simp; refine (zz40 (HM2.out.1.below HS1.out) v z HM2.out.2).mono ?_
 rintro e w2 ⟨rfl, hB⟩; have HS2 := hid (Below.steps HS1.out hB); clear hB HS1; go_wp2_with fail
 clear hH; refine hK.out _ _ ⟨(HA.out.1.below HS2.out).c3, (HA.out.2.1.below HS2.out).cell, (HA.out.2.2.below HS2.out).cell⟩ fun hH => ?_; clear hK KK
 try simp only [nrm]
 refine son 5 hH ?_; try simp only [nrm]
 refine son 6 hH ?_; try simp only [nrm]
 refine wpAnyH_done (by kernel_rfl) ?_ _
 go_wp2_with fail
 go_ret
 exact ⟨rfl, Below.steps HB.out HS2.out⟩
section
variable {K : Nat} {ao : Option Addr} {n cap : Nat} {p : List Term} {w : World}
theorem vDegreeC_any [Ol] (v z : Int) (hp : Pc K w ao n cap p) (hf : fall p) (hK : K ≤ 1000) (hz : degP p v = z) : Calls Tryz.prog 19 #[.slice ao n cap, .int .i64 v] w (RetB (.int .i64 z) w) :=
 vDegree_any v z hp.raw (fun t ht => Nat.le_trans (hp.lens t ht) hK) (by rw [pln_raw hf]; exact hz)
theorem vCoefC_any [Ol] (v e0 : Int) (hp : Pc K w ao n cap p) (hf : fall p) (hv : 1 ≤ v ∧ v ≤ 200) (hn : n ≤ 1000000) (hK : K ≤ 1000) : Calls Tryz.prog 21 #[.slice ao n cap, .int .i64 v, .int .i64 e0] w (NewPw (K + 1) w (coefP p v e0)) := by
 have h := vCoef_any v e0 hp.raw hp.lens hn hK; rw [pln_raw hf, coefV, if_pos hv] at h
 exact h
def PartsW [Ol] (K : Nat) (w : World) (p : List Term) (v : Int) (e : Ending) (w' : World) : Prop := ∃ ho hn hc ta tn tc, e = .returned (.agg #[.int .i64 (degP p v), .slice ho hn hc, .slice ta tn tc]) ∧ Pc (K + 1) w' ho hn hc (hdP p v) ∧ Pc K w' ta tn tc (tlP p v) ∧ Below w.heap.size w w'
theorem outF_tl {p : List Term} (hf : mays p) (v : Int) : outF (fun t => exE t.2 v == degP p v) p = tlP p v := by
 unfold outF tlP
 refine List.filter_congr fun t ht => ?_
 show (!(exE t.2 v == degP p v)) = _
 rw [exE_yes (hf t ht)]
theorem zz141 [Ol] (v : Int) (hp : Pc K w ao n cap p) (hf : fall p) (hv : 1 ≤ v ∧ v ≤ 200) (hn : n ≤ 1000000) (hK : K ≤ 1000) (hlo : Ol.lo ≤ w.heap.size) : Calls Tryz.prog 74 #[.slice ao n cap, .int .i64 v] w (PartsW K w p v) := by
 have hz : ∃ z, degP p v = z := ⟨_, rfl⟩
 obtain ⟨z, hz⟩ := hz; have HZ := hid hz; have HF := hid hf; have HV := hid hv
 have eg : ∀ args w, (callFunc 120 args).run Tryz.prog w = .ok (.enter 120 args) w := enters_of Tryz.func120 (by kernel_rfl) rfl
 have hmf : ∀ (fn : Fn) (first cap : Array Value) (w : World), (Instr.makeFunc fn first cap).run Tryz.prog w = .ok (.func fn first cap) w := fun _ _ _ _ => rfl
 have EG := hid eg; have HP := hid hp; have HLO := hid hlo; clear eg hz hf hv hp hlo
 go_enter Tryz.func74, Tryz.ntmps74
 go_upto_region 1 with (fail)
 refine zz233 (fun W hW => ?_)
 obtain ⟨a1, a2, hB⟩ := box2 w [.int .i64 v] [.int .i64 0, .slice none 0 0, .slice none 0 0] 3 78; rw [← hW] at a1 a2 hB; clear hW; obtain ⟨g, hg⟩ : ∃ g, g = w.heap.size := ⟨_, rfl⟩
 have HS : Hid (At1 W g (.int .i64 v) 3 ∧ AtN W (g + 1) [.int .i64 0, .slice none 0 0, .slice none 0 0] 78 ∧ Pc K W ao n cap p ∧ Below g w W ∧ g ≤ W.heap.size) := by rw [hg]; exact ⟨a1, a2, HP.out.below hB, hB, hB.size⟩
 have HGL : Hid (Ol.lo ≤ g) := by rw [hg]; exact HLO.out
 have HGS : Hid (g = w.heap.size) := hg
 rw [← hg]; have c0 := HS.out.1.cell
 clear a1 a2 hB hg HP HLO; go_wp2_with fail
 refine (vDegreeC_any v z HS.out.2.2.1 HF.out (by omega) HZ.out).mono ?_
 rintro e w1 ⟨rfl, hB⟩
 have HS1 : Hid (At1 w1 g (.int .i64 v) 3 ∧ AtN w1 (g + 1) [.int .i64 0, .slice none 0 0, .slice none 0 0] 78 ∧ Pc K w1 ao n cap p ∧ Below g w w1 ∧ g ≤ w1.heap.size) := ⟨HS.out.1.below hB, HS.out.2.1.below hB, HS.out.2.2.1.below hB, HS.out.2.2.2.1.trans (hB.mono HS.out.2.2.2.2), Nat.le_trans HS.out.2.2.2.2 hB.size⟩
 clear hB HS c0
 go_upto_region 2 with (fail)
 refine zz233 (fun W2 hW => ?_)
 obtain ⟨y, hy⟩ : ∃ y, y = w1.heap.size := ⟨_, rfl⟩
 have HS2 : Hid ((At1 W2 g (.int .i64 v) 3 ∧ At1 W2 y (.int .i64 z) 3) ∧ AtN W2 (g + 1) [.int .i64 0, .slice none 0 0, .slice none 0 0] 78 ∧ Pc K W2 ao n cap p ∧ Below g w W2 ∧ g ≤ W2.heap.size) := by
  have hB := zz13 w1 (.cells #[.int .i64 z] 3); rw [← hW] at hB
  exact ⟨⟨HS1.out.1.below hB, by rw [hW, hy]; exact At1.new w1 _ _⟩, HS1.out.2.1.below hB, HS1.out.2.2.1.below hB, HS1.out.2.2.2.1.trans (hB.mono HS1.out.2.2.2.2), Nat.le_trans HS1.out.2.2.2.2 hB.size⟩
 have HYG : Hid (g + 1 < y) := by rw [hy]; exact HS1.out.2.1.lt
 rw [← hy]; clear hW hy HS1
 go_upto_region 3 with (fail)
 refine wp_region_held_drew (S := fun w' => w'.cell? ⟨g, 0, none⟩ = some (.int .i64 v) ∧ w'.cell? ⟨y, 0, none⟩ = some (.int .i64 z)) (by kernel_rfl) ⟨(HS2.out.1.1.below (Below.refl _ _).drew).cell, (HS2.out.1.2.below (Below.refl _ _).drew).cell⟩ (fun hH => ?_)
 refine zz10 (fun w3 hW => ?_)
 have hB : Below W2.heap.size W2 w3 := by rw [hW]; exact (Below.refl _ _).drew
 have HS3 : Hid ((At1 w3 g (.int .i64 v) 3 ∧ At1 w3 y (.int .i64 z) 3) ∧ AtN w3 (g + 1) [.int .i64 0, .slice none 0 0, .slice none 0 0] 78 ∧ Pc K w3 ao n cap p ∧ Below g w w3 ∧ g ≤ w3.heap.size) := ⟨⟨HS2.out.1.1.below hB, HS2.out.1.2.below hB⟩, HS2.out.2.1.below hB, HS2.out.2.2.1.below hB, HS2.out.2.2.2.1.trans (hB.mono HS2.out.2.2.2.2), Nat.le_trans HS2.out.2.2.2.2 hB.size⟩
 rw [← hW] at hH; clear hB HS2
 clear hW
 refine son 0 hH ?_; try simp only [nrm]
 refine son 1 hH ?_; try simp only [nrm]
 refine son 2 hH ?_; try simp only [nrm]
 refine son 3 hH ?_; try simp only [nrm]
 refine son 5 hH ?_; try simp only [nrm]
 refine son 7 hH ?_; try simp only [nrm]
 refine zz178 4 rfl (by kernel_rfl) (fun KK hK => ?_)
 go_simp
 refine (vCoefC_any v z HS3.out.2.2.1 HF.out HV.out (by omega) (by omega)).mono ?_
 rintro e w4 ⟨ho, hn2, hc, rfl, hH4, hB⟩
 have HS4 : Hid ((At1 w4 g (.int .i64 v) 3 ∧ At1 w4 y (.int .i64 z) 3) ∧ AtN w4 (g + 1) [.int .i64 0, .slice none 0 0, .slice none 0 0] 78 ∧ Pc K w4 ao n cap p ∧ Below g w w4 ∧ g ≤ w4.heap.size) := ⟨⟨HS3.out.1.1.below hB, HS3.out.1.2.below hB⟩, HS3.out.2.1.below hB, HS3.out.2.2.1.below hB, HS3.out.2.2.2.1.trans (hB.mono HS3.out.2.2.2.2), Nat.le_trans HS3.out.2.2.2.2 hB.size⟩
 have HH4 := hid hH4.pc; clear hB hH4 HS3; go_wp2_with fail
 clear hH; refine hK.out _ _ ⟨HS4.out.1.1.cell, HS4.out.1.2.cell⟩ fun hH => ?_; clear hK KK
 try simp only [nrm]
 refine zz178 6 rfl (by kernel_rfl) (fun KK hK => ?_)
 go_simp
 refine (clonePoly_any HS4.out.2.2.1 (by omega)).mono ?_
 rintro e w5 ⟨ta, tn, tc, rfl, hT5, hB⟩
 have HS5 : Hid ((At1 w5 g (.int .i64 v) 3 ∧ At1 w5 y (.int .i64 z) 3) ∧ AtN w5 (g + 1) [.int .i64 0, .slice none 0 0, .slice none 0 0] 78 ∧ Pc K w5 ao n cap p ∧ Below g w w5 ∧ g ≤ w5.heap.size) := ⟨⟨HS4.out.1.1.below hB, HS4.out.1.2.below hB⟩, HS4.out.2.1.below hB, HS4.out.2.2.1.below hB, HS4.out.2.2.2.1.trans (hB.mono HS4.out.2.2.2.2), Nat.le_trans HS4.out.2.2.2.2 hB.size⟩
 have HH5 := hid (HH4.out.below hB); have HT5 := hid hT5; have HB5 := hid hB
 have hl5 : tn ≤ 1000000 := by have := hT5.len; have := HS4.out.2.2.1.len; omega
 clear hB hT5; go_wp2_with fail
 clear hH; refine hK.out _ _ ⟨HS5.out.1.1.cell, HS5.out.1.2.cell⟩ fun hH => ?_; clear hK KK
 try simp only [nrm]
 have hlt := HT5.out.lt
 have HDS : Hid (∀ V, w5.grownBy V (blk ta) → At1 V g (.int .i64 v) 3 ∧ At1 V y (.int .i64 z) 3) := fun V hG => ⟨HS5.out.1.1.keep (hG.block _ HS5.out.1.1.lt fun e => by have h1 := (hlt _ e.symm).1; have h2 := HS4.out.1.1.lt; omega), HS5.out.1.2.keep (hG.block _ HS5.out.1.2.lt fun e => by have h1 := (hlt _ e.symm).1; have h2 := HS4.out.1.2.lt; omega)⟩
 clear hlt
 refine zz178 8 rfl (by kernel_rfl) (fun KK hK => ?_)
 go_simp
 refine (deleteS_any (S := fun V => At1 V g (.int .i64 v) 3 ∧ At1 V y (.int .i64 z) 3) (f := fun t => exE t.2 v == z) (lb := #[.pointer (some ⟨g, 0, none⟩), .pointer (some ⟨y, 0, none⟩)]) EG.out (fun m ao n cap bo l cb t W hs h1 h2 h3 => partsFn_any hs.1 hs.2 h3 rfl rfl) HT5.out hl5 HDS.out).mono ?_
 rintro e w6 ⟨tm, rfl, hT6, hG⟩
 have hB : Below w4.heap.size w4 w6 := HB5.out.grown hG HB5.out.size (fun r e => (HT5.out.lt r e).1)
 have HS6 : Hid ((At1 w6 g (.int .i64 v) 3 ∧ At1 w6 y (.int .i64 z) 3) ∧ AtN w6 (g + 1) [.int .i64 0, .slice none 0 0, .slice none 0 0] 78 ∧ Pc K w6 ao n cap p ∧ Below g w w6 ∧ g ≤ w6.heap.size) := ⟨⟨HS4.out.1.1.below hB, HS4.out.1.2.below hB⟩, HS4.out.2.1.below hB, HS4.out.2.2.1.below hB, HS4.out.2.2.2.1.trans (hB.mono HS4.out.2.2.2.2), Nat.le_trans HS4.out.2.2.2.2 hB.size⟩
 have HH6 := hid (HH4.out.below hB); have HT6 := hid hT6.pc; clear hB hT6 hG HT5 HB5 HH5 HDS HS5; go_wp2_with fail
 clear hH; refine hK.out _ _ ⟨HS6.out.1.1.cell, HS6.out.1.2.cell⟩ fun hH => ?_; clear hK KK
 try simp only [nrm]
 refine son 9 hH ?_; try simp only [nrm]
 refine zz178 10 rfl (by kernel_rfl) (fun KK hK => ?_)
 obtain ⟨d0, d1, d2⟩ := HS6.out.2.1.c3; obtain ⟨f0, f1, f2⟩ := HS6.out.2.1.f3; go_simp; clear d0 d1 d2 f0 f1 f2
 clear hH; refine hK.out _ _ ⟨(HS6.out.1.1.keep (zz155 (by omega) _ _ _)).cell, (HS6.out.1.2.keep (zz155 (by have := HYG.out; omega) _ _ _)).cell⟩ fun hH => ?_; clear hK KK
 try simp only [nrm]
 refine wpAnyH_done (by kernel_rfl) ?_ _
 go_wp2_with fail; clear hH
 refine zz149 (Q := bodyPost _ _ _ _ _) (fun W3 hW => ?_)
 have hG : w6.grownBy W3 (some (g + 1)) := by rw [hW]; exact zz79 _ _ _ _ _ _
 have A : AtN W3 (g + 1) [.int .i64 z, .slice ho hn2 hc, .slice ta tm tc] 78 := by rw [hW]; exact ((HS6.out.2.1.set 0 _).set 1 _).set 2 _
 have hFB : FarB w6 W3 (g + 1) := FarB.mk' (Nat.le_succ_of_le HGL.out) HS6.out.2.1 (by decide) ⟨.int .i64 0, by simp, rfl⟩ (fun u hu => by simp at hu; rcases hu with rfl | rfl | rfl <;> rfl) hG
 have h1 := HH6.out.farB hFB; have h2 := HT6.out.farB hFB; rw [← HZ.out] at h1 h2; rw [outF_tl (zz58 HF.out)] at h2
 have hBW : Below w.heap.size w W3 := by have h := HS6.out.2.2.2.1.trans (zz15 hG (Nat.le_succ g) HS6.out.2.2.2.2); rwa [HGS.out] at h
 have HR : Hid (PartsW K w p v (.returned (.agg #[.int .i64 z, .slice ho hn2 hc, .slice ta tm tc])) W3) := ⟨_, _, _, _, _, _, by rw [HZ.out], h1, h2, hBW⟩
 clear hW h1 h2 hBW hFB hG; obtain ⟨d0, d1, d2⟩ := A.c3
 refine bodyPost_ret (v := .agg #[.int .i64 z, .slice ho hn2 hc, .slice ta tm tc]) (by simp [results, Tryz.results74, go_sem, d0, d1, d2]) rfl HR.out
end
open Lib (hid)
open Go.RowKit
theorem one_fit {q : List Term} (hq : mays q) : fitT [((1 : Int), [])] q := fun t ht s hs => by
 rw [List.mem_singleton.1 ht, zz108 rfl (hq s hs)]
 intro v
 have := (may_bd (hq s hs) v).2
 show expo [] v + _ ≤ _
 rw [show expo [] v = 0 from rfl]
 omega
theorem one_times {q : List Term} (hq : fall q) : timesT [((1 : Int), [])] q = q := by
 have h1 : fall [((1 : Int), ([] : List (Int × Int)))] := ⟨by omega, rfl, (fun _ h => by cases h), trivial⟩
 refine zz55 (zz190 (zz58 h1) (zz58 hq) (one_fit (zz58 hq))).1 hq fun ρ => ?_
 rw [(zz190 (zz58 h1) (zz58 hq) (one_fit (zz58 hq))).2]
 simp [ev, evM_nil]
def dcl (v dg : Int) (ho : Option Addr) (hn hc : Nat) (ta : Option Addr) (tn tc : Nat) (hq : Bool) (qo : Option Addr) (qn qc : Nat) (ro : Option Addr) (rn rc : Nat) (s : Int) : List Value :=
 [.int .i64 v, .int .i64 dg, .slice ho hn hc, .slice ta tn tc, .bool hq, .slice qo qn qc, .slice ro rn rc, .int .i64 s]
section
variable {K KR : Nat} {ao bo : Option Addr} {n cap m cb : Nat} {p q : List Term} {w : World}
theorem ptm_any [Ol] (b : Nat) (hp : Pc K w ao n cap p) (hq : Pc K w bo m cb q) (hfp : fall p) (hfq : fall q) (hn : n ≤ 300000) (hm : m ≤ 300000) (hnm : n * m ≤ 1000000) (hK : K ≤ 900) (hf : fitT p q) (hb : ∀ t ∈ timesT p q, Bd t.1 KR) :
  Calls Tryz.prog 129 #[.pointer (some ⟨b, 0, none⟩), .slice ao n cap, .slice bo m cb] w (NewPc KR w (timesT p q)) := by
 have HP := hid hp; have HQ := hid hq; have HF := hid (And.intro hfp (And.intro hfq (And.intro hf hb)))
 have h1 : ofT [((1 : Int), ([] : List (Int × Int)))] = [(1, [])] := zz127 ⟨by omega, rfl, (fun _ h => by cases h), trivial⟩
 have H1 := hid h1; obtain ⟨r, hr⟩ : ∃ r, decide (p.map rawC = [((1 : Int), ([] : List (Int × Int)))].map rawC) = r := ⟨_, rfl⟩; have HR := hid hr; clear hp hq hfp hfq hf hb h1 hr
 go_enter Tryz.func129, Tryz.ntmps129
 go_wp2_with fail
 refine (wof_any 1 _ ⟨by omega, by omega⟩).mono ?_
 rintro e w1 ⟨xm, xa, xn, xc, rfl, hX, hB⟩; have HX := hid hX; have HP1 := hid (HP.out.below hB); have HQ1 := hid (HQ.out.below hB); have HB1 := hid hB
 have hxn : xn ≤ 1 := HX.out.le (by unfold Bd; decide)
 clear hX hB HP HQ; go_wp2_with fail
 refine (pnumber_any HX.out.inn hxn (by omega)).mono ?_
 rintro e w2 ⟨oa, on, oc, rfl, hO, hB⟩; rw [H1.out] at hO; have HO := hid hO; have HP2 := hid (HP1.out.below hB); have HQ2 := hid (HQ1.out.below hB); have HB2 := hid (Below.steps HB1.out hB); clear hO hB HP1 HQ1 HB1 HX; go_wp2_with fail; refine (zz154 r HP2.out.raw HO.out.raw HR.out).mono ?_; rintro e w3 ⟨rfl, hB⟩; have HP3 := hid (HP2.out.below hB); have HQ3 := hid (HQ2.out.below hB); have HB3 := hid (Below.steps HB2.out hB); clear hB HP2 HQ2 HB2 HO
 cases r with
 | true =>
  have HE : Hid (timesT p q = q) := by
   have h2 : p.map rawC = [((1 : Int), ([] : List (Int × Int)))].map rawC := of_decide_eq_true HR.out
   have h3 : p = [((1 : Int), [])] := by
    have h4 := congrArg (List.map rawV) h2
    rwa [List.map_map, List.map_map, show rawV ∘ rawC = id from funext zz160, List.map_id, List.map_id] at h4
   rw [h3]
   exact one_times HF.out.2.1
  go_wp2_with fail
  go_ret
  refine ⟨_, _, _, rfl, ?_, HB3.out⟩
  have h5 := HF.out.2.2.2; rw [HE.out] at h5 ⊢
  exact HQ3.out.lower h5
 | false =>
  go_wp2_with fail
  refine (ptimes_any HP3.out HQ3.out HF.out.1 HF.out.2.1 hn hm hnm (by omega) (fitB_iff.2 HF.out.2.2.1)).mono ?_
  rintro e w4 ⟨ro, rn, rc, rfl, h1, h2⟩
  have HN : Hid (NewPc KR w (timesT p q) (.returned (.slice ro rn rc)) w4) := ⟨_, _, _, rfl, h1.lower HF.out.2.2.2, Below.steps HB3.out h2⟩
  clear h1 h2; go_wp2_with fail
  go_ret
  exact HN.out
theorem moved_any [Ol] {D : Nat} {v dg a k s : Int} {ho' : Option Addr} {hn' hc' : Nat} {bt : Option Addr} {btn btc : Nat} {hq : Bool} {qo : Option Addr} {qn qc : Nat} {ro' : Option Addr} {rn' rc' : Nat} {ta : Option Addr} {tn tc : Nat}
  (hD : AtN w D (dcl v dg ho' hn' hc' bt btn btc hq qo qn qc ro' rn' rc' s) 80) (hp : Pc K w ao n cap p) (hfp : fall p) (hn : n ≤ 300000) (hK : K ≤ 900) (hv : 1 ≤ v ∧ v ≤ 200) (hk : 0 ≤ k ∧ k ≤ 10000) (ha : a - dg = k) (hf : fitT p (ofT [(1, powM v k)])) (hb : ∀ t ∈ timesT p (ofT [(1, powM v k)]), Bd t.1 KR) :
  Calls Tryz.prog 128 #[.pointer (some ⟨D, 0, none⟩), .agg #[.int .i64 a, .slice ao n cap, .slice ta tn tc]] w (NewPc KR w (timesT p (ofT [(1, powM v k)]))) := by
 have hw : IntKind.i64.wrap (a - dg) = k := by rw [ha]; exact IntWalk.i64_in _ ⟨by omega, by omega⟩
 have HP := hid hp; have HD := hid hD; have HF := hid (And.intro hfp (And.intro (pow_may hv hk) (And.intro hf hb))); have HV := hid (And.intro hv hk); clear hp hD hfp hf hb ha hv hk
 go_enter Tryz.func128, Tryz.ntmps128
 go_upto_region 2 with (fail)
 refine zz233 (fun W hW => ?_)
 obtain ⟨g, hg⟩ : ∃ g, g = w.heap.size := ⟨_, rfl⟩; obtain ⟨a1, hB⟩ := box1 w [.int .i64 a, .slice ao n cap, .slice ta tn tc] 78; rw [← hW, ← hg] at a1; rw [← hW] at hB; rw [← hg]
 have HS : Hid (AtN W g [.int .i64 a, .slice ao n cap, .slice ta tn tc] 78 ∧ AtN W D (dcl v dg ho' hn' hc' bt btn btc hq qo qn qc ro' rn' rc' s) 80 ∧ Pc K W ao n cap p ∧ Below w.heap.size w W) := ⟨a1, HD.out.below hB, HP.out.below hB, hB⟩
 clear hW a1 hB HP HD hg; have c0 := HS.out.1.c3.1
 have c1 : W.cell? ⟨D, 1, none⟩ = some (.int .i64 dg) := HS.out.2.1.cell 1
 have c2 : W.cell? ⟨D, 0, none⟩ = some (.int .i64 v) := HS.out.2.1.cell 0
 go_quiet (fail)
 go_upto_region 3 with (fail)
 refine zz233 (fun V hV => ?_)
 have HS' : Hid (AtN V g [.int .i64 a, .slice ao n cap, .slice ta tn tc] 78 ∧ AtN V D (dcl v dg ho' hn' hc' bt btn btc hq qo qn qc ro' rn' rc' s) 80 ∧ Pc K V ao n cap p ∧ Below w.heap.size w V) := by
  have hB : Below W.heap.size W V := by rw [hV]; exact _root_.Go.below_drewN (Below.refl _ _) _
  exact ⟨HS.out.1.below hB, HS.out.2.1.below hB, HS.out.2.2.1.below hB, Below.steps HS.out.2.2.2 hB⟩
 clear hV HS c0 c1 c2
 by_cases h0 : k = 0
 ·subst h0
  have HS : Hid (AtN V g [.int .i64 a, .slice ao n cap, .slice ta tn tc] 78 ∧ Pc K V ao n cap p ∧ Ml V none 0 0 (powM v 0) ∧ Below w.heap.size w V) := ⟨HS'.out.1, HS'.out.2.2.1, Ml.zero V, HS'.out.2.2.2⟩
  clear HS'
  have hd : decide ((0 : Int) < 0) = false := rfl
  go_upto_region 5 with (fail)
  refine wp_region_held_drew (S := fun w' => w'.cell? ⟨g, 1, none⟩ = some (.slice ao n cap)) (by kernel_rfl) (by have := (HS.out.1.below (Below.refl _ _).drew).c3; exact this.2.1) (fun hH => ?_)
  refine zz10 (fun w1 hW => ?_)
  have hB : Below V.heap.size V w1 := by rw [hW]; exact (Below.refl _ _).drew
  have HS1 : Hid (AtN w1 g [.int .i64 a, .slice ao n cap, .slice ta tn tc] 78 ∧ Pc K w1 ao n cap p ∧ Ml w1 none 0 0 (powM v 0) ∧ Below w.heap.size w w1) := ⟨HS.out.1.below hB, HS.out.2.1.below hB, HS.out.2.2.1.below hB, Below.steps HS.out.2.2.2 hB⟩
  rw [← hW] at hH; clear hB HS
  clear hW
  refine son 0 hH ?_; try simp only [nrm]
  refine son 1 hH ?_; try simp only [nrm]
  refine son 3 hH ?_; try simp only [nrm]
  refine zz178 2 rfl (by kernel_rfl) (fun KK hK => ?_)
  go_simp
  refine (wof_any 1 _ ⟨by omega, by omega⟩).mono ?_
  rintro e w2 ⟨xm, xa, xn, xc, rfl, hX, hB⟩; have HX := hid hX
  have hxn : xn ≤ 1 := HX.out.le (by unfold Bd; decide)
  have HS2 : Hid (AtN w2 g [.int .i64 a, .slice ao n cap, .slice ta tn tc] 78 ∧ Pc K w2 ao n cap p ∧ Ml w2 none 0 0 (powM v 0) ∧ Below w.heap.size w w2) := ⟨HS1.out.1.below hB, HS1.out.2.1.below hB, HS1.out.2.2.1.below hB, Below.steps HS1.out.2.2.2 hB⟩
  clear hX hB HS1; go_wp2_with fail
  clear hH; refine hK.out _ _ (by have := HS2.out.1.c3; exact this.2.1) fun hH => ?_; clear hK KK
  try simp only [nrm]
  refine zz178 4 rfl (by kernel_rfl) (fun KK hK => ?_)
  go_simp
  refine (pshift_any (HS2.out.2.1.mono (show K ≤ max K 1 from Nat.le_max_left _ _)) HF.out.1 hn HX.out.inn (Nat.le_trans hxn (Nat.le_max_right K 1)) (by omega) HS2.out.2.2.1 HF.out.2.1).mono ?_
  rintro e w3 ⟨ro, rn, rc, rfl, h1, h2⟩; rw [zz208 HF.out.2.2.1, err_yes HF.out.2.2.1] at *
  have HN : Hid (NewPc KR w (timesT p (ofT [(1, powM v 0)])) (.returned (.slice ro rn rc)) w3) := ⟨_, _, _, rfl, h1.lower HF.out.2.2.2, Below.steps HS2.out.2.2.2 h2⟩
  have HSc : Hid (w3.cell? ⟨g, 1, none⟩ = some (.slice ao n cap)) := (HS2.out.1.below h2).c3.2.1
  clear h1 h2; go_wp2_with fail
  clear hH; refine hK.out _ _ HSc.out fun hH => ?_; clear hK KK
  try simp only [nrm]
  refine son 5 hH ?_; try simp only [nrm]
  refine son 6 hH ?_; try simp only [nrm]
  refine son 7 hH ?_; try simp only [nrm]
  refine son 8 hH ?_; try simp only [nrm]
  refine son 9 hH ?_; try simp only [nrm]
  refine wpAnyH_done (by kernel_rfl) ?_ _
  go_wp2_with fail
  go_ret
  exact HN.out
 ·have hd : decide (0 < k) = true := decide_eq_true (by have := HV.out.2.1; omega)
  have c2 : V.cell? ⟨D, 0, none⟩ = some (.int .i64 v) := HS'.out.2.1.cell 0
  go_upto_region 5 with (fail)
  refine zz233 (fun V2 hW => ?_)
  obtain ⟨y, hy⟩ : ∃ y, y = V.heap.size := ⟨_, rfl⟩
  have HSx : Hid (AtN V2 g [.int .i64 a, .slice ao n cap, .slice ta tn tc] 78 ∧ Pc K V2 ao n cap p ∧ Ml V2 (some ⟨y, 0, none⟩) 1 1 (powM v k) ∧ Below w.heap.size w V2) := by
   have hB := zz13 V (.cells #[.int .i64 v, .int .i64 k] 70); rw [← hW] at hB
   have hM := Ml.lit V v k 70 (by have := HV.out; unfold in64; omega) (by have := HV.out; unfold in64; omega)
   rw [← hW, ← hy] at hM
   exact ⟨HS'.out.1.below hB, HS'.out.2.2.1.below hB, by unfold powM; rw [if_neg h0]; exact hM, Below.steps HS'.out.2.2.2 hB⟩
  rw [← hy]; clear hW hy HS' c2 hd
  have HS := hid HSx.out; clear HSx
  refine wp_region_held_drew (S := fun w' => w'.cell? ⟨g, 1, none⟩ = some (.slice ao n cap)) (by kernel_rfl) (by have := (HS.out.1.below (Below.refl _ _).drew).c3; exact this.2.1) (fun hH => ?_)
  refine zz10 (fun w1 hW => ?_)
  have hB : Below V2.heap.size V2 w1 := by rw [hW]; exact (Below.refl _ _).drew
  have HS1 : Hid (AtN w1 g [.int .i64 a, .slice ao n cap, .slice ta tn tc] 78 ∧ Pc K w1 ao n cap p ∧ Ml w1 (some ⟨y, 0, none⟩) 1 1 (powM v k) ∧ Below w.heap.size w w1) := ⟨HS.out.1.below hB, HS.out.2.1.below hB, HS.out.2.2.1.below hB, Below.steps HS.out.2.2.2 hB⟩
  rw [← hW] at hH; clear hB HS
  clear hW
  refine son 0 hH ?_; try simp only [nrm]
  refine son 1 hH ?_; try simp only [nrm]
  refine son 3 hH ?_; try simp only [nrm]
  refine zz178 2 rfl (by kernel_rfl) (fun KK hK => ?_)
  go_simp
  refine (wof_any 1 _ ⟨by omega, by omega⟩).mono ?_
  rintro e w2 ⟨xm, xa, xn, xc, rfl, hX, hB⟩; have HX := hid hX
  have hxn : xn ≤ 1 := HX.out.le (by unfold Bd; decide)
  have HS2 : Hid (AtN w2 g [.int .i64 a, .slice ao n cap, .slice ta tn tc] 78 ∧ Pc K w2 ao n cap p ∧ Ml w2 (some ⟨y, 0, none⟩) 1 1 (powM v k) ∧ Below w.heap.size w w2) := ⟨HS1.out.1.below hB, HS1.out.2.1.below hB, HS1.out.2.2.1.below hB, Below.steps HS1.out.2.2.2 hB⟩
  clear hX hB HS1; go_wp2_with fail
  clear hH; refine hK.out _ _ (by have := HS2.out.1.c3; exact this.2.1) fun hH => ?_; clear hK KK
  try simp only [nrm]
  refine zz178 4 rfl (by kernel_rfl) (fun KK hK => ?_)
  go_simp
  refine (pshift_any (HS2.out.2.1.mono (show K ≤ max K 1 from Nat.le_max_left _ _)) HF.out.1 hn HX.out.inn (Nat.le_trans hxn (Nat.le_max_right K 1)) (by omega) HS2.out.2.2.1 HF.out.2.1).mono ?_
  rintro e w3 ⟨ro, rn, rc, rfl, h1, h2⟩; rw [zz208 HF.out.2.2.1, err_yes HF.out.2.2.1] at *
  have HN : Hid (NewPc KR w (timesT p (ofT [(1, powM v k)])) (.returned (.slice ro rn rc)) w3) := ⟨_, _, _, rfl, h1.lower HF.out.2.2.2, Below.steps HS2.out.2.2.2 h2⟩
  have HSc : Hid (w3.cell? ⟨g, 1, none⟩ = some (.slice ao n cap)) := (HS2.out.1.below h2).c3.2.1
  clear h1 h2; go_wp2_with fail
  clear hH; refine hK.out _ _ HSc.out fun hH => ?_; clear hK KK
  try simp only [nrm]
  refine son 5 hH ?_; try simp only [nrm]
  refine son 6 hH ?_; try simp only [nrm]
  refine son 7 hH ?_; try simp only [nrm]
  refine son 8 hH ?_; try simp only [nrm]
  refine son 9 hH ?_; try simp only [nrm]
  refine wpAnyH_done (by kernel_rfl) ?_ _
  go_wp2_with fail
  go_ret
  exact HN.out
end
open Lib (hid)
open Go.RowKit
structure SzOk (g q r : List Term) (K : Nat) : Prop where
 lg : g.length ≤ 100
 lr : g.length * r.length ≤ 500000
 lq : g.length * q.length + r.length ≤ 400000
 ll : r.length ≤ 100000
 qq : q.length ≤ 100000
 sr : sumC g * sumC r < 4294967296 ^ K
 sq : sumC g * sumC q + sumC r < 4294967296 ^ K
theorem bd_sum {p : List Term} {K : Nat} (h : sumC p < 4294967296 ^ K) : ∀ t ∈ p, Bd t.1 K := fun _ ht => Nat.lt_of_le_of_lt (zz182 ht) h
theorem dcl_noU {v dg : Int} {ho : Option Addr} {hn hc : Nat} {ta : Option Addr} {tn tc : Nat} {hq : Bool} {qo : Option Addr} {qn qc : Nat} {ro : Option Addr} {rn rc : Nat} {s : Int} : ∀ u ∈ dcl v dg ho hn hc ta tn tc hq qo qn qc ro rn rc s, isU u = false := by
 intro u hu
 simp [dcl] at hu
 rcases hu with rfl | rfl | rfl | rfl | rfl | rfl | rfl | rfl <;> rfl
theorem dcl_far [Ol] {v dg : Int} {ho : Option Addr} {hn hc : Nat} {ta : Option Addr} {tn tc : Nat} {hq : Bool} {qo : Option Addr} {qn qc : Nat} {ro : Option Addr} {rn rc : Nat} {s : Int} {w w' : World} {D : Nat} (hlo : Ol.lo ≤ D) (hA : AtN w D (dcl v dg ho hn hc ta tn tc hq qo qn qc ro rn rc s) 80) (hG : w.grownBy w' (some D)) : FarB w w' D :=
 FarB.mk' hlo hA (by decide) ⟨.int .i64 v, by simp [dcl], rfl⟩ dcl_noU hG
theorem len_split {α : Type} (f : α → Bool) : ∀ p : List α, (p.filter f).length + (p.filter fun t => !f t).length = p.length
 | [] => rfl
 | t :: r => by
  have ih := len_split f r
  by_cases h : f t = true
  ·simp [h]; omega
  ·simp [h]; omega
theorem hd_len (p : List Term) (v : Int) : (hdP p v).length + (tlP p v).length = p.length := by
 unfold hdP tlP coefP
 rw [List.length_map]
 exact len_split _ p
theorem StepOk.mv_len {g r : List Term} {v E F : Int} (h : StepOk g r v E F) : (mvP g r v).length ≤ (hdP r v).length := by
 rw [h.mv]
 simpa using zz189 (hdP r v) [((1 : Int), powM v (degP r v - degP g v))]
theorem SzOk.b {g q r : List Term} {K : Nat} (h : SzOk g q r K) {p : List Term} (hp : sumC p ≤ sumC g * sumC r) : ∀ t ∈ p, Bd t.1 K := bd_sum (Nat.lt_of_le_of_lt hp h.sr)
theorem SzOk.c {g q r : List Term} {K : Nat} (h : SzOk g q r K) {p : List Term} (hp : sumC p ≤ sumC g * sumC q + sumC r) : ∀ t ∈ p, Bd t.1 K := bd_sum (Nat.lt_of_le_of_lt hp h.sq)
def StepW [Ol] (w : World) (D : Nat) (v : Int) (g q r : List Term) (ho : Option Addr) (hn hc : Nat) (ta : Option Addr) (tn tc : Nat) (hq : Bool) (s K : Nat) (e : Ending) (w' : World) : Prop :=
 ∃ qo qn qc ro rn rc, e = .returned (.int .i64 0) ∧ AtN w' D (dcl v (degP g v) ho hn hc ta tn tc hq qo qn qc ro rn rc ((s + 1 : Nat) : Int)) 80 ∧ Pc K w' ro rn rc (stR g v r) ∧ Pc K w' qo qn qc (if hq = true then stQ g v q r else q) ∧ w.grownBy w' (some D)
theorem step_any [Ol] {K : Nat} {D : Nat} {v E0 F0 : Int} {g q r : List Term} {ho : Option Addr} {hn hc : Nat} {ta : Option Addr} {tn tc : Nat} {hq : Bool} {qo : Option Addr} {qn qc : Nat} {ro : Option Addr} {rn rc : Nat} {xo : Option Addr} {xn xc : Nat} {yo : Option Addr} {yn yc : Nat} {s : Nat} {w : World}
  (hD : AtN w D (dcl v (degP g v) ho hn hc ta tn tc hq qo qn qc ro rn rc (s : Int)) 80) (hH : Pc K w ho hn hc (hdP g v)) (hT : Pc K w ta tn tc (tlP g v)) (hQ : Pc K w qo qn qc q) (hRH : Pc K w xo xn xc (hdP r v)) (hRT : Pc K w yo yn yc (tlP r v))
  (hs : StepOk g r v E0 F0) (hqf : fall q) (hqE : EB q F0) (hz : SzOk g q r K) (hK9 : K ≤ 900) (hlo : Ol.lo ≤ D) (hsb : s ≤ 1000000) :
  Calls Tryz.prog 77 #[.pointer (some ⟨D, 0, none⟩), .agg #[.int .i64 (degP r v), .slice xo xn xc, .slice yo yn yc]] w (StepW w D v g q r ho hn hc ta tn tc hq s K) := by
 have HO := hid hs; have HZ := hid hz; have HQF := hid (And.intro hqf hqE); have HLO := hid hlo; have HDL := hid hD.lt; have hl1 := hd_len g v; have hl2 := hd_len r v
 have HL : Hid (hn + tn = g.length ∧ xn + yn = r.length ∧ qn = q.length) := by have := hH.len; have := hT.len; have := hRH.len; have := hRT.len; have := hQ.len; exact ⟨by omega, by omega, by omega⟩
 have HM : Hid (hn * yn ≤ 500000 ∧ (mvP g r v).length * tn ≤ 500000 ∧ hn * yn + (mvP g r v).length * tn ≤ 500000 ∧ hn * qn ≤ 400000 ∧ hn * qn + (mvP g r v).length ≤ 400000 ∧ (mvP g r v).length ≤ 100000) := by
  have h3 := hs.mv_len; have h4 := hz.lr; have h5 := hz.lq; have h6 := hz.ll; have h7 := hRH.len
  have h8 : g.length * r.length = hn * xn + hn * yn + (tn * xn + tn * yn) := by rw [← HL.out.1, ← HL.out.2.1, Nat.add_mul, Nat.mul_add, Nat.mul_add]
  have h9 : (mvP g r v).length * tn ≤ tn * xn := by rw [Nat.mul_comm]; exact Nat.mul_le_mul_left _ (by omega)
  have h10 : hn * qn ≤ g.length * q.length := by rw [HL.out.2.2]; exact Nat.mul_le_mul_right _ (by have := HL.out.1; omega)
  exact ⟨by omega, by omega, by omega, by omega, by omega, by omega⟩
 have HPs : Hid (Pc K w ho hn hc (hdP g v) ∧ Pc K w ta tn tc (tlP g v) ∧ Pc K w qo qn qc q ∧ Pc K w xo xn xc (hdP r v) ∧ Pc K w yo yn yc (tlP r v) ∧ AtN w D (dcl v (degP g v) ho hn hc ta tn tc hq qo qn qc ro rn rc (s : Int)) 80) := ⟨hH, hT, hQ, hRH, hRT, hD⟩
 have hb1 : hn ≤ 100 ∧ tn ≤ 100 ∧ xn ≤ 100000 ∧ yn ≤ 100000 ∧ qn ≤ 100000 := by have := HL.out; have := hz.lg; have := hz.ll; have := hz.qq; omega
 clear hs hz hqf hqE hlo hH hT hQ hRH hRT hD hl1 hl2
 go_enter Tryz.func77, Tryz.ntmps77
 go_upto_region 1 with (fail)
 refine zz233 (fun W hW => ?_)
 obtain ⟨X, hX⟩ : ∃ X, X = w.heap.size := ⟨_, rfl⟩
 have HS1 : Hid ((AtN W X [.int .i64 (degP r v), .slice xo xn xc, .slice yo yn yc] 78) ∧ (AtN W D (dcl v (degP g v) ho hn hc ta tn tc hq qo qn qc ro rn rc (s : Int)) 80) ∧ (Pc K W ho hn hc (hdP g v)) ∧ (Pc K W ta tn tc (tlP g v)) ∧ (Pc K W qo qn qc q) ∧ (Pc K W xo xn xc (hdP r v)) ∧ (Pc K W yo yn yc (tlP r v)) ∧ Below w.heap.size w W) := by
  obtain ⟨a1, hB⟩ := box1 w [.int .i64 (degP r v), .slice xo xn xc, .slice yo yn yc] 78; rw [← hW] at a1 hB; rw [hX]
  exact ⟨a1, HPs.out.2.2.2.2.2.below hB, HPs.out.1.below hB, HPs.out.2.1.below hB, HPs.out.2.2.1.below hB, HPs.out.2.2.2.1.below hB, HPs.out.2.2.2.2.1.below hB, hB⟩
 rw [← hX]
 have HX : Hid (w.heap.size ≤ X) := by rw [hX]; exact Nat.le_refl _
 clear hW hX HPs
 refine wp_region_held_drew (S := fun w' => w'.cell? ⟨D, 2, none⟩ = some (.slice ho hn hc) ∧ w'.cell? ⟨X, 1, none⟩ = some (.slice xo xn xc)) (by kernel_rfl) ⟨(HS1.out.2.1.below (Below.refl _ _).drew).cell 2, (HS1.out.1.below (Below.refl _ _).drew).cell 1⟩ (fun hH => ?_)
 refine zz10 (fun w1 hW => ?_)
 have hB : Below W.heap.size W w1 := by rw [hW]; exact (Below.refl _ _).drew
 have HS2 : Hid ((AtN w1 X [.int .i64 (degP r v), .slice xo xn xc, .slice yo yn yc] 78) ∧ (AtN w1 D (dcl v (degP g v) ho hn hc ta tn tc hq qo qn qc ro rn rc (s : Int)) 80) ∧ (Pc K w1 ho hn hc (hdP g v)) ∧ (Pc K w1 ta tn tc (tlP g v)) ∧ (Pc K w1 qo qn qc q) ∧ (Pc K w1 xo xn xc (hdP r v)) ∧ (Pc K w1 yo yn yc (tlP r v)) ∧ Below w.heap.size w w1) := ⟨HS1.out.1.below hB, HS1.out.2.1.below hB, HS1.out.2.2.1.below hB, HS1.out.2.2.2.1.below hB, HS1.out.2.2.2.2.1.below hB, HS1.out.2.2.2.2.2.1.below hB, HS1.out.2.2.2.2.2.2.1.below hB, Below.steps HS1.out.2.2.2.2.2.2.2 hB⟩
 rw [← hW] at hH; clear hB HS1
 clear hW
 refine son 0 hH ?_; try simp only [nrm]
 refine son 1 hH ?_; try simp only [nrm]
 refine son 2 hH ?_; try simp only [nrm]
 refine son 3 hH ?_; try simp only [nrm]
 refine son 4 hH ?_; try simp only [nrm]
 refine son 6 hH ?_; try simp only [nrm]
 refine son 7 hH ?_; try simp only [nrm]
 refine zz178 5 rfl (by kernel_rfl) (fun KK hK => ?_)
 go_simp
 refine (pdegrees_any HS2.out.2.2.1 (hd_fall HO.out.fg v) (by omega)).mono ?_
 rintro e w2 ⟨m1o, m1n, m1c, m1, rfl, hM1, hD1, hB⟩
 have HS3 : Hid ((AtN w2 X [.int .i64 (degP r v), .slice xo xn xc, .slice yo yn yc] 78) ∧ (AtN w2 D (dcl v (degP g v) ho hn hc ta tn tc hq qo qn qc ro rn rc (s : Int)) 80) ∧ (Pc K w2 ho hn hc (hdP g v)) ∧ (Pc K w2 ta tn tc (tlP g v)) ∧ (Pc K w2 qo qn qc q) ∧ (Pc K w2 xo xn xc (hdP r v)) ∧ (Pc K w2 yo yn yc (tlP r v)) ∧ (Ml w2 m1o m1n m1c m1) ∧ Below w.heap.size w w2) := ⟨HS2.out.1.below hB, HS2.out.2.1.below hB, HS2.out.2.2.1.below hB, HS2.out.2.2.2.1.below hB, HS2.out.2.2.2.2.1.below hB, HS2.out.2.2.2.2.2.1.below hB, HS2.out.2.2.2.2.2.2.1.below hB, hM1, Below.steps HS2.out.2.2.2.2.2.2.2 hB⟩
 have HD1 := hid hD1; clear hM1 hD1; clear hB HS2; go_wp2_with fail
 clear hH; refine hK.out _ _ ⟨HS3.out.2.1.cell 2, HS3.out.1.cell 1⟩ fun hH => ?_; clear hK KK
 try simp only [nrm]
 refine zz178 8 rfl (by kernel_rfl) (fun KK hK => ?_)
 go_simp
 refine (pdegrees_any HS3.out.2.2.2.2.2.1 (hd_fall HO.out.fr v) (by omega)).mono ?_
 rintro e w3 ⟨m2o, m2n, m2c, m2, rfl, hM2, hD2, hB⟩
 have HS4 : Hid ((AtN w3 X [.int .i64 (degP r v), .slice xo xn xc, .slice yo yn yc] 78) ∧ (AtN w3 D (dcl v (degP g v) ho hn hc ta tn tc hq qo qn qc ro rn rc (s : Int)) 80) ∧ (Pc K w3 ho hn hc (hdP g v)) ∧ (Pc K w3 ta tn tc (tlP g v)) ∧ (Pc K w3 qo qn qc q) ∧ (Pc K w3 xo xn xc (hdP r v)) ∧ (Pc K w3 yo yn yc (tlP r v)) ∧ (Ml w3 m1o m1n m1c m1) ∧ (Ml w3 m2o m2n m2c m2) ∧ Below w.heap.size w w3) := ⟨HS3.out.1.below hB, HS3.out.2.1.below hB, HS3.out.2.2.1.below hB, HS3.out.2.2.2.1.below hB, HS3.out.2.2.2.2.1.below hB, HS3.out.2.2.2.2.2.1.below hB, HS3.out.2.2.2.2.2.2.1.below hB, HS3.out.2.2.2.2.2.2.2.1.below hB, hM2, Below.steps HS3.out.2.2.2.2.2.2.2.2 hB⟩
 have HJ : Hid ((joinR (fun x y => x + y) 8 m1 m2).2 = 0) := (zz39 (hd_fall HO.out.fg v) (hd_fall HO.out.fr v) HD1.out hD2).trans (if_pos (fitB_iff.2 HO.out.fit0))
 clear hM2 hD2 HD1; clear hB HS3; go_wp2_with fail
 clear hH; refine hK.out _ _ ⟨HS4.out.2.1.cell 2, HS4.out.1.cell 1⟩ fun hH => ?_; clear hK KK
 try simp only [nrm]
 refine zz178 9 rfl (by kernel_rfl) (fun KK hK => ?_)
 go_simp; refine (zz191 HS4.out.2.2.2.2.2.2.2.1 HS4.out.2.2.2.2.2.2.2.2.1).mono ?_
 rintro e w4 ⟨uo, un, uc, rfl, _, hB⟩
 have HS5 : Hid ((AtN w4 X [.int .i64 (degP r v), .slice xo xn xc, .slice yo yn yc] 78) ∧ (AtN w4 D (dcl v (degP g v) ho hn hc ta tn tc hq qo qn qc ro rn rc (s : Int)) 80) ∧ (Pc K w4 ho hn hc (hdP g v)) ∧ (Pc K w4 ta tn tc (tlP g v)) ∧ (Pc K w4 qo qn qc q) ∧ (Pc K w4 xo xn xc (hdP r v)) ∧ (Pc K w4 yo yn yc (tlP r v)) ∧ (Ml w4 m1o m1n m1c m1) ∧ (Ml w4 m2o m2n m2c m2) ∧ Below w.heap.size w w4) := ⟨HS4.out.1.below hB, HS4.out.2.1.below hB, HS4.out.2.2.1.below hB, HS4.out.2.2.2.1.below hB, HS4.out.2.2.2.2.1.below hB, HS4.out.2.2.2.2.2.1.below hB, HS4.out.2.2.2.2.2.2.1.below hB, HS4.out.2.2.2.2.2.2.2.1.below hB, HS4.out.2.2.2.2.2.2.2.2.1.below hB, Below.steps HS4.out.2.2.2.2.2.2.2.2.2 hB⟩
 rw [HJ.out]; clear hB HS4
 go_wp2_with fail
 clear hH; refine hK.out _ _ ⟨HS5.out.2.1.cell 2, HS5.out.1.cell 1⟩ fun hH => ?_; clear hK KK
 try simp only [nrm]
 refine son 10 hH ?_; try simp only [nrm]
 refine son 11 hH ?_; try simp only [nrm]
 refine son 12 hH ?_; try simp only [nrm]
 refine son 13 hH ?_; try simp only [nrm]
 refine son 14 hH ?_; try simp only [nrm]
 refine wpAnyH_done (by kernel_rfl) ?_ _
 clear hH
 go_upto_region 5 with (fail)
 refine zz233 (fun W5 hW => ?_)
 obtain ⟨E, hE⟩ : ∃ E, E = w4.heap.size := ⟨_, rfl⟩
 have HS6 : Hid ((AtN W5 X [.int .i64 (degP r v), .slice xo xn xc, .slice yo yn yc] 78) ∧ (AtN W5 D (dcl v (degP g v) ho hn hc ta tn tc hq qo qn qc ro rn rc (s : Int)) 80) ∧ (Pc K W5 ho hn hc (hdP g v)) ∧ (Pc K W5 ta tn tc (tlP g v)) ∧ (Pc K W5 qo qn qc q) ∧ (Pc K W5 xo xn xc (hdP r v)) ∧ (Pc K W5 yo yn yc (tlP r v)) ∧ (AtN W5 E [.int .i64 0] 191) ∧ Below w.heap.size w W5) := by
  have hB := zz13 w4 (.cells #[.int .i64 0] 191); rw [← hW] at hB
  exact ⟨HS5.out.1.below hB, HS5.out.2.1.below hB, HS5.out.2.2.1.below hB, HS5.out.2.2.2.1.below hB, HS5.out.2.2.2.2.1.below hB, HS5.out.2.2.2.2.2.1.below hB, HS5.out.2.2.2.2.2.2.1.below hB, by rw [hW, hE]; exact AtN.new w4 _ _, Below.steps HS5.out.2.2.2.2.2.2.2.2.2 hB⟩
 rw [← hE]; clear hW hE HS5
 obtain ⟨c0, c1, c2⟩ := HS6.out.1.c3; go_wp2_with fail
 refine (moved_any (KR := K) HS6.out.2.1 HS6.out.2.2.2.2.2.1 (hd_fall HO.out.fr v) (by omega) hK9 HO.out.hv HO.out.k rfl (by rw [zz127 (zz131 HO.out.hv HO.out.k)]; exact HO.out.mvfit) (HZ.out.c (p := mvP g r v) (by have := HO.out.mv_sum; have := zz183 r v; omega))).mono ?_
 rintro e w6 ⟨mo, mn, mc, rfl, hMv, hB⟩
 have HS7 : Hid ((AtN w6 X [.int .i64 (degP r v), .slice xo xn xc, .slice yo yn yc] 78) ∧ (AtN w6 D (dcl v (degP g v) ho hn hc ta tn tc hq qo qn qc ro rn rc (s : Int)) 80) ∧ (Pc K w6 ho hn hc (hdP g v)) ∧ (Pc K w6 ta tn tc (tlP g v)) ∧ (Pc K w6 qo qn qc q) ∧ (Pc K w6 xo xn xc (hdP r v)) ∧ (Pc K w6 yo yn yc (tlP r v)) ∧ (AtN w6 E [.int .i64 0] 191) ∧ (Pc K w6 mo mn mc (mvP g r v)) ∧ Below w.heap.size w w6) := ⟨HS6.out.1.below hB, HS6.out.2.1.below hB, HS6.out.2.2.1.below hB, HS6.out.2.2.2.1.below hB, HS6.out.2.2.2.2.1.below hB, HS6.out.2.2.2.2.2.1.below hB, HS6.out.2.2.2.2.2.2.1.below hB, HS6.out.2.2.2.2.2.2.2.1.below hB, hMv, Below.steps HS6.out.2.2.2.2.2.2.2.2 hB⟩
 have hmn : mn ≤ 100000 := by have h1 : (mvP g r v).length = mn := hMv.len; have := HM.out.2.2.2.2.2; omega
 have HMN : Hid (mn = (mvP g r v).length) := hMv.len.symm
 clear hB hMv c0 c1 c2 HS6
 go_upto_region 6 with (fail)
 refine wp_region_held_drew (S := fun w' => w'.cell? ⟨D, 2, none⟩ = some (.slice ho hn hc) ∧ w'.cell? ⟨D, 3, none⟩ = some (.slice ta tn tc) ∧ w'.cell? ⟨D, 5, none⟩ = some (.slice qo qn qc) ∧ w'.cell? ⟨X, 2, none⟩ = some (.slice yo yn yc)) (by kernel_rfl) ⟨(HS7.out.2.1.below (Below.refl _ _).drew).cell 2, (HS7.out.2.1.below (Below.refl _ _).drew).cell 3, (HS7.out.2.1.below (Below.refl _ _).drew).cell 5, (HS7.out.1.below (Below.refl _ _).drew).cell 2⟩ (fun hH => ?_)
 refine zz10 (fun w7 hW => ?_)
 have hB : Below w6.heap.size w6 w7 := by rw [hW]; exact (Below.refl _ _).drew
 have HS8 : Hid ((AtN w7 X [.int .i64 (degP r v), .slice xo xn xc, .slice yo yn yc] 78) ∧ (AtN w7 D (dcl v (degP g v) ho hn hc ta tn tc hq qo qn qc ro rn rc (s : Int)) 80) ∧ (Pc K w7 ho hn hc (hdP g v)) ∧ (Pc K w7 ta tn tc (tlP g v)) ∧ (Pc K w7 qo qn qc q) ∧ (Pc K w7 xo xn xc (hdP r v)) ∧ (Pc K w7 yo yn yc (tlP r v)) ∧ (AtN w7 E [.int .i64 0] 191) ∧ (Pc K w7 mo mn mc (mvP g r v)) ∧ Below w.heap.size w w7) := ⟨HS7.out.1.below hB, HS7.out.2.1.below hB, HS7.out.2.2.1.below hB, HS7.out.2.2.2.1.below hB, HS7.out.2.2.2.2.1.below hB, HS7.out.2.2.2.2.2.1.below hB, HS7.out.2.2.2.2.2.2.1.below hB, HS7.out.2.2.2.2.2.2.2.1.below hB, HS7.out.2.2.2.2.2.2.2.2.1.below hB, Below.steps HS7.out.2.2.2.2.2.2.2.2.2 hB⟩
 rw [← hW] at hH; clear hB HS7
 clear hW
 refine son 0 hH ?_; try simp only [nrm]
 refine son 1 hH ?_; try simp only [nrm]
 refine son 2 hH ?_; try simp only [nrm]
 refine son 3 hH ?_; try simp only [nrm]
 refine son 4 hH ?_; try simp only [nrm]
 refine son 5 hH ?_; try simp only [nrm]
 refine son 6 hH ?_; try simp only [nrm]
 refine son 8 hH ?_; try simp only [nrm]
 refine son 9 hH ?_; try simp only [nrm]
 refine son 10 hH ?_; try simp only [nrm]
 refine son 11 hH ?_; try simp only [nrm]
 refine son 12 hH ?_; try simp only [nrm]
 refine son 13 hH ?_; try simp only [nrm]
 refine son 15 hH ?_; try simp only [nrm]
 refine son 16 hH ?_; try simp only [nrm]
 refine son 17 hH ?_; try simp only [nrm]
 refine son 18 hH ?_; try simp only [nrm]
 refine son 19 hH ?_; try simp only [nrm]
 refine son 20 hH ?_; try simp only [nrm]
 refine son 21 hH ?_; try simp only [nrm]
 refine son 22 hH ?_; try simp only [nrm]
 refine son 23 hH ?_; try simp only [nrm]
 refine zz178 7 rfl (by kernel_rfl) (fun KK hK => ?_)
 go_simp
 refine (ptm_any (KR := K) E HS8.out.2.2.1 HS8.out.2.2.2.2.2.2.1 (hd_fall HO.out.fg v) (tl_fall HO.out.fr v) (by omega) (by omega) (by have := HM.out.1; omega) hK9 HO.out.fit1 (HZ.out.b HO.out.left_sum)).mono ?_
 rintro e w8 ⟨lo, ln, lc, rfl, hL, hB⟩
 have HS9 : Hid ((AtN w8 X [.int .i64 (degP r v), .slice xo xn xc, .slice yo yn yc] 78) ∧ (AtN w8 D (dcl v (degP g v) ho hn hc ta tn tc hq qo qn qc ro rn rc (s : Int)) 80) ∧ (Pc K w8 ho hn hc (hdP g v)) ∧ (Pc K w8 ta tn tc (tlP g v)) ∧ (Pc K w8 qo qn qc q) ∧ (Pc K w8 xo xn xc (hdP r v)) ∧ (Pc K w8 yo yn yc (tlP r v)) ∧ (AtN w8 E [.int .i64 0] 191) ∧ (Pc K w8 mo mn mc (mvP g r v)) ∧ (Pc K w8 lo ln lc (timesT (hdP g v) (tlP r v))) ∧ Below w.heap.size w w8) := ⟨HS8.out.1.below hB, HS8.out.2.1.below hB, HS8.out.2.2.1.below hB, HS8.out.2.2.2.1.below hB, HS8.out.2.2.2.2.1.below hB, HS8.out.2.2.2.2.2.1.below hB, HS8.out.2.2.2.2.2.2.1.below hB, HS8.out.2.2.2.2.2.2.2.1.below hB, HS8.out.2.2.2.2.2.2.2.2.1.below hB, hL, Below.steps HS8.out.2.2.2.2.2.2.2.2.2 hB⟩
 have HLN : Hid (ln ≤ hn * yn) := by have h := zz189 (hdP g v) (tlP r v); rwa [hL.len, HS9.out.2.2.1.len, HS9.out.2.2.2.2.2.2.1.len] at h
 clear hL; clear hB HS8; go_wp2_with fail
 clear hH; refine hK.out _ _ ⟨HS9.out.2.1.cell 2, HS9.out.2.1.cell 3, HS9.out.2.1.cell 5, HS9.out.1.cell 2⟩ fun hH => ?_; clear hK KK
 try simp only [nrm]
 refine zz178 14 rfl (by kernel_rfl) (fun KK hK => ?_)
 go_simp
 refine (ptm_any (KR := K) E HS9.out.2.2.2.2.2.2.2.2.1 HS9.out.2.2.2.1 HO.out.mv_fall (tl_fall HO.out.fg v) (by omega) (by omega) (by rw [HMN.out]; have := HM.out.2.1; omega) hK9 HO.out.fit2 (HZ.out.b HO.out.less_sum)).mono ?_
 rintro e w9 ⟨so, sn, sc, rfl, hL, hB⟩
 have HS10 : Hid ((AtN w9 X [.int .i64 (degP r v), .slice xo xn xc, .slice yo yn yc] 78) ∧ (AtN w9 D (dcl v (degP g v) ho hn hc ta tn tc hq qo qn qc ro rn rc (s : Int)) 80) ∧ (Pc K w9 ho hn hc (hdP g v)) ∧ (Pc K w9 ta tn tc (tlP g v)) ∧ (Pc K w9 qo qn qc q) ∧ (Pc K w9 xo xn xc (hdP r v)) ∧ (Pc K w9 yo yn yc (tlP r v)) ∧ (AtN w9 E [.int .i64 0] 191) ∧ (Pc K w9 mo mn mc (mvP g r v)) ∧ (Pc K w9 lo ln lc (timesT (hdP g v) (tlP r v))) ∧ (Pc K w9 so sn sc (timesT (mvP g r v) (tlP g v))) ∧ Below w.heap.size w w9) := ⟨HS9.out.1.below hB, HS9.out.2.1.below hB, HS9.out.2.2.1.below hB, HS9.out.2.2.2.1.below hB, HS9.out.2.2.2.2.1.below hB, HS9.out.2.2.2.2.2.1.below hB, HS9.out.2.2.2.2.2.2.1.below hB, HS9.out.2.2.2.2.2.2.2.1.below hB, HS9.out.2.2.2.2.2.2.2.2.1.below hB, HS9.out.2.2.2.2.2.2.2.2.2.1.below hB, hL, Below.steps HS9.out.2.2.2.2.2.2.2.2.2.2 hB⟩
 have HSN : Hid (sn ≤ (mvP g r v).length * tn) := by have h := zz189 (mvP g r v) (tlP g v); rwa [hL.len, HS10.out.2.2.2.1.len] at h
 clear hL; clear hB HS9; go_wp2_with fail
 clear hH; refine hK.out _ _ ⟨HS10.out.2.1.cell 2, HS10.out.2.1.cell 3, HS10.out.2.1.cell 5, HS10.out.1.cell 2⟩ fun hH => ?_; clear hK KK
 try simp only [nrm]
 refine zz178 24 rfl (by kernel_rfl) (fun KK hK => ?_)
 go_simp
 refine (ptm_any (KR := K) E HS10.out.2.2.1 HS10.out.2.2.2.2.1 (hd_fall HO.out.fg v) HQF.out.1 (by omega) (by omega) (by have := HM.out.2.2.2.1; omega) hK9 (HO.out.fit3 HQF.out.1 HQF.out.2) (HZ.out.c (by have := HO.out.raised_sum (q := q); omega))).mono ?_
 rintro e w10 ⟨bo, bn, bc, rfl, hL, hB⟩
 have HS11 : Hid ((AtN w10 X [.int .i64 (degP r v), .slice xo xn xc, .slice yo yn yc] 78) ∧ (AtN w10 D (dcl v (degP g v) ho hn hc ta tn tc hq qo qn qc ro rn rc (s : Int)) 80) ∧ (Pc K w10 ho hn hc (hdP g v)) ∧ (Pc K w10 ta tn tc (tlP g v)) ∧ (Pc K w10 qo qn qc q) ∧ (Pc K w10 xo xn xc (hdP r v)) ∧ (Pc K w10 yo yn yc (tlP r v)) ∧ (AtN w10 E [.int .i64 0] 191) ∧ (Pc K w10 mo mn mc (mvP g r v)) ∧ (Pc K w10 lo ln lc (timesT (hdP g v) (tlP r v))) ∧ (Pc K w10 so sn sc (timesT (mvP g r v) (tlP g v))) ∧ (Pc K w10 bo bn bc (timesT (hdP g v) q)) ∧ Below w.heap.size w w10) := ⟨HS10.out.1.below hB, HS10.out.2.1.below hB, HS10.out.2.2.1.below hB, HS10.out.2.2.2.1.below hB, HS10.out.2.2.2.2.1.below hB, HS10.out.2.2.2.2.2.1.below hB, HS10.out.2.2.2.2.2.2.1.below hB, HS10.out.2.2.2.2.2.2.2.1.below hB, HS10.out.2.2.2.2.2.2.2.2.1.below hB, HS10.out.2.2.2.2.2.2.2.2.2.1.below hB, HS10.out.2.2.2.2.2.2.2.2.2.2.1.below hB, hL, Below.steps HS10.out.2.2.2.2.2.2.2.2.2.2.2 hB⟩
 have HBN : Hid (bn ≤ hn * qn) := by have h := zz189 (hdP g v) q; rwa [hL.len, HS11.out.2.2.1.len, HS11.out.2.2.2.2.1.len] at h
 clear hL; clear hB HS10; go_wp2_with fail
 clear hH; refine hK.out _ _ ⟨HS11.out.2.1.cell 2, HS11.out.2.1.cell 3, HS11.out.2.1.cell 5, HS11.out.1.cell 2⟩ fun hH => ?_; clear hK KK
 try simp only [nrm]
 refine son 25 hH ?_; try simp only [nrm]
 refine son 26 hH ?_; try simp only [nrm]
 refine son 27 hH ?_; try simp only [nrm]
 refine wpAnyH_done (by kernel_rfl) ?_ _
 clear hH
 have cE : w10.cell? ⟨E, 0, none⟩ = some (.int .i64 0) := HS11.out.2.2.2.2.2.2.2.1.cell 0
 go_wp2_with fail
 refine (psub_any HS11.out.2.2.2.2.2.2.2.2.2.1 HS11.out.2.2.2.2.2.2.2.2.2.2.1 HO.out.left_fall HO.out.less_fall (by have := HLN.out; have := HSN.out; have := HM.out.2.2.1; omega) (by omega)).mono ?_
 rintro e w11 ⟨no, nn, nc, rfl, hN, hB⟩; have hN2 := hN.lower (HZ.out.b HO.out.r_sum)
 have HS12 : Hid ((AtN w11 D (dcl v (degP g v) ho hn hc ta tn tc hq qo qn qc ro rn rc (s : Int)) 80) ∧ (Pc K w11 ho hn hc (hdP g v)) ∧ (Pc K w11 ta tn tc (tlP g v)) ∧ (Pc K w11 qo qn qc q) ∧ (AtN w11 E [.int .i64 0] 191) ∧ (Pc K w11 mo mn mc (mvP g r v)) ∧ (Pc K w11 bo bn bc (timesT (hdP g v) q)) ∧ (Pc K w11 no nn nc (stR g v r)) ∧ Below w.heap.size w w11) := ⟨HS11.out.2.1.below hB, HS11.out.2.2.1.below hB, HS11.out.2.2.2.1.below hB, HS11.out.2.2.2.2.1.below hB, HS11.out.2.2.2.2.2.2.2.1.below hB, HS11.out.2.2.2.2.2.2.2.2.1.below hB, HS11.out.2.2.2.2.2.2.2.2.2.2.2.1.below hB, hN2, Below.steps HS11.out.2.2.2.2.2.2.2.2.2.2.2.2 hB⟩
 clear hB hN hN2 cE HLN HSN HS11
 have d6 : w11.cell? ⟨D, 6, none⟩ = some (.slice ro rn rc) := HS12.out.1.cell 6
 have f6 := HS12.out.1.fz 6
 go_upto_region 10 with (fail)
 refine zz233 (fun W12 hW => ?_)
 have hG : w11.grownBy W12 (some D) := by rw [hW]; exact zz77 _ _ _ _
 have hF := dcl_far HLO.out HS12.out.1 hG
 have HS13 : Hid ((AtN W12 D (dcl v (degP g v) ho hn hc ta tn tc hq qo qn qc no nn nc (s : Int)) 80) ∧ (Pc K W12 ho hn hc (hdP g v)) ∧ (Pc K W12 ta tn tc (tlP g v)) ∧ (Pc K W12 qo qn qc q) ∧ (Pc K W12 mo mn mc (mvP g r v)) ∧ (Pc K W12 bo bn bc (timesT (hdP g v) q)) ∧ (Pc K W12 no nn nc (stR g v r)) ∧ w.grownBy W12 (some D)) := ⟨(by rw [hW]; exact HS12.out.1.set 6 _), HS12.out.2.1.farB hF, HS12.out.2.2.1.farB hF, HS12.out.2.2.2.1.farB hF, HS12.out.2.2.2.2.2.1.farB hF, HS12.out.2.2.2.2.2.2.1.farB hF, HS12.out.2.2.2.2.2.2.2.1.farB hF, zz82 (zz74 (some D) HS12.out.2.2.2.2.2.2.2.2) hG⟩
 clear hW hG hF d6 f6 HS12
 have d4 : W12.cell? ⟨D, 4, none⟩ = some (.bool hq) := HS13.out.1.cell 4
 cases hq with
 | false =>
  have hws : IntKind.i64.wrap ((s : Int) + 1) = ((s + 1 : Nat) : Int) := by rw [show ((s + 1 : Nat) : Int) = (s : Int) + 1 from rfl]; exact IntWalk.i64_in _ ⟨by omega, by omega⟩
  have d7 : W12.cell? ⟨D, 7, none⟩ = some (.int .i64 (s : Int)) := HS13.out.1.cell 7
  have f7 := HS13.out.1.fz 7
  go_upto_region 13 with (fail)
  refine zz233 (fun W14 hW => ?_)
  have hG : W12.grownBy W14 (some D) := by rw [hW]; exact zz77 _ _ _ _
  have hF := dcl_far HLO.out HS13.out.1 hG
  have HS14 : Hid ((AtN W14 D (dcl v (degP g v) ho hn hc ta tn tc false qo qn qc no nn nc ((s + 1 : Nat) : Int)) 80) ∧ (Pc K W14 ho hn hc (hdP g v)) ∧ (Pc K W14 ta tn tc (tlP g v)) ∧ (Pc K W14 qo qn qc q) ∧ (Pc K W14 mo mn mc (mvP g r v)) ∧ (Pc K W14 bo bn bc (timesT (hdP g v) q)) ∧ (Pc K W14 no nn nc (stR g v r)) ∧ w.grownBy W14 (some D)) := ⟨(by rw [hW]; exact HS13.out.1.set 7 _), HS13.out.2.1.farB hF, HS13.out.2.2.1.farB hF, HS13.out.2.2.2.1.farB hF, HS13.out.2.2.2.2.1.farB hF, HS13.out.2.2.2.2.2.1.farB hF, HS13.out.2.2.2.2.2.2.1.farB hF, zz82 HS13.out.2.2.2.2.2.2.2 hG⟩
  clear hW hG hF d7 f7 HS13; go_wp2_with fail
  go_ret
  exact ⟨_, _, _, _, _, _, rfl, HS14.out.1, HS14.out.2.2.2.2.2.2.1, HS14.out.2.2.2.1, HS14.out.2.2.2.2.2.2.2⟩
 | true =>
  go_wp2_with fail
  refine (padd_any HS13.out.2.2.2.2.2.1 HS13.out.2.2.2.2.1 (zz188 (hd_fall HO.out.fg v) HQF.out.1 (HO.out.fit3 HQF.out.1 HQF.out.2)) HO.out.mv_fall (by have := HBN.out; have := HM.out.2.2.2.2.1; rw [HMN.out]; omega) (by omega)).mono ?_
  rintro e w13 ⟨po, pn, pc, rfl, hN, hB⟩; have hN2 := hN.lower (HZ.out.c (p := stQ g v q r) HO.out.q_sum)
  have HS14 : Hid ((AtN w13 D (dcl v (degP g v) ho hn hc ta tn tc true qo qn qc no nn nc (s : Int)) 80) ∧ (Pc K w13 ho hn hc (hdP g v)) ∧ (Pc K w13 ta tn tc (tlP g v)) ∧ (Pc K w13 qo qn qc q) ∧ (Pc K w13 mo mn mc (mvP g r v)) ∧ (Pc K w13 bo bn bc (timesT (hdP g v) q)) ∧ (Pc K w13 no nn nc (stR g v r)) ∧ (Pc K w13 po pn pc (stQ g v q r)) ∧ w.grownBy w13 (some D)) := ⟨HS13.out.1.below hB, HS13.out.2.1.below hB, HS13.out.2.2.1.below hB, HS13.out.2.2.2.1.below hB, HS13.out.2.2.2.2.1.below hB, HS13.out.2.2.2.2.2.1.below hB, HS13.out.2.2.2.2.2.2.1.below hB, hN2, zz82 HS13.out.2.2.2.2.2.2.2 (zz74 (some D) hB)⟩
  clear hB hN hN2 HS13
  have d5 : w13.cell? ⟨D, 5, none⟩ = some (.slice qo qn qc) := HS14.out.1.cell 5
  have f5 := HS14.out.1.fz 5
  go_upto_region 12 with (fail)
  refine zz233 (fun W15 hW => ?_)
  have hG : w13.grownBy W15 (some D) := by rw [hW]; exact zz77 _ _ _ _
  have hF := dcl_far HLO.out HS14.out.1 hG
  have HS15 : Hid ((AtN W15 D (dcl v (degP g v) ho hn hc ta tn tc true po pn pc no nn nc (s : Int)) 80) ∧ (Pc K W15 ho hn hc (hdP g v)) ∧ (Pc K W15 ta tn tc (tlP g v)) ∧ (Pc K W15 qo qn qc q) ∧ (Pc K W15 mo mn mc (mvP g r v)) ∧ (Pc K W15 bo bn bc (timesT (hdP g v) q)) ∧ (Pc K W15 no nn nc (stR g v r)) ∧ (Pc K W15 po pn pc (stQ g v q r)) ∧ w.grownBy W15 (some D)) := ⟨(by rw [hW]; exact HS14.out.1.set 5 _), HS14.out.2.1.farB hF, HS14.out.2.2.1.farB hF, HS14.out.2.2.2.1.farB hF, HS14.out.2.2.2.2.1.farB hF, HS14.out.2.2.2.2.2.1.farB hF, HS14.out.2.2.2.2.2.2.1.farB hF, HS14.out.2.2.2.2.2.2.2.1.farB hF, zz82 HS14.out.2.2.2.2.2.2.2.2 hG⟩
  clear hW hG hF d5 f5 d4 HS14
  have hws : IntKind.i64.wrap ((s : Int) + 1) = ((s + 1 : Nat) : Int) := by rw [show ((s + 1 : Nat) : Int) = (s : Int) + 1 from rfl]; exact IntWalk.i64_in _ ⟨by omega, by omega⟩
  have d7 : W15.cell? ⟨D, 7, none⟩ = some (.int .i64 (s : Int)) := HS15.out.1.cell 7
  have f7 := HS15.out.1.fz 7
  go_upto_region 13 with (fail)
  refine zz233 (fun W14 hW => ?_)
  have hG : W15.grownBy W14 (some D) := by rw [hW]; exact zz77 _ _ _ _
  have hF := dcl_far HLO.out HS15.out.1 hG
  have HS16 : Hid ((AtN W14 D (dcl v (degP g v) ho hn hc ta tn tc true po pn pc no nn nc ((s + 1 : Nat) : Int)) 80) ∧ (Pc K W14 ho hn hc (hdP g v)) ∧ (Pc K W14 ta tn tc (tlP g v)) ∧ (Pc K W14 qo qn qc q) ∧ (Pc K W14 mo mn mc (mvP g r v)) ∧ (Pc K W14 bo bn bc (timesT (hdP g v) q)) ∧ (Pc K W14 no nn nc (stR g v r)) ∧ (Pc K W14 po pn pc (stQ g v q r)) ∧ w.grownBy W14 (some D)) := ⟨(by rw [hW]; exact HS15.out.1.set 7 _), HS15.out.2.1.farB hF, HS15.out.2.2.1.farB hF, HS15.out.2.2.2.1.farB hF, HS15.out.2.2.2.2.1.farB hF, HS15.out.2.2.2.2.2.1.farB hF, HS15.out.2.2.2.2.2.2.1.farB hF, HS15.out.2.2.2.2.2.2.2.1.farB hF, zz82 HS15.out.2.2.2.2.2.2.2.2 hG⟩
  clear hW hG hF d7 f7 HS15; go_wp2_with fail
  go_ret
  exact ⟨_, _, _, _, _, _, rfl, HS16.out.1, HS16.out.2.2.2.2.2.2.1, HS16.out.2.2.2.2.2.2.2.1, HS16.out.2.2.2.2.2.2.2.2⟩
end Go.Proofs.YtodcddkiodmklaaGreat

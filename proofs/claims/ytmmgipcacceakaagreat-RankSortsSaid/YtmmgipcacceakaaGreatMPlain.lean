/-
  Powers of variables in plain words: lists of pairs, their exponents, what is joined of two of them, their order.
-/
import Derived.Test.YtmmgipcacceakaaGreatGBase
set_option maxHeartbeats 40000000
set_option maxRecDepth 100000
namespace Go.Proofs.YtmmgipcacceakaaGreat
def okP (lo : Int) (p : Int × Int) : Bool := decide (lo < p.1) && (decide (p.1 ≤ 200) && (decide (1 ≤ p.2) && decide (p.2 ≤ 10000)))
def mayM : Int → List (Int × Int) → Bool
 | _, [] => true
 | lo, p :: r => okP lo p && mayM p.1 r
def loM (ps : List (Int × Int)) : Nat → Int
 | 0 => 0
 | k + 1 => (ps.getD k (0, 0)).1
theorem mayM_drop (ps : List (Int × Int)) (k : Nat) (lo : Int) (h : k < ps.length) : mayM lo (ps.drop k) = (okP lo (ps.getD k (0, 0)) && mayM (loM ps (k + 1)) (ps.drop (k + 1))) := by
 rw [List.drop_eq_getElem_cons h]
 simp [mayM, loM, List.getD, h]
def expo : List (Int × Int) → Int → Int
 | [], _ => 0
 | p :: r, v => if p.1 = v then p.2 else expo r v
def risM : Int → List (Int × Int) → Prop
 | _, [] => True
 | lo, p :: r => lo < p.1 ∧ p.1 ≤ 200 ∧ p.2 ≠ 0 ∧ risM p.1 r
theorem ris_low {v : Int} : ∀ {ps : List (Int × Int)} {lo : Int}, risM lo ps → v ≤ lo → expo ps v = 0
 | [], _, _, _ => rfl
 | p :: r, lo, h, hv => by
  have h1 := h.1
  unfold expo
  rw [if_neg (by omega)]
  exact ris_low h.2.2.2 (by omega)
theorem ris_high {v : Int} (hv : 200 < v) : ∀ {ps : List (Int × Int)} {lo : Int}, risM lo ps → expo ps v = 0
 | [], _, _ => rfl
 | p :: r, lo, h => by
  have h1 := h.2.1
  unfold expo
  rw [if_neg (by omega)]
  exact ris_high hv h.2.2.2
theorem ris_mono {lo lo' : Int} (hl : lo' ≤ lo) : ∀ {ps : List (Int × Int)}, risM lo ps → risM lo' ps
 | [], _ => trivial
 | _ :: _, h => ⟨by have := h.1; omega, h.2⟩
theorem ris_ext : ∀ {xs ys : List (Int × Int)} {lo : Int}, risM lo xs → risM lo ys → (∀ v, expo xs v = expo ys v) → xs = ys
 | [], [], _, _, _, _ => rfl
 | [], q :: s, lo, _, hy, he => by
  have h1 := he q.1
  simp only [expo, if_pos] at h1
  exact absurd h1.symm hy.2.2.1
 | p :: r, [], lo, hx, _, he => by
  have h1 := he p.1
  simp only [expo, if_pos] at h1
  exact absurd h1 hx.2.2.1
 | p :: r, q :: s, lo, hx, hy, he => by
  have hpq : p.1 = q.1 := by
   rcases Int.lt_trichotomy p.1 q.1 with h | h | h
   ·have h1 := he p.1
    have h2 : expo (q :: s) p.1 = 0 := ris_low (lo := p.1) ⟨h, hy.2⟩ (Int.le_refl _)
    rw [h2] at h1
    simp only [expo, if_pos] at h1
    exact absurd h1 hx.2.2.1
   ·exact h
   ·have h1 := he q.1
    have h2 : expo (p :: r) q.1 = 0 := ris_low (lo := q.1) ⟨h, hx.2⟩ (Int.le_refl _)
    rw [h2] at h1
    simp only [expo, if_pos] at h1
    exact absurd h1.symm hy.2.2.1
  have he1 := he p.1
  simp only [expo, if_pos, hpq] at he1
  have hr : r = s := ris_ext (lo := p.1) hx.2.2.2 (hpq ▸ hy.2.2.2) fun v => by
   by_cases hv : p.1 = v
   ·rw [ris_low hx.2.2.2 (by omega), ris_low (lo := q.1) hy.2.2.2 (by omega)]
   ·have h3 := he v
    unfold expo at h3
    rwa [if_neg hv, if_neg (by omega)] at h3
  rw [hr]
  congr 1
  exact Prod.ext hpq (by simpa using he1)
theorem may_iff : ∀ {ps : List (Int × Int)} {lo : Int}, mayM lo ps = true ↔ risM lo ps ∧ ∀ v, 0 ≤ expo ps v ∧ expo ps v ≤ 10000
 | [], lo => by simp [mayM, risM, expo]
 | p :: r, lo => by
  have ih := may_iff (ps := r) (lo := p.1)
  constructor
  ·intro h
   unfold mayM okP at h
   simp only [Bool.and_eq_true, decide_eq_true_eq] at h
   obtain ⟨⟨h1, h2, h3, h4⟩, h5⟩ := h; obtain ⟨g1, g2⟩ := ih.1 h5
   refine ⟨⟨h1, h2, by omega, g1⟩, fun v => ?_⟩
   unfold expo
   by_cases hv : p.1 = v
   ·rw [if_pos hv]; omega
   ·rw [if_neg hv]; exact g2 v
  ·rintro ⟨⟨h1, h2, h3, h4⟩, h5⟩
   have h6 := h5 p.1
   simp only [expo, if_pos] at h6
   unfold mayM okP
   simp only [Bool.and_eq_true, decide_eq_true_eq]
   refine ⟨⟨h1, h2, by omega, h6.2⟩, ih.2 ⟨h4, fun v => ?_⟩⟩
   by_cases hv : p.1 = v
   ·rw [ris_low h4 (by omega)]; omega
   ·have h7 := h5 v
    unfold expo at h7
    rwa [if_neg hv] at h7
theorem may_ris {ps : List (Int × Int)} (h : mayM 0 ps = true) : risM 0 ps := (may_iff.1 h).1
theorem may_bd {ps : List (Int × Int)} (h : mayM 0 ps = true) (v : Int) : 0 ≤ expo ps v ∧ expo ps v ≤ 10000 := (may_iff.1 h).2 v
theorem may_out {ps : List (Int × Int)} (h : mayM 0 ps = true) {v : Int} (hv : v < 1 ∨ 200 < v) : expo ps v = 0 := by
 rcases hv with hv | hv
 ·exact ris_low (may_ris h) (by omega)
 ·exact ris_high hv (may_ris h)
def tri : List (Int × Int) → List (Int × Int) → List (Int × Int × Int)
 | [], ys => ys.map fun q => (q.1, 0, q.2)
 | xs, [] => xs.map fun p => (p.1, p.2, 0)
 | p :: r, q :: s => if p.1 < q.1 then (p.1, p.2, 0) :: tri r (q :: s) else if q.1 < p.1 then (q.1, 0, q.2) :: tri (p :: r) s else (p.1, p.2, q.2) :: tri r s
termination_by xs ys => xs.length + ys.length
theorem tri_nil_left (ys : List (Int × Int)) : tri [] ys = ys.map fun q => (q.1, 0, q.2) := by unfold tri; rfl
theorem tri_nil_right (xs : List (Int × Int)) : tri xs [] = xs.map fun p => (p.1, p.2, 0) := by
 cases xs with
 | nil => simp [tri]
 | cons p r => unfold tri; rfl
theorem tri_lt {p q : Int × Int} (r s : List (Int × Int)) (h : p.1 < q.1) : tri (p :: r) (q :: s) = (p.1, p.2, 0) :: tri r (q :: s) := by
 rw [tri]; rw [if_pos h]
theorem tri_gt {p q : Int × Int} (r s : List (Int × Int)) (h : q.1 < p.1) : tri (p :: r) (q :: s) = (q.1, 0, q.2) :: tri (p :: r) s := by
 rw [tri]; rw [if_neg (by omega), if_pos h]
theorem tri_eq {p q : Int × Int} (r s : List (Int × Int)) (h : p.1 = q.1) : tri (p :: r) (q :: s) = (p.1, p.2, q.2) :: tri r s := by
 rw [tri]; rw [if_neg (by omega), if_neg (by omega)]
theorem tri_end {xs ys : List (Int × Int)} (h : xs = [] ∨ ys = []) : tri xs ys = xs.map (fun p => (p.1, p.2, (0 : Int))) ++ ys.map (fun q => (q.1, (0 : Int), q.2)) := by
 rcases h with rfl | rfl
 ·rw [tri_nil_left]; rfl
 ·rw [tri_nil_right]; simp
theorem map_drop {β : Type} (f : Int × Int → β) {ps : List (Int × Int)} {k : Nat} (h : k < ps.length) : (ps.drop k).map f = f (ps.getD k (0, 0)) :: (ps.drop (k + 1)).map f := by
 rw [List.drop_eq_getElem_cons h, List.map_cons]
 simp only [List.getD, List.getElem?_eq_getElem h, Option.getD_some]
def keepL (f : Int → Int → Int) : List (Int × Int × Int) → List (Int × Int)
 | [] => []
 | t :: r => if f t.2.1 t.2.2 = 0 then keepL f r else (t.1, f t.2.1 t.2.2) :: keepL f r
theorem keep_step {f : Int → Int → Int} {v x y : Int} {lo : Int} {ts : List (Int × Int × Int)} {a b : Int → Int} (h1 : lo < v) (h2 : v ≤ 200) (hr : risM v (keepL f ts))
  (he : ∀ u, expo (keepL f ts) u = f (a u) (b u)) (a' b' : Int → Int) (ha : ∀ u, u ≠ v → a' u = a u) (hb : ∀ u, u ≠ v → b' u = b u) (hav : a' v = x) (hbv : b' v = y) :
  risM lo (keepL f ((v, x, y) :: ts)) ∧ ∀ u, expo (keepL f ((v, x, y) :: ts)) u = f (a' u) (b' u) := by
 unfold keepL
 by_cases h : f x y = 0
 ·rw [if_pos h]
  refine ⟨ris_mono (by omega) hr, fun u => ?_⟩
  by_cases hu : u = v
  ·subst hu; rw [ris_low hr (Int.le_refl _), hav, hbv, h]
  ·rw [he u, ha u hu, hb u hu]
 ·rw [if_neg h]
  refine ⟨⟨h1, h2, h, hr⟩, fun u => ?_⟩
  by_cases hu : v = u
  ·subst hu; simp [expo, hav, hbv]
  ·simp only [expo, if_neg hu]; rw [he u, ha u (Ne.symm hu), hb u (Ne.symm hu)]
theorem keep_spec {f : Int → Int → Int} (h0 : f 0 0 = 0) : ∀ (n : Nat) (xs ys : List (Int × Int)) (lo : Int), xs.length + ys.length ≤ n → risM lo xs → risM lo ys →
  risM lo (keepL f (tri xs ys)) ∧ ∀ v, expo (keepL f (tri xs ys)) v = f (expo xs v) (expo ys v)
 | n, [], [], lo, _, _, _ => by simp [tri, keepL, risM, expo, h0]
 | 0, p :: r, _, _, hn, _, _ => by simp at hn
 | 0, [], q :: s, _, hn, _, _ => by simp at hn
 | n + 1, [], q :: s, lo, hn, hx, hy => by
  have ih := keep_spec h0 n [] s q.1 (by simp at hn ⊢; omega) trivial hy.2.2.2
  rw [tri_nil_left] at ih ⊢
  exact keep_step hy.1 hy.2.1 ih.1 ih.2 _ _ (fun _ _ => rfl) (fun u hu => by simp [expo, Ne.symm hu]) rfl (by simp [expo])
 | n + 1, p :: r, [], lo, hn, hx, hy => by
  have ih := keep_spec h0 n r [] p.1 (by simp at hn ⊢; omega) hx.2.2.2 trivial
  rw [tri_nil_right] at ih ⊢
  exact keep_step hx.1 hx.2.1 ih.1 ih.2 _ _ (fun u hu => by simp [expo, Ne.symm hu]) (fun _ _ => rfl) (by simp [expo]) rfl
 | n + 1, p :: r, q :: s, _, hn, hx, hy => by
  rcases Int.lt_trichotomy p.1 q.1 with h | h | h
  ·have ih := keep_spec h0 n r (q :: s) p.1 (by simp at hn ⊢; omega) hx.2.2.2 ⟨h, hy.2⟩
   rw [tri_lt _ _ h]
   exact keep_step hx.1 hx.2.1 ih.1 ih.2 _ _ (fun u hu => by simp [expo, Ne.symm hu]) (fun _ _ => rfl) (by simp [expo]) (ris_low (lo := p.1) ⟨h, hy.2⟩ (Int.le_refl _))
  ·have ih := keep_spec h0 n r s p.1 (by simp at hn ⊢; omega) hx.2.2.2 (h ▸ hy.2.2.2)
   rw [tri_eq _ _ h]
   exact keep_step hx.1 hx.2.1 ih.1 ih.2 _ _ (fun u hu => by simp [expo, Ne.symm hu]) (fun u hu => by simp [expo, ← h, Ne.symm hu]) (by simp [expo]) (by simp [expo, h])
  ·have ih := keep_spec h0 n (p :: r) s q.1 (by simp at hn ⊢; omega) ⟨h, hx.2⟩ hy.2.2.2
   rw [tri_gt _ _ h]
   exact keep_step hy.1 hy.2.1 ih.1 ih.2 _ _ (fun _ _ => rfl) (fun u hu => by simp [expo, Ne.symm hu]) (ris_low (lo := q.1) ⟨h, hx.2⟩ (Int.le_refl _)) (by simp [expo])
def joinL (f : Int → Int → Int) (xs ys : List (Int × Int)) : List (Int × Int) := keepL f (tri xs ys)
theorem join_ris {f : Int → Int → Int} (h0 : f 0 0 = 0) {xs ys : List (Int × Int)} (hx : mayM 0 xs = true) (hy : mayM 0 ys = true) : risM 0 (joinL f xs ys) :=
 (keep_spec h0 _ xs ys 0 (Nat.le_refl _) (may_ris hx) (may_ris hy)).1
theorem join_expo {f : Int → Int → Int} (h0 : f 0 0 = 0) {xs ys : List (Int × Int)} (hx : mayM 0 xs = true) (hy : mayM 0 ys = true) (v : Int) : expo (joinL f xs ys) v = f (expo xs v) (expo ys v) :=
 (keep_spec h0 _ xs ys 0 (Nat.le_refl _) (may_ris hx) (may_ris hy)).2 v
theorem join_may {f : Int → Int → Int} (h0 : f 0 0 = 0) {xs ys : List (Int × Int)} (hx : mayM 0 xs = true) (hy : mayM 0 ys = true) :
  mayM 0 (joinL f xs ys) = true ↔ ∀ v, 0 ≤ f (expo xs v) (expo ys v) ∧ f (expo xs v) (expo ys v) ≤ 10000 := by
 rw [may_iff]
 constructor
 ·intro h v; rw [← join_expo h0 hx hy]; exact h.2 v
 ·intro h; exact ⟨join_ris h0 hx hy, fun v => by rw [join_expo h0 hx hy]; exact h v⟩
theorem may_mem : ∀ {ps : List (Int × Int)} {lo : Int}, mayM lo ps = true → 0 ≤ lo → ∀ p ∈ ps, (0 ≤ p.1 ∧ p.1 ≤ 200) ∧ (0 ≤ p.2 ∧ p.2 ≤ 10000)
 | q :: r, lo, h, hl, p, hp => by
  unfold mayM okP at h
  simp only [Bool.and_eq_true, decide_eq_true_eq] at h
  obtain ⟨⟨h1, h2, h3, h4⟩, h5⟩ := h
  rcases List.mem_cons.1 hp with rfl | hp
  ·exact ⟨⟨by omega, h2⟩, by omega, h4⟩
  ·exact may_mem h5 (by omega) p hp
def ofUp (g : Int → Int) : Nat → List (Int × Int)
 | 0 => []
 | k + 1 => ofUp g k ++ if 0 < g ((k : Int) + 1) then [((k : Int) + 1, g ((k : Int) + 1))] else []
theorem ofUp_len (g : Int → Int) : ∀ k, (ofUp g k).length ≤ k
 | 0 => Nat.le_refl _
 | k + 1 => by
  unfold ofUp
  have := ofUp_len g k
  by_cases h : 0 < g ((k : Int) + 1)
  ·rw [if_pos h]; simp; omega
  ·rw [if_neg h]; simp; omega
theorem ris_snoc {v e : Int} (h2 : v ≤ 200) (h3 : e ≠ 0) : ∀ {xs : List (Int × Int)} {lo : Int}, risM lo xs → (∀ p ∈ xs, p.1 < v) → lo < v → risM lo (xs ++ [(v, e)])
 | [], _, _, _, hl => ⟨hl, h2, h3, trivial⟩
 | p :: r, _, h, hp, _ => ⟨h.1, h.2.1, h.2.2.1, ris_snoc h2 h3 h.2.2.2 (fun q hq => hp q (by simp [hq])) (hp p (by simp))⟩
theorem expo_snoc {v e u : Int} : ∀ {xs : List (Int × Int)}, (∀ p ∈ xs, p.1 < v) → expo (xs ++ [(v, e)]) u = if u = v then e else expo xs u
 | [], _ => by
  by_cases h : v = u
  ·simp [expo, h]
  ·simp [expo, h, Ne.symm h]
 | p :: r, hp => by
  have h1 := hp p (by simp)
  have ih := expo_snoc (v := v) (e := e) (u := u) (xs := r) fun q hq => hp q (by simp [hq])
  simp only [List.cons_append, expo]
  by_cases h : p.1 = u
  ·rw [if_pos h, if_pos h, if_neg (by omega)]
  ·rw [if_neg h, if_neg h, ih]
theorem ofUp_spec (g : Int → Int) : ∀ k : Nat, k ≤ 200 → risM 0 (ofUp g k) ∧ (∀ p ∈ ofUp g k, p.1 ≤ k) ∧ ∀ v : Int, expo (ofUp g k) v = if 1 ≤ v ∧ v ≤ k ∧ 0 < g v then g v else 0
 | 0, _ => ⟨trivial, (fun p hp => by cases hp), fun v => by rw [if_neg (by omega)]; rfl⟩
 | k + 1, hk => by
  obtain ⟨h1, h2, h3⟩ := ofUp_spec g k (by omega)
  have h4 : ∀ p ∈ ofUp g k, p.1 < (k : Int) + 1 := fun p hp => by have := h2 p hp; omega
  unfold ofUp
  by_cases h : 0 < g ((k : Int) + 1)
  ·rw [if_pos h]
   refine ⟨ris_snoc (by omega) (by omega) h1 h4 (by omega), fun p hp => ?_, fun v => ?_⟩
   ·rcases List.mem_append.1 hp with hp | hp
    ·have := h2 p hp; omega
    ·simp at hp; subst hp; simp
   ·rw [expo_snoc h4, h3 v]
    by_cases hv : v = (k : Int) + 1
    ·subst hv; rw [if_pos rfl, if_pos ⟨by omega, by omega, h⟩]
    ·rw [if_neg hv]
     by_cases hc : 1 ≤ v ∧ v ≤ (k : Int) ∧ 0 < g v
     ·rw [if_pos hc, if_pos ⟨hc.1, by omega, hc.2.2⟩]
     ·rw [if_neg hc, if_neg (fun hd => hc ⟨hd.1, by omega, hd.2.2⟩)]
  ·rw [if_neg h, List.append_nil]
   refine ⟨h1, fun p hp => by have := h2 p hp; omega, fun v => ?_⟩
   rw [h3 v]
   by_cases hv : v = (k : Int) + 1
   ·subst hv; rw [if_neg (by omega), if_neg (fun hd => h hd.2.2)]
   ·by_cases hc : 1 ≤ v ∧ v ≤ (k : Int) ∧ 0 < g v
    ·rw [if_pos hc, if_pos ⟨hc.1, by omega, hc.2.2⟩]
    ·rw [if_neg hc, if_neg (fun hd => hc ⟨hd.1, by omega, hd.2.2⟩)]
def lim : Nat := 200
def ofE (g : Int → Int) : List (Int × Int) := ofUp g lim
structure OfE (g : Int → Int) (ps : List (Int × Int)) : Prop where
 ris : risM 0 ps
 ex : ∀ v : Int, expo ps v = if 1 ≤ v ∧ v ≤ 200 ∧ 0 < g v then g v else 0
theorem ofE_spec (g : Int → Int) (k : Nat) (hk : k = 200) : OfE g (ofUp g k) := by
 obtain ⟨h1, _, h2⟩ := ofUp_spec g k (by omega)
 refine ⟨h1, fun v => ?_⟩
 rw [h2 v, show (k : Int) = 200 by omega]
theorem ofE_ok (g : Int → Int) : OfE g (ofE g) := ofE_spec g lim rfl
theorem OfE.eq {g : Int → Int} {ps qs : List (Int × Int)} (k : OfE g qs) (h : risM 0 ps) (hg : ∀ v, 1 ≤ v → v ≤ 200 → expo ps v = g v) (h0 : ∀ v, 1 ≤ v → v ≤ 200 → 0 ≤ g v) : qs = ps := by
 refine ris_ext k.ris h fun v => ?_
 rw [k.ex]
 by_cases h1 : 1 ≤ v
 ·by_cases h2 : v ≤ 200
  ·rw [hg v h1 h2]
   have := h0 v h1 h2
   by_cases h3 : 0 < g v
   ·rw [if_pos ⟨h1, h2, h3⟩]
   ·rw [if_neg (fun hd => h3 hd.2.2)]; omega
  ·rw [if_neg (by omega), ris_high (by omega) h]
 ·rw [if_neg (by omega), ris_low h (by omega)]
theorem ofE_eq {g : Int → Int} {ps : List (Int × Int)} (h : risM 0 ps) (hg : ∀ v, 1 ≤ v → v ≤ 200 → expo ps v = g v) (h0 : ∀ v, 1 ≤ v → v ≤ 200 → 0 ≤ g v) : ofE g = ps := OfE.eq (ofE_ok g) h hg h0
def orM (ps : List (Int × Int)) : List (Int × Int) := if mayM 0 ps = true then ps else []
theorem orM_may (ps : List (Int × Int)) : mayM 0 (orM ps) = true := by
 unfold orM
 by_cases h : mayM 0 ps = true
 ·rw [if_pos h]; exact h
 ·rw [if_neg h]; rfl
theorem orM_yes {ps : List (Int × Int)} (h : mayM 0 ps = true) : orM ps = ps := if_pos h
theorem orM_no {ps : List (Int × Int)} (h : mayM 0 ps = false) : orM ps = [] := if_neg (by simp [h])
def exE (ps : List (Int × Int)) (v : Int) : Int := expo (orM ps) v
def ordT : List (Int × Int × Int) → Int
 | [] => 0
 | t :: r => if ordT r = 0 then (if t.2.1 < t.2.2 then -1 else if t.2.2 < t.2.1 then 1 else 0) else ordT r
def IsCmp (c : Int) (f g : Int → Int) : Prop :=
 (c = 0 ∧ ∀ v, f v = g v) ∨ (∃ v, c = -1 ∧ f v < g v ∧ ∀ u, v < u → f u = g u) ∨ ∃ v, c = 1 ∧ g v < f v ∧ ∀ u, v < u → f u = g u
theorem IsCmp.unique {c d : Int} {f g : Int → Int} (h : IsCmp c f g) (k : IsCmp d f g) : c = d := by
 rcases h with ⟨rfl, h⟩ | ⟨v, rfl, h1, h2⟩ | ⟨v, rfl, h1, h2⟩ <;> rcases k with ⟨rfl, k⟩ | ⟨u, rfl, k1, k2⟩ | ⟨u, rfl, k1, k2⟩
 ·rfl
 ·have := h u; omega
 ·have := h u; omega
 ·have := k v; omega
 ·rfl
 ·rcases Int.lt_trichotomy u v with e | e | e
  ·have := k2 v e; omega
  ·subst e; omega
  ·have := h2 u e; omega
 ·have := k v; omega
 ·rcases Int.lt_trichotomy u v with e | e | e
  ·have := k2 v e; omega
  ·subst e; omega
  ·have := h2 u e; omega
 ·rfl
theorem ordT_step {v x y : Int} {ts : List (Int × Int × Int)} {f g f' g' : Int → Int} (h : IsCmp (ordT ts) f g) (hf : ∀ u, u ≠ v → f' u = f u) (hg : ∀ u, u ≠ v → g' u = g u) (hfv : f' v = x) (hgv : g' v = y)
  (hlo : f v = g v) (hl : ∀ u, u < v → f u = g u) : IsCmp (ordT ((v, x, y) :: ts)) f' g' := by
 unfold ordT
 rcases h with ⟨h0, h⟩ | ⟨w, h0, h1, h2⟩ | ⟨w, h0, h1, h2⟩
 ·rw [if_pos h0]
  have hs : ∀ u, u ≠ v → f' u = g' u := fun u hu => by rw [hf u hu, hg u hu]; exact h u
  rcases Int.lt_trichotomy x y with e | e | e
  ·rw [if_pos e]; exact .inr (.inl ⟨v, rfl, by rw [hfv, hgv]; exact e, fun u hu => hs u (by omega)⟩)
  ·rw [if_neg (by simp [e]), if_neg (by simp [e])]
   exact .inl ⟨rfl, fun u => by
    by_cases hu : u = v
    ·subst hu; rw [hfv, hgv, e]
    ·exact hs u hu⟩
  ·rw [if_neg (by simp; omega), if_pos e]; exact .inr (.inr ⟨v, rfl, by rw [hfv, hgv]; exact e, fun u hu => hs u (by omega)⟩)
 ·have hw : v < w := by
   rcases Int.lt_trichotomy v w with e | e | e
   ·exact e
   ·subst e; omega
   ·have := hl w e; omega
  rw [if_neg (by omega)]
  exact .inr (.inl ⟨w, h0, by rw [hf w (by omega), hg w (by omega)]; exact h1, fun u hu => by rw [hf u (by omega), hg u (by omega)]; exact h2 u hu⟩)
 ·have hw : v < w := by
   rcases Int.lt_trichotomy v w with e | e | e
   ·exact e
   ·subst e; omega
   ·have := hl w e; omega
  rw [if_neg (by omega)]
  exact .inr (.inr ⟨w, h0, by rw [hf w (by omega), hg w (by omega)]; exact h1, fun u hu => by rw [hf u (by omega), hg u (by omega)]; exact h2 u hu⟩)
theorem ord_spec : ∀ (n : Nat) (xs ys : List (Int × Int)) (lo : Int), xs.length + ys.length ≤ n → risM lo xs → risM lo ys → IsCmp (ordT (tri xs ys)) (expo xs) (expo ys)
 | n, [], [], lo, _, _, _ => by simp [tri, ordT, IsCmp, expo]
 | 0, p :: r, _, _, hn, _, _ => by simp at hn
 | 0, [], q :: s, _, hn, _, _ => by simp at hn
 | n + 1, [], q :: s, lo, hn, hx, hy => by
  have ih := ord_spec n [] s q.1 (by simp at hn ⊢; omega) trivial hy.2.2.2
  rw [tri_nil_left] at ih ⊢
  exact ordT_step ih (fun _ _ => rfl) (fun u hu => by simp [expo, Ne.symm hu]) rfl (by simp [expo]) (ris_low hy.2.2.2 (Int.le_refl _)).symm (fun u hu => (ris_low hy.2.2.2 (by omega)).symm)
 | n + 1, p :: r, [], lo, hn, hx, hy => by
  have ih := ord_spec n r [] p.1 (by simp at hn ⊢; omega) hx.2.2.2 trivial
  rw [tri_nil_right] at ih ⊢
  exact ordT_step ih (fun u hu => by simp [expo, Ne.symm hu]) (fun _ _ => rfl) (by simp [expo]) rfl (ris_low hx.2.2.2 (Int.le_refl _)) (fun u hu => (ris_low hx.2.2.2 (by omega)))
 | n + 1, p :: r, q :: s, lo, hn, hx, hy => by
  rcases Int.lt_trichotomy p.1 q.1 with h | h | h
  ·have hq : risM p.1 (q :: s) := ⟨h, hy.2⟩
   have ih := ord_spec n r (q :: s) p.1 (by simp at hn ⊢; omega) hx.2.2.2 hq
   rw [tri_lt _ _ h]
   exact ordT_step ih (fun u hu => by simp [expo, Ne.symm hu]) (fun _ _ => rfl) (by simp [expo]) (ris_low hq (Int.le_refl _)) (by rw [ris_low hx.2.2.2 (Int.le_refl _), ris_low hq (Int.le_refl _)]) (fun u hu => by rw [ris_low hx.2.2.2 (by omega), ris_low hq (by omega)])
  ·have hq : risM p.1 s := h ▸ hy.2.2.2
   have ih := ord_spec n r s p.1 (by simp at hn ⊢; omega) hx.2.2.2 hq
   rw [tri_eq _ _ h]
   exact ordT_step ih (fun u hu => by simp [expo, Ne.symm hu]) (fun u hu => by simp [expo, ← h, Ne.symm hu]) (by simp [expo]) (by simp [expo, h]) (by rw [ris_low hx.2.2.2 (Int.le_refl _), ris_low hq (Int.le_refl _)]) (fun u hu => by rw [ris_low hx.2.2.2 (by omega), ris_low hq (by omega)])
  ·have hp : risM q.1 (p :: r) := ⟨h, hx.2⟩
   have ih := ord_spec n (p :: r) s q.1 (by simp at hn ⊢; omega) hp hy.2.2.2
   rw [tri_gt _ _ h]
   exact ordT_step ih (fun _ _ => rfl) (fun u hu => by simp [expo, Ne.symm hu]) (ris_low hp (Int.le_refl _)) (by simp [expo]) (by rw [ris_low hp (Int.le_refl _), ris_low hy.2.2.2 (Int.le_refl _)]) (fun u hu => by rw [ris_low hp (by omega), ris_low hy.2.2.2 (by omega)])
def cmpM (xs ys : List (Int × Int)) : Int := ordT (tri xs ys)
theorem cmpM_is {xs ys : List (Int × Int)} (hx : mayM 0 xs = true) (hy : mayM 0 ys = true) : IsCmp (cmpM xs ys) (expo xs) (expo ys) := ord_spec _ xs ys 0 (Nat.le_refl _) (may_ris hx) (may_ris hy)
def lastD (o : Int) : List (Int × Int × Int) → Int
 | [] => o
 | t :: r => lastD (if t.2.1 < t.2.2 then -1 else if t.2.2 < t.2.1 then 1 else o) r
theorem lastD_ord (o : Int) : ∀ ts, lastD o ts = if ordT ts = 0 then o else ordT ts
 | [] => by simp [lastD, ordT]
 | t :: r => by
  rw [lastD, lastD_ord _ r, ordT]
  by_cases h : ordT r = 0
  ·simp only [if_pos h]
   by_cases h1 : t.2.1 < t.2.2
   ·simp [h1]
   ·by_cases h2 : t.2.2 < t.2.1
    ·simp [h1, h2]
    ·simp [h1, h2]
  ·simp only [if_neg h]
theorem lastD_append (o : Int) : ∀ a b : List (Int × Int × Int), lastD o (a ++ b) = lastD (lastD o a) b
 | [], _ => rfl
 | _ :: r, b => by simp only [List.cons_append, lastD]; exact lastD_append _ r b
theorem lastD_zero (ts : List (Int × Int × Int)) : lastD 0 ts = ordT ts := by
 rw [lastD_ord]
 by_cases h : ordT ts = 0
 ·rw [if_pos h, h]
 ·rw [if_neg h]
def clsM : List (Int × Int) → Int
 | [] => 0
 | p :: r => if r = [] then p.1 else clsM r
def joinR (f : Int → Int → Int) (er : Int) (xs ys : List (Int × Int)) : List (Int × Int) × Int :=
 if mayM 0 xs = true ∧ mayM 0 ys = true then (if mayM 0 (joinL f xs ys) = true then (joinL f xs ys, 0) else ([], er)) else ([], 2)
end Go.Proofs.YtmmgipcacceakaaGreat

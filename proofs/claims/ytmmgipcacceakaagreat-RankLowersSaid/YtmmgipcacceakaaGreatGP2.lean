/- PMay, PMayP, PlOrd, PlAt, PlRw, PlNum, PlEach, PlOwn, PlRow, PlGrow, PlDel -/
import Derived.Test.YtmmgipcacceakaaGreatGP1
set_option maxHeartbeats 40000000
set_option maxRecDepth 100000
namespace Go.Proofs.YtmmgipcacceakaaGreat
open Go.RowKit
def mayT (t : Raw) : Bool := mayB t.1.1 t.1.2.length t.1.2 && !(t.1.2.length == 0) && mayM 0 t.2
def okAt (ps : List Raw) (t : Nat) : Bool := mayT (ps.getD t rawZ) && (t == 0 || cmpM (ps.getD (t - 1) rawZ).2 (ps.getD t rawZ).2 == 1)
def mayR (ps : List Raw) : Bool := decide (∀ t, t < ps.length → okAt ps t = true)
theorem mayR_no {ps : List Raw} (t : Nat) (ht : t < ps.length) (h : okAt ps t = false) : mayR ps = false := decide_eq_false fun g => by rw [g t ht] at h; cases h
theorem rawD {ps : List Raw} {t : Nat} (h : t < ps.length) : ps.getD t rawZ = ps[t] := by simp [List.getD, List.getElem?_eq_getElem h]
theorem fall_of_adj : ∀ p : List Term, (∀ t ∈ p, t.1 ≠ 0 ∧ mayM 0 t.2 = true) → (∀ i, i + 1 < p.length → gtM (p.getD i (0, [])).2 (p.getD (i + 1) (0, [])).2) → fall p
 | [], _, _ => trivial
 | [t], h, _ => by
  refine ⟨(h t (by simp)).1, (h t (by simp)).2, ?_, trivial⟩
  intro s hs
  cases hs
 | t :: s :: r, h, ha => by
  have ih := fall_of_adj (s :: r) (fun u hu => h u (by simp [hu])) (fun i hi => by
   have := ha (i + 1) (by simpa using hi)
   simpa using this)
  have h0 : gtM t.2 s.2 := by
   have := ha 0 (by simp)
   simpa using this
  refine ⟨(h t (by simp)).1, (h t (by simp)).2, fun u hu => ?_, ih⟩
  rcases List.mem_cons.1 hu with rfl | hu
  ·exact h0
  ·exact gtM_trans h0 (ih.2.2.1 u hu)
theorem fall_adj : ∀ {p : List Term}, fall p → ∀ i, i + 1 < p.length → gtM (p.getD i (0, [])).2 (p.getD (i + 1) (0, [])).2
 | t :: s :: r, h, 0, _ => by
  have := h.2.2.1 s (by simp)
  simpa using this
 | t :: r, h, i + 1, hi => by
  have := fall_adj h.2.2.2 i (by simpa using hi)
  simpa using this
 | [t], _, 0, hi => by simp at hi
theorem mayT_yes {t : Raw} (hw : Wf t.1.2) (h : mayT t = true) : t = rawC (rawV t) ∧ (rawV t).1 ≠ 0 ∧ mayM 0 t.2 = true := by
 unfold mayT at h
 rw [Bool.and_eq_true, Bool.and_eq_true, mayB_iff hw] at h; obtain ⟨⟨h1, h2⟩, h3⟩ := h
 have h1 := of_decide_eq_true h1
 refine ⟨?_, fun h0 => ?_, h3⟩
 ·obtain ⟨⟨m, xs⟩, ps⟩ := t
  exact Prod.ext (Prod.ext h1.1 h1.2) rfl
 ·have h4 : zOf t.1.1 (val t.1.2) = 0 := h0
  rw [h4] at h1; rw [h1.2] at h2
  simp [limbs_zero] at h2
theorem mayT_rawC {t : Term} (h0 : t.1 ≠ 0) (hm : mayM 0 t.2 = true) : mayT (rawC t) = true := by
 unfold mayT
 rw [Bool.and_eq_true, Bool.and_eq_true]
 refine ⟨⟨?_, ?_⟩, hm⟩
 ·show mayB (decide (t.1 < 0)) (limbs t.1.natAbs).length (limbs t.1.natAbs) = true
  rw [mayB_iff (wf_limbs _)]
  simp only [val_limbs, zOf_can]
  simp
 ·have hl : (limbs t.1.natAbs).length ≠ 0 := fun e => by
   have h := val_limbs t.1.natAbs; rw [List.eq_nil_of_length_eq_zero e, val_nil] at h
   omega
  unfold rawC
  simpa using hl
theorem getD_map {α β : Type} (f : α → β) (d : α) (e : β) (l : List α) (i : Nat) (hi : i < l.length) : (l.map f).getD i e = f (l.getD i d) := by
 simp [List.getD, List.getElem?_eq_getElem hi]
theorem mayR_yes {ps : List Raw} (hw : ∀ t ∈ ps, Wf t.1.2) (h : mayR ps = true) : fall (ps.map rawV) ∧ ps = (ps.map rawV).map rawC := by
 have h := of_decide_eq_true h
 have hT : ∀ i, i < ps.length → mayT (ps.getD i rawZ) = true := fun i hi => by
  have := h i hi
  unfold okAt at this
  rw [Bool.and_eq_true] at this
  exact this.1
 have hM : ∀ t ∈ ps, mayT t = true := fun t ht => by
  obtain ⟨i, hi, rfl⟩ := List.getElem_of_mem ht; rw [← rawD hi]
  exact hT i hi
 refine ⟨fall_of_adj _ (fun t ht => ?_) (fun i hi => ?_), ?_⟩
 ·obtain ⟨s, hs, rfl⟩ := List.mem_map.1 ht
  exact (mayT_yes (hw s hs) (hM s hs)).2
 ·rw [List.length_map] at hi
  rw [getD_map rawV rawZ (0, []) ps i (by omega), getD_map rawV rawZ (0, []) ps (i + 1) hi]
  have h1 := h (i + 1) hi
  unfold okAt at h1
  rw [Bool.and_eq_true, show i + 1 - 1 = i from rfl] at h1
  have h2 : cmpM (ps.getD i rawZ).2 (ps.getD (i + 1) rawZ).2 = 1 := by simpa using h1.2
  have hm : ∀ j, j < ps.length → mayM 0 (ps.getD j rawZ).2 = true := fun j hj => by
   rw [rawD hj]
   exact (mayT_yes (hw _ (List.getElem_mem _)) (hM _ (List.getElem_mem hj))).2.2
  exact cmp_gt (hm i (by omega)) (hm (i + 1) hi) h2
 ·rw [List.map_map]
  conv => lhs; rw [← List.map_id ps]
  exact List.map_congr_left fun t ht => (mayT_yes (hw t ht) (hM t ht)).1
theorem mayR_rawC {p : List Term} (h : fall p) : mayR (p.map rawC) = true := by
 refine decide_eq_true fun i hi => ?_
 rw [List.length_map] at hi
 have hm : ∀ j, j < p.length → (p.getD j (0, [])).1 ≠ 0 ∧ mayM 0 (p.getD j (0, [])).2 = true := fun j hj => by
  have e : p.getD j (0, []) = p[j] := by simp [List.getD, List.getElem?_eq_getElem hj]
  rw [e]
  exact ⟨fall_nz h _ (List.getElem_mem _), fall_may h _ (List.getElem_mem _)⟩
 unfold okAt
 rw [getD_map rawC (0, []) rawZ p i hi, mayT_rawC (hm i hi).1 (hm i hi).2]
 cases i with
 | zero => rfl
 | succ j =>
  rw [show j + 1 - 1 = j from rfl, getD_map rawC (0, []) rawZ p j (by omega)]
  have := gt_cmp (hm j (by omega)).2 (hm (j + 1) hi).2 (fall_adj h j hi)
  simp [rawC] at this ⊢
  exact this
theorem box1 (w : World) (u : List Value) (S : TypeId) : AtN (w.alloc (.cells u.toArray S)) w.heap.size u S ∧ Below w.heap.size w (w.alloc (.cells u.toArray S)) :=
 ⟨AtN.new w u S, below_alloc w _⟩
theorem box2 (w : World) (u v : List Value) (S T : TypeId) :
  AtN ((w.alloc (.cells u.toArray S)).alloc (.cells v.toArray T)) w.heap.size u S ∧ AtN ((w.alloc (.cells u.toArray S)).alloc (.cells v.toArray T)) (w.heap.size + 1) v T ∧ Below w.heap.size w ((w.alloc (.cells u.toArray S)).alloc (.cells v.toArray T)) := by
 have h1 := AtN.new (w.alloc (.cells u.toArray S)) v T; rw [World.size_alloc] at h1
 exact ⟨(AtN.new w u S).below (below_alloc _ _), h1, ((Below.refl _ w).alloc (Nat.le_refl _) _).alloc (by simp) _⟩
theorem order_any [Ol] (z : Int) {xm ym : Bool} {xa ya xp yp : Option Addr} {xn xc xq xr yn yc yq yr : Nat} {ps qs : List (Int × Int)} {w : World} (hx : Ml w xp xq xr ps) (hy : Ml w yp yq yr qs) (h1 : mayM 0 ps = true) (h2 : mayM 0 qs = true) (hz : cmpM ps qs = z) :
  Calls Tryz.prog 58 #[.agg #[.bool xm, .slice xa xn xc, .slice xp xq xr], .agg #[.bool ym, .slice ya yn yc, .slice yp yq yr]] w (RetB (.int .i64 z) w) := by
 have HX := Lib.hid hx; have HY := Lib.hid hy
 have HZ : Hid (cmpR ps qs = (z, 0)) := by unfold cmpR; rw [Hid, if_pos ⟨h1, h2⟩, hz]
 clear hx hy h1 h2 hz
 go_enter Tryz.func58, Tryz.ntmps58
 go_upto_region 1 with (fail)
 refine wp_world (fun W hW => ?_)
 obtain ⟨a1, a2, hB⟩ := box2 w [.bool xm, .slice xa xn xc, .slice xp xq xr] [.bool ym, .slice ya yn yc, .slice yp yq yr] 56 56; rw [← hW] at a1 a2 hB; clear hW; have c1 := a1.cell 2; have c2 := a2.cell 2
 simp only [List.getElem?_cons_succ, List.getElem?_cons_zero] at c1 c2
 have HB := Lib.hid hB; clear a1 a2 hB; go_wp2_with fail; refine (compare_is z 0 (HX.out.below HB.out) (HY.out.below HB.out) HZ.out).mono ?_; rintro e w' ⟨rfl, hB⟩; have HB2 := Lib.hid (Below.steps HB.out hB); clear hB HB c1 c2; go_wp2_with fail
 go_ret
 exact ⟨rfl, HB2.out⟩
def Cell3 (w : World) (b o : Nat) (u0 u1 u2 : Value) : Prop := ∀ V : World, Below w.heap.size w V → V.cell? ⟨b, o, none⟩ = some u0 ∧ V.cell? ⟨b, o + 1, none⟩ = some u1 ∧ V.cell? ⟨b, o + 2, none⟩ = some u2
theorem Gl.cell3 [Ol] {w : World} {b off n cap : Nat} {vss : List (List Value)} (h : Gl 3 w (some ⟨b, off, none⟩) n cap vss) {k : Nat} (hk : k < n) {u0 u1 u2 : Value} (e : vss.getD k [] = [u0, u1, u2]) : Cell3 w b (off + k * 3) u0 u1 u2 := by
 intro V hV
 have hc := fun j hj => (h.below hV).cells _ rfl k hk j hj
 have h0 := hc 0 (by omega)
 have h1 := hc 1 (by omega)
 have h2 := hc 2 (by omega)
 rw [e] at h0 h1 h2; rw [Addr.add_lit] at h0 h1 h2
 rw [← Nat.add_assoc] at h0 h1 h2
 exact ⟨h0, h1, h2⟩
theorem Gl.some_of [Ol] {sz : Nat} {w : World} {ao : Option Addr} {n cap : Nat} {vss : List (List Value)} (h : Gl sz w ao n cap vss) (hn : 0 < n) : ∃ b off, ao = some ⟨b, off, none⟩ ∧ b < w.heap.size := by
 obtain ⟨b, off, h1, h2, _⟩ := h.at hn
 exact ⟨b, off, h1, h2⟩
theorem Pr.at [Ol] {w : World} {ao : Option Addr} {n cap : Nat} {ps : List Raw} (h : Pr w ao n cap ps) {k : Nat} (hk : k < n) :
  ∃ b off xa xn xc xp xq xr, ao = some ⟨b, off, none⟩ ∧ b < w.heap.size ∧ Cell3 w b (off + k * 3) (.bool (ps.getD k rawZ).1.1) (.slice xa xn xc) (.slice xp xq xr) ∧ Sl w xa xn xc (ps.getD k rawZ).1.2 ∧ Ml w xp xq xr (ps.getD k rawZ).2 := by
 have hl := h.len; obtain ⟨vss, hG, hT⟩ := h.ex
 obtain ⟨b, off, rfl, hb⟩ := hG.some_of (by omega)
 obtain ⟨xa, xn, xc, xp, xq, xr, hv, h1, h2⟩ := Tms.get rawZ hT k (by omega)
 exact ⟨b, off, xa, xn, xc, xp, xq, xr, rfl, hb, hG.cell3 hk hv, h1, h2⟩
theorem Pc.at [Ol] {K : Nat} {w : World} {ao : Option Addr} {n cap : Nat} {p : List Term} (h : Pc K w ao n cap p) {k : Nat} (hk : k < n) :
  ∃ b off xm xa xn xc xp xq xr, ao = some ⟨b, off, none⟩ ∧ b < w.heap.size ∧ Cell3 w b (off + k * 3) (.bool xm) (.slice xa xn xc) (.slice xp xq xr) ∧ Cn w xm xa xn xc (p.getD k (0, [])).1 ∧ Bd (p.getD k (0, [])).1 K ∧ Ml w xp xq xr (p.getD k (0, [])).2 := by
 have hl := h.len; obtain ⟨vss, hG, hT⟩ := h.ex
 obtain ⟨b, off, rfl, hb⟩ := hG.some_of (by omega)
 obtain ⟨xm, xa, xn, xc, xp, xq, xr, hv, h1, h2, h3⟩ := Tms.get (0, []) hT k (by omega)
 exact ⟨b, off, xm, xa, xn, xc, xp, xq, xr, rfl, hb, hG.cell3 hk hv, h1, h2, h3⟩
theorem Pi.at [Ol] {K : Nat} {w : World} {ao : Option Addr} {n cap : Nat} {p : List Term} (h : Pi K w ao n cap p) {k : Nat} (hk : k < n) :
  ∃ b off xm xa xn xc xp xq xr, ao = some ⟨b, off, none⟩ ∧ b < w.heap.size ∧ Cell3 w b (off + k * 3) (.bool xm) (.slice xa xn xc) (.slice xp xq xr) ∧ In w xm xa xn xc (p.getD k (0, [])).1 ∧ xn ≤ K ∧ Ml w xp xq xr (p.getD k (0, [])).2 := by
 have hl := h.len; obtain ⟨vss, hG, hT⟩ := h.ex
 obtain ⟨b, off, rfl, hb⟩ := hG.some_of (by omega)
 obtain ⟨xm, xa, xn, xc, xp, xq, xr, hv, h1, h2, h3⟩ := Tms.get (0, []) hT k (by omega)
 exact ⟨b, off, xm, xa, xn, xc, xp, xq, xr, rfl, hb, hG.cell3 hk hv, h1, h2, h3⟩
theorem getD_of {α : Type} {l : List α} {k : Nat} (d : α) (h : k < l.length) : l.getD k d = l[k] := by simp [List.getD, List.getElem?_eq_getElem h]
theorem getD_in {α : Type} {l : List α} {k : Nat} (d : α) (h : k < l.length) : l.getD k d ∈ l := by rw [getD_of d h]; exact List.getElem_mem _
theorem AtN.c3 {w : World} {b : Nat} {u0 u1 u2 : Value} {T : TypeId} (h : AtN w b [u0, u1, u2] T) : w.cell? ⟨b, 0, none⟩ = some u0 ∧ w.cell? ⟨b, 1, none⟩ = some u1 ∧ w.cell? ⟨b, 2, none⟩ = some u2 := ⟨h.cell 0, h.cell 1, h.cell 2⟩
theorem AtN.f3 {w : World} {b : Nat} {u0 u1 u2 : Value} {T : TypeId} (h : AtN w b [u0, u1, u2] T) : w.frozen? ⟨b, 0, none⟩ = false ∧ w.frozen? ⟨b, 1, none⟩ = false ∧ w.frozen? ⟨b, 2, none⟩ = false := ⟨h.fz 0, h.fz 1, h.fz 2⟩
theorem AtN.c1 {w : World} {b : Nat} {u0 : Value} {T : TypeId} (h : AtN w b [u0] T) : w.cell? ⟨b, 0, none⟩ = some u0 := h.cell 0
theorem AtN.f1 {w : World} {b : Nat} {u0 : Value} {T : TypeId} (h : AtN w b [u0] T) : w.frozen? ⟨b, 0, none⟩ = false := h.fz 0
theorem AtN.c2 {w : World} {b : Nat} {u0 u1 : Value} {T : TypeId} (h : AtN w b [u0, u1] T) : w.cell? ⟨b, 0, none⟩ = some u0 ∧ w.cell? ⟨b, 1, none⟩ = some u1 := ⟨h.cell 0, h.cell 1⟩
theorem mayT_sign {xm : Bool} {xs : List Nat} {xps : List (Int × Int)} (hw : Wf xs) : mayT ((xm, xs), xps) = (mayB xm xs.length xs && !((zOf xm (val xs)).sign == 0) && mayM 0 xps) := by
 unfold mayT
 show (mayB xm xs.length xs && !(xs.length == 0) && mayM 0 xps) = _
 cases hA : mayB xm xs.length xs with
 | false => rfl
 | true =>
  rw [mayB_iff hw] at hA; have h2 := (of_decide_eq_true hA).2
  congr 2
  congr 1
  by_cases h0 : zOf xm (val xs) = 0
  ·rw [h0] at h2 ⊢
   rw [h2]
   rfl
  ·have h3 : (zOf xm (val xs)).sign ≠ 0 := fun e => h0 (Int.sign_eq_zero_iff_zero.1 e)
   have h4 : xs.length ≠ 0 := fun e => by
    have e2 : xs = [] := List.eq_nil_of_length_eq_zero e
    rw [e2] at h0
    exact h0 (by cases xm <;> rfl)
   rw [show (xs.length == 0) = false from by simpa using h4, show ((zOf xm (val xs)).sign == 0) = false from by simpa using h3]
def Clean (L : List Value) : Prop := ∀ u ∈ L, notInt u = true
def putL : List Value → Nat → List Value → List Value
 | L, _, [] => L
 | L, o, v :: r => putL (L.set o v) (o + 1) r
theorem putL_length : ∀ (vs L : List Value) (o : Nat), (putL L o vs).length = L.length
 | [], _, _ => rfl
 | v :: r, L, o => by rw [putL, putL_length r, List.length_set]
theorem putL_out : ∀ (vs L : List Value) (o i : Nat), i < o ∨ o + vs.length ≤ i → (putL L o vs)[i]? = L[i]?
 | [], _, _, _, _ => rfl
 | v :: r, L, o, i, h => by
  rw [putL, putL_out r _ _ i (by simp at h; omega), List.getElem?_set_ne (by simp at h; omega)]
theorem putL_in : ∀ (vs L : List Value) (o i : Nat), o ≤ i → i < o + vs.length → i < L.length → (putL L o vs)[i]? = vs[i - o]?
 | [], _, _, _, h, h2, _ => by simp at h2; omega
 | v :: r, L, o, i, h, h2, h3 => by
  rw [putL]
  by_cases e : i = o
  ·subst e
   rw [putL_out r _ _ _ (by omega), Nat.sub_self, List.getElem?_set_self (by omega)]
   rfl
  ·rw [putL_in r _ _ i (by omega) (by simp at h2; omega) (by rw [List.length_set]; exact h3), show i - o = (i - (o + 1)) + 1 by omega]
   rfl
theorem clean_set {L : List Value} (h : Clean L) (o : Nat) {v : Value} (hv : notInt v = true) : Clean (L.set o v) := fun u hu => by
 rcases List.mem_or_eq_of_mem_set hu with h1 | h1
 ·exact h u h1
 ·rw [h1]; exact hv
theorem clean_put : ∀ (vs L : List Value) (o : Nat), Clean L → Clean vs → Clean (putL L o vs)
 | [], _, _, h, _ => h
 | v :: r, L, o, h, hv => clean_put r _ _ (clean_set h o (hv v (by simp))) fun u hu => hv u (by simp [hu])
def Seg (sz : Nat) (L : List Value) (off : Nat) (X : List (List Value)) : Prop := ∀ t, t < X.length → ∀ j, j < sz → L[off + t * sz + j]? = (X.getD t [])[j]?
theorem Seg.nil (sz : Nat) (L : List Value) (off : Nat) : Seg sz L off [] := fun t ht => by simp at ht
theorem Seg.far {sz : Nat} {L : List Value} {off : Nat} {X : List (List Value)} (h : Seg sz L off X) {o : Nat} {vs : List Value} (hf : o + vs.length ≤ off ∨ off + X.length * sz ≤ o) : Seg sz (putL L o vs) off X := fun t ht j hj => by
 rw [putL_out _ _ _ _ ?_]
 ·exact h t ht j hj
 ·have : (t + 1) * sz ≤ X.length * sz := Nat.mul_le_mul_right _ ht
  rw [Nat.add_mul] at this
  omega
theorem Seg.append {sz : Nat} {L : List Value} {off : Nat} {X Y : List (List Value)} (h : Seg sz L off X) (h2 : Seg sz L (off + X.length * sz) Y) : Seg sz L off (X ++ Y) := fun t ht j hj => by
 by_cases ht2 : t < X.length
 ·rw [h t ht2 j hj]
  simp [List.getD, List.getElem?_append_left ht2]
 ·rw [List.length_append] at ht
  obtain ⟨s, rfl⟩ : ∃ s, t = X.length + s := ⟨t - X.length, by omega⟩
  have := h2 s (by omega) j hj
  rw [show off + (X.length + s) * sz + j = off + X.length * sz + s * sz + j by rw [Nat.add_mul]; omega, this]
  simp [List.getD, List.getElem?_append_right]
theorem Seg.take {sz : Nat} {L : List Value} {off : Nat} {X : List (List Value)} (h : Seg sz L off X) (k : Nat) : Seg sz L off (X.take k) := fun t ht j hj => by
 rw [List.length_take] at ht
 rw [h t (by omega) j hj]
 simp [List.getD, show t < k by omega]
theorem Seg.drop {sz : Nat} {L : List Value} {off : Nat} {X : List (List Value)} (h : Seg sz L off X) (k : Nat) : Seg sz L (off + k * sz) (X.drop k) := fun t ht j hj => by
 rw [List.length_drop] at ht
 have := h (k + t) (by omega) j hj
 rw [show off + k * sz + t * sz + j = off + (k + t) * sz + j by rw [Nat.add_mul]; omega, this]
 simp [List.getD]
theorem Seg.one {L : List Value} {o : Nat} {a b c : Value} (h : o + 2 < L.length) : Seg 3 (putL L o [a, b, c]) o [[a, b, c]] := fun t ht j hj => by
 simp at ht
 subst ht
 rw [putL_in _ _ _ _ (by omega) (by simp; omega) (by omega), show o + 0 * 3 + j - o = j by omega]
 rfl
theorem Seg.cons {sz : Nat} {L : List Value} {off : Nat} {x : List Value} {X : List (List Value)} (h : Seg sz L off [x]) (h2 : Seg sz L (off + sz) X) : Seg sz L off (x :: X) := by
 have := Seg.append h (Y := X) (by simpa using h2)
 simpa using this
theorem Seg.cast {sz : Nat} {L : List Value} {off off' : Nat} {X : List (List Value)} (h : Seg sz L off X) (e : off = off') : Seg sz L off' X := e ▸ h
theorem AtN.cleanB {w : World} {g : Nat} {L : List Value} {T : TypeId} (h : AtN w g L T) (hc : Clean L) : CleanB w g := fun cur T' fr hh u hu => by
 unfold AtN at h
 rw [h] at hh
 cases hh
 simp at hu
 exact hc u hu
theorem AtN.put {w : World} {g : Nat} {L : List Value} {T : TypeId} (h : AtN w g L T) : ∀ (vs : List Value) (o : Nat), AtN (w.setCells g o vs) g (putL L o vs) T := by
 intro vs
 induction vs generalizing w L with
 | nil => intro o; exact h
 | cons v r ih => intro o; exact ih (h.set o v) (o + 1)
theorem AtN.put3 {w : World} {g : Nat} {L : List Value} {T : TypeId} (h : AtN w g L T) (o : Nat) (a b c : Value) : AtN (((w.setCell ⟨g, o, none⟩ a).setCell ⟨g, o + 1, none⟩ b).setCell ⟨g, o + 2, none⟩ c) g (putL L o [a, b, c]) T := ((h.set o a).set (o + 1) b).set (o + 2) c
theorem grown_put3 (w : World) (g o : Nat) (a b c : Value) : w.grownBy (((w.setCell ⟨g, o, none⟩ a).setCell ⟨g, o + 1, none⟩ b).setCell ⟨g, o + 2, none⟩ c) (some g) :=
 ⟨rfl, rfl, rfl, by simp, fun k _ hk => by
  have hk2 : k ≠ g := fun e => hk (by rw [e])
  rw [Below.heap_setCell _ _ _ _ hk2, Below.heap_setCell _ _ _ _ hk2, Below.heap_setCell _ _ _ _ hk2]⟩
theorem grown_put1 (w : World) (g o : Nat) (a : Value) : w.grownBy (w.setCell ⟨g, o, none⟩ a) (some g) :=
 ⟨rfl, rfl, rfl, by simp, fun k _ hk => Below.heap_setCell _ _ _ _ (fun e => hk (by rw [e]))⟩
theorem grown_trans {w w1 w2 : World} {r : Option Nat} (h1 : w.grownBy w1 r) (h2 : w1.grownBy w2 r) : w.grownBy w2 r :=
 ⟨h2.os.trans h1.os, h2.tape.trans h1.tape, h2.output.trans h1.output, Nat.le_trans h1.size h2.size, fun k hk hne => (h2.block k (Nat.lt_of_lt_of_le hk h1.size) hne).trans (h1.block k hk hne)⟩
theorem grown_below {w w1 : World} (r : Option Nat) (h : Below w.heap.size w w1) : w.grownBy w1 r := ⟨h.os, h.tape, h.output, h.size, fun k hk _ => h.block k hk⟩
theorem AtN.apart {w w1 : World} {b : Nat} {L : List Value} {T : TypeId} (h : AtN w b L T) {r : Option Nat} (hg : w.grownBy w1 r) (hne : some b ≠ r) : AtN w1 b L T := h.keep (hg.block b h.lt hne)
theorem below_of_grown {B : Nat} {w w1 : World} {g : Nat} (h : w.grownBy w1 (some g)) (hB : B ≤ g) (hs : B ≤ w.heap.size) : Below B w w1 :=
 ⟨h.os, h.tape, h.output, h.size, fun k hk => h.block k (by omega) (fun e => by cases e; omega)⟩
structure Rw (B : Nat) (T : TypeId) (sz : Nat) (w : World) (ao : Option Addr) (n cap : Nat) (X : List (List Value)) : Prop where
 ex : (ao = none ∧ n = 0 ∧ cap = 0 ∧ X = []) ∨ ∃ g off L, ao = some ⟨g, off, none⟩ ∧ B ≤ g ∧ AtN w g L T ∧ Clean L ∧ off + cap * sz ≤ L.length ∧ n ≤ cap ∧ cap ≤ maxLen ∧ n ≤ 4398046511104 ∧ X.length = n ∧ Each sz X ∧ Seg sz L off X
theorem Rw.zero (B : Nat) (T : TypeId) (sz : Nat) (w : World) : Rw B T sz w none 0 0 [] := ⟨.inl ⟨rfl, rfl, rfl, rfl⟩⟩
theorem Rw.gl [Ol] {B : Nat} {T : TypeId} {sz : Nat} {w : World} {ao : Option Addr} {n cap : Nat} {X : List (List Value)} (h : Rw B T sz w ao n cap X) : Gl sz w ao n cap X := by
 rcases h.ex with ⟨rfl, rfl, rfl, rfl⟩ | ⟨g, off, L, rfl, _, hA, hcl, hl, hn, _, hb, hX, hE, hS⟩
 ·exact Gl.zero sz w
 ·refine Gl.of_cells hX hn hb hE (fun _ => hA.lt) (fun _ => Kp.cln (hA.cleanB hcl)) fun t ht j hj => ?_
  rw [hA.cell]
  exact hS t (by omega) j hj
theorem Rw.len [Ol] {B : Nat} {T : TypeId} {sz : Nat} {w : World} {ao : Option Addr} {n cap : Nat} {X : List (List Value)} (h : Rw B T sz w ao n cap X) : X.length = n := h.gl.len
theorem Rw.keep {B : Nat} {T : TypeId} {sz : Nat} {w w' : World} {ao : Option Addr} {n cap : Nat} {X : List (List Value)} (h : Rw B T sz w ao n cap X) (hk : ∀ a, ao = some a → w'.heap[a.block]? = w.heap[a.block]?) : Rw B T sz w' ao n cap X := by
 rcases h.ex with h1 | ⟨g, off, L, rfl, hB, hA, r⟩
 ·exact ⟨.inl h1⟩
 ·exact ⟨.inr ⟨g, off, L, rfl, hB, hA.keep (hk _ rfl), r⟩⟩
theorem Rw.below {B : Nat} {T : TypeId} {sz : Nat} {w w' : World} {ao : Option Addr} {n cap : Nat} {X : List (List Value)} (h : Rw B T sz w ao n cap X) (hb : Below w.heap.size w w') : Rw B T sz w' ao n cap X := by
 rcases h.ex with h1 | ⟨g, off, L, rfl, hB, hA, r⟩
 ·exact ⟨.inl h1⟩
 ·exact ⟨.inr ⟨g, off, L, rfl, hB, hA.below hb, r⟩⟩
theorem Rw.mono {B B' : Nat} {T : TypeId} {sz : Nat} {w : World} {ao : Option Addr} {n cap : Nat} {X : List (List Value)} (h : Rw B T sz w ao n cap X) (hB : B' ≤ B) : Rw B' T sz w ao n cap X := by
 rcases h.ex with h1 | ⟨g, off, L, rfl, hb, r⟩
 ·exact ⟨.inl h1⟩
 ·exact ⟨.inr ⟨g, off, L, rfl, by omega, r⟩⟩
def blk (ao : Option Addr) : Option Nat := ao.map (·.block)
theorem blk_own (ao : Option Addr) (n cap : Nat) : (Value.slice ao n cap).ownBlock = blk ao := by cases ao <;> rfl
theorem Rw.apart {B : Nat} {T : TypeId} {sz : Nat} {w w' : World} {ao : Option Addr} {n cap : Nat} {X : List (List Value)} (h : Rw B T sz w ao n cap X) {r : Option Nat} (hg : w.grownBy w' r) (hne : blk ao = none ∨ blk ao ≠ r) : Rw B T sz w' ao n cap X := by
 rcases h.ex with h1 | ⟨g, off, L, rfl, hB, hA, q⟩
 ·exact ⟨.inl h1⟩
 ·refine ⟨.inr ⟨g, off, L, rfl, hB, hA.apart hg ?_, q⟩⟩
  rcases hne with h2 | h2
  ·cases h2
  ·exact h2
theorem Rw.lt {B : Nat} {T : TypeId} {sz : Nat} {w : World} {ao : Option Addr} {n cap : Nat} {X : List (List Value)} (h : Rw B T sz w ao n cap X) : ∀ g, blk ao = some g → B ≤ g ∧ g < w.heap.size := by
 intro g hg
 rcases h.ex with ⟨rfl, _⟩ | ⟨g', off, L, rfl, hB, hA, q⟩
 ·cases hg
 ·cases hg; exact ⟨hB, hA.lt⟩
theorem Rw.cleanB {B : Nat} {T : TypeId} {sz : Nat} {w : World} {ao : Option Addr} {n cap : Nat} {X : List (List Value)} (h : Rw B T sz w ao n cap X) : ∀ g, blk ao = some g → CleanB w g := by
 intro g hg
 rcases h.ex with ⟨rfl, _⟩ | ⟨g', off, L, rfl, hB, hA, hc, q⟩
 ·cases hg
 ·cases hg; exact hA.cleanB hc
theorem Go1.rw [Ol] {B : Nat} {T : TypeId} {sz : Nat} {w : World} {ao : Option Addr} {n cap : Nat} {X : List (List Value)} (h : Go1 B T sz w ao n cap X) : Rw B T sz w ao n cap X := by
 rcases h.row.2 with ⟨hv, h0⟩ | ⟨g, cap', cur, hv, hg, hh, hn, hm, hs, ht⟩
 ·simp only [Value.slice.injEq] at hv
  obtain ⟨rfl, rfl, rfl⟩ := hv
  exact ⟨.inl ⟨rfl, rfl, rfl, List.eq_nil_of_length_eq_zero (by rw [h.len])⟩⟩
 ·simp only [Value.slice.injEq, true_and] at hv
  obtain ⟨rfl, rfl⟩ := hv
  refine ⟨.inr ⟨g, 0, cur.toList, rfl, hg, hh, h.cln g rfl cur T (0, 0) hh, by simp [hs], hn, hm, h.big, h.len, h.each, fun t ht2 j hj => ?_⟩⟩
  rw [← each_get h.each t j ht2 hj, ← ht, List.getElem?_take, Nat.zero_add, if_pos]
  have : (t + 1) * sz ≤ n * sz := Nat.mul_le_mul_right _ (by rw [← h.len]; exact ht2)
  rw [Nat.add_mul] at this
  omega
theorem tmsC_below [Ol] {K : Nat} {w w' : World} {X : List (List Value)} {p : List Term} (h : Tms (TmC K w) X p) (hb : Below w.heap.size w w') : Tms (TmC K w') X p := h.imp fun _ _ h => h.below hb
theorem tmsC_stays [Ol] {K : Nat} {w w' : World} {g : Nat} {X : List (List Value)} {p : List Term} (h : Tms (TmC K w) X p) (hc : CleanB w g) (hg : w.grownBy w' (some g)) : Tms (TmC K w') X p := h.imp fun _ _ h => h.staysC hc hg
theorem tmsC_mono [Ol] {K L : Nat} {w : World} {X : List (List Value)} {p : List Term} (h : Tms (TmC K w) X p) (hk : K ≤ L) : Tms (TmC L w) X p := h.imp fun _ _ h => h.mono hk
def Pw [Ol] (B K : Nat) (w : World) (ao : Option Addr) (n cap : Nat) (p : List Term) : Prop := ∃ X, Rw B 56 3 w ao n cap X ∧ Tms (TmC K w) X p
theorem Pw.pc [Ol] {B K : Nat} {w : World} {ao : Option Addr} {n cap : Nat} {p : List Term} (h : Pw B K w ao n cap p) : Pc K w ao n cap p := by
 obtain ⟨X, h1, h2⟩ := h
 exact ⟨X, h1.gl, h2⟩
theorem Pw.len [Ol] {B K : Nat} {w : World} {ao : Option Addr} {n cap : Nat} {p : List Term} (h : Pw B K w ao n cap p) : p.length = n := h.pc.len
theorem Pw.below [Ol] {B K : Nat} {w w' : World} {ao : Option Addr} {n cap : Nat} {p : List Term} (h : Pw B K w ao n cap p) (hb : Below w.heap.size w w') : Pw B K w' ao n cap p := by
 obtain ⟨X, h1, h2⟩ := h
 exact ⟨X, h1.below hb, tmsC_below h2 hb⟩
theorem Pw.mono [Ol] {B B' K K' : Nat} {w : World} {ao : Option Addr} {n cap : Nat} {p : List Term} (h : Pw B K w ao n cap p) (hB : B' ≤ B) (hK : K ≤ K') : Pw B' K' w ao n cap p := by
 obtain ⟨X, h1, h2⟩ := h
 exact ⟨X, h1.mono hB, tmsC_mono h2 hK⟩
theorem Pw.zero [Ol] (B K : Nat) (w : World) : Pw B K w none 0 0 [] := ⟨[], Rw.zero _ _ _ _, trivial⟩
def NewPw [Ol] (K : Nat) (w : World) (p : List Term) (e : Ending) (w' : World) : Prop := ∃ ao n cap, e = .returned (.slice ao n cap) ∧ Pw w.heap.size K w' ao n cap p ∧ Below w.heap.size w w'
def NewT [Ol] (K : Nat) (w : World) (t : Term) (e : Ending) (w' : World) : Prop := ∃ m ao n cap bo k cb, e = .returned (.agg #[.bool m, .slice ao n cap, .slice bo k cb]) ∧ (Cn w' m ao n cap t.1 ∧ Bd t.1 K ∧ Ml w' bo k cb t.2) ∧ Below w.heap.size w w'
theorem Cn.far {w : World} {m : Bool} {ao : Option Addr} {n cap : Nat} {z : Int} (h : Cn w m ao n cap z) {b : Nat} {L : List Value} {T : TypeId} (hA : AtN w b L T) (hc : Clean L) {w' : World} (hg : w.grownBy w' (some b)) : Cn w' m ao n cap z :=
 ⟨h.neg, h.sl.len, h.sl.le, h.sl.big, h.sl.wf, h.sl.nil, fun ad had t ht => hg.cell (h.sl.cells ad had t ht) fun eq => (AtN.cleanB hA hc).far (h.sl.cells ad had t ht) (Option.some.inj eq)⟩
theorem grown_put2 (w : World) (g o : Nat) (a b : Value) : w.grownBy ((w.setCell ⟨g, o, none⟩ a).setCell ⟨g, o + 1, none⟩ b) (some g) := grown_trans (grown_put1 w g o a) (grown_put1 _ g (o + 1) b)
theorem post_world {Q : World → Prop} {w : World} (h : ∀ W, W = w → Q W) : Q w := h w rfl
open Lib (hid)
theorem Tryz.info_term : (Tryz.prog.info? 56).map (fun i => (i.zero, i.size, i.bytes)) = some (some (.agg #[.bool false, .slice none 0 0, .slice none 0 0]), 3, 56) := by kernel_rfl
def zeroRow (n : Nat) : List Value := (madeCells #[.bool false, .slice none 0 0, .slice none 0 0] (n * 3)).toList
theorem zeroRow_len (n : Nat) : (zeroRow n).length = n * 3 := by simp [zeroRow, size_madeCells]
theorem zeroRow_clean (n : Nat) : Clean (zeroRow n) := by
 intro u hu
 simp only [zeroRow, madeCells, Array.toList_map, List.mem_map] at hu
 obtain ⟨j, _, rfl⟩ := hu
 have hj : j % 3 < 3 := Nat.mod_lt _ (by omega)
 show notInt ((#[Value.bool false, .slice none 0 0, .slice none 0 0] : Array Value)[j % 3]!) = true
 obtain ⟨i, hi⟩ : ∃ i, i = j % 3 := ⟨_, rfl⟩; rw [← hi] at hj ⊢
 match i, hj with
 | 0, _ => rfl
 | 1, _ => rfl
 | 2, _ => rfl
def EachOk [Ol] (K : Nat) (w : World) (g n k : Nat) (ts : List Term) (V : World) : Prop :=
 ∃ L Y, AtN V g L 56 ∧ Clean L ∧ L.length = n * 3 ∧ Seg 3 L 0 Y ∧ Each 3 Y ∧ Tms (TmC K V) Y (ts.take k) ∧ Below w.heap.size w V
theorem EachOk.step [Ol] {K : Nat} {w : World} {g n k : Nat} {ts : List Term} {V V' : World} (h : EachOk K w g n k ts V) (hb : Below V.heap.size V V') : EachOk K w g n k ts V' := by
 obtain ⟨L, Y, h1, h2, h3, h4, h5, h6, h7⟩ := h
 exact ⟨L, Y, h1.below hb, h2, h3, h4, h5, tmsC_below h6 hb, Below.steps h7 hb⟩
theorem EachOk.cells [Ol] {K : Nat} {w : World} {g n k : Nat} {ts : List Term} {V : World} (h : EachOk K w g n k ts V) (hk : k < n) :
  (∃ a b c, V.cell? ⟨g, k * 3, none⟩ = some a ∧ V.cell? ⟨g, k * 3 + 1, none⟩ = some b ∧ V.cell? ⟨g, k * 3 + 2, none⟩ = some c) ∧ V.frozen? ⟨g, k * 3, none⟩ = false ∧ V.frozen? ⟨g, k * 3 + 1, none⟩ = false ∧ V.frozen? ⟨g, k * 3 + 2, none⟩ = false := by
 obtain ⟨L, Y, h1, h2, h3, h4, h5, h6, h7⟩ := h
 have hl : (k + 1) * 3 ≤ n * 3 := Nat.mul_le_mul_right _ hk
 refine ⟨⟨_, _, _, (h1.cell (k * 3)).trans (List.getElem?_eq_getElem (by omega)), (h1.cell (k * 3 + 1)).trans (List.getElem?_eq_getElem (by omega)), (h1.cell (k * 3 + 2)).trans (List.getElem?_eq_getElem (by omega))⟩, h1.fz _, h1.fz _, h1.fz _⟩
theorem EachOk.put [Ol] {K : Nat} {w : World} {g n k : Nat} {ts : List Term} {V : World} (h : EachOk K w g n k ts V) (hk : k < n) (hts : ts.length = n) (hg : w.heap.size ≤ g) {m : Bool} {ao : Option Addr} {na cap : Nat} {bo : Option Addr} {l cb : Nat}
  (hC : Cn V m ao na cap (ts.getD k (0, [])).1) (hB : Bd (ts.getD k (0, [])).1 K) (hM : Ml V bo l cb (ts.getD k (0, [])).2) :
  EachOk K w g n (k + 1) ts (((V.setCell ⟨g, k * 3, none⟩ (.bool m)).setCell ⟨g, k * 3 + 1, none⟩ (.slice ao na cap)).setCell ⟨g, k * 3 + 2, none⟩ (.slice bo l cb)) := by
 obtain ⟨L, Y, h1, h2, h3, h4, h5, h6, h7⟩ := h
 have hl : (k + 1) * 3 ≤ n * 3 := Nat.mul_le_mul_right _ hk
 have hY : Y.length = k := by rw [h6.len, List.length_take]; omega
 have e : ts.take (k + 1) = ts.take k ++ [ts.getD k (0, [])] := by
  rw [List.take_succ_eq_append_getElem (by omega), getD_of _ (by omega)]
 have hGr := grown_put3 V g (k * 3) (.bool m) (.slice ao na cap) (.slice bo l cb)
 refine ⟨putL L (k * 3) [.bool m, .slice ao na cap, .slice bo l cb], Y ++ [[.bool m, .slice ao na cap, .slice bo l cb]], h1.put3 _ _ _ _, clean_put _ _ _ h2 (fun u hu => by simp at hu; rcases hu with rfl | rfl | rfl <;> rfl), by rw [putL_length, h3], ?_, h5.append (Each.mk1 rfl (fun u hu => by simp at hu; rcases hu with rfl | rfl | rfl <;> rfl)), ?_, ?_⟩
 ·refine Seg.append (h4.far (.inr (by rw [hY]; omega))) ?_
  rw [hY, Nat.zero_add]
  exact Seg.one (by omega)
 ·rw [e]
  refine Tms.append (tmsC_stays h6 (h1.cleanB h2) hGr) ⟨⟨m, ao, na, cap, bo, l, cb, rfl, hC.far h1 h2 hGr, hB, ?_⟩, trivial⟩
  exact ⟨hM.len, hM.le, hM.big, hM.wf, hM.nil, fun ad had t ht => ⟨hGr.cell (hM.cells ad had t ht).1 (fun eq => (h1.cleanB h2).far (hM.cells ad had t ht).1 (Option.some.inj eq)), hGr.cell (hM.cells ad had t ht).2 (fun eq => (h1.cleanB h2).far (hM.cells ad had t ht).2 (Option.some.inj eq))⟩, fun h0 ad had => by
   obtain ⟨x, hx⟩ := hM.int h0 had
   exact (hM.kp h0 ad had).grown (hM.blt h0 had) hGr fun eq => (h1.cleanB h2).far hx (Option.some.inj eq)⟩
 ·exact h7.trans (below_of_grown hGr hg h7.size)
theorem EachOk.done [Ol] {K : Nat} {w : World} {g n : Nat} {ts : List Term} {V : World} (h : EachOk K w g n n ts V) (hn : n ≤ 1000000) (hts : ts.length = n) (hg : g = w.heap.size) : NewPw K w ts (.returned (.slice (some ⟨g, 0, none⟩) n n)) V := by
 obtain ⟨L, Y, h1, h2, h3, h4, h5, h6, h7⟩ := h
 rw [List.take_of_length_le (by omega)] at h6
 refine ⟨_, _, _, rfl, ⟨Y, ⟨.inr ⟨g, 0, L, rfl, by omega, h1, h2, by omega, Nat.le_refl _, by unfold maxLen; omega, by omega, by rw [h6.len, hts], h5, h4⟩⟩, h6⟩, h7⟩
theorem each_any [Ol] {G : Nat} {lb : Array Value} (eg : ∀ args w, (callFunc G args).run Tryz.prog w = .ok (.enter G args) w) {K : Nat} {ao : Option Addr} {n cap : Nat} {vss : List (List Value)} {ts : List Term} {w : World} (hG : Gl 3 w ao n cap vss) (hn : n ≤ 1000000) (hts : ts.length = n) (hS : ∀ k, k < n → ∃ xm xa xn xc xp xq xr, vss.getD k [] = [.bool xm, .slice xa xn xc, .slice xp xq xr])
  (hF : ∀ k, k < n → ∀ W, Below w.heap.size w W → Calls Tryz.prog G (#[.agg (vss.getD k []).toArray] ++ lb) W (NewT K W (ts.getD k (0, [])))) :
  Calls Tryz.prog 95 #[.slice ao n cap, .func (.func G) #[] lb] w (NewPw K w ts) := by
 obtain ⟨i0, hi, hz0, hz1, hz2⟩ := info_parts Tryz.info_term
 have hmk : ∀ W : World, (Instr.makeSlice 25 (.int .i64 (n : Int)) (.int .i64 (n : Int))).run Tryz.prog W = .ok (.slice (some ⟨W.heap.size, 0, none⟩) n n) (W.alloc (.cells (zeroRow n).toArray 56)) := by
  intro W
  have h := run_make (P := Tryz.prog) W 25 56 i0 _ Tryz.underlying25 hi hz0 .i64 .i64 (n : Int) (n : Int) (by omega) (by omega) (by rw [hz2]; omega) (by omega)
  rw [h, hz1]
  simp [zeroRow]
  rfl
 have hle := hG.le; have HF := hid hF; have HSH := hid hS; have HG := hid hG; have HT := hid hts; have HN := hid hn; clear hF hG hts hS hi hz0 hz1 hz2
 go_enter Tryz.func95, Tryz.ntmps95
 go_upto_region 2 with (fail)
 refine wp_world (fun W hW => ?_)
 have HE : Hid (EachOk K w w.heap.size n 0 ts W) := by
  rw [hW]
  exact ⟨zeroRow n, [], AtN.new _ _ _, zeroRow_clean n, zeroRow_len n, Seg.nil _ _ _, (fun _ h => by cases h), by simp [Tms], below_alloc _ _⟩
 clear hW hmk
 go_wp2
 go_loopw [13] (fun i wr => ∃ k : Nat, i = .int .i64 k ∧ k ≤ n ∧ Hid (EachOk K w w.heap.size n k ts wr)) (fun i _ => n - (intOf i).toNat)
 case atStart => exact ⟨0, rfl, Nat.zero_le _, HE.out⟩
 case round =>
  clear HE; obtain ⟨k, rfl, hk, HE⟩ := hrel
  by_cases hkn : k < n
  ·obtain ⟨L, Y, _, _, _, _, _, _, hBw⟩ := HE.out
   have hGw := HG.out.below hBw
   obtain ⟨b, off, hao, hb, hc⟩ := hGw.at (by omega)
   subst hao; obtain ⟨xm, xa, xn, xc, xp, xq, xr, hv⟩ := HSH.out k hkn; obtain ⟨c0, c1, c2⟩ := hGw.cell3 hkn hv wr (Below.refl _ _); have HFk := HF.out k hkn; rw [hv] at HFk; have HFK := hid HFk; clear HFk hGw hc hv hBw
   go_upto_region 5 with (fail)
   refine wp_world (fun W hW => ?_)
   have a1 : AtN W wr.heap.size [.bool xm, .slice xa xn xc, .slice xp xq xr] 56 ∧ Below wr.heap.size wr W := by rw [hW]; exact box1 wr [.bool xm, .slice xa xn xc, .slice xp xq xr] 56
   clear hW c0 c1 c2; have HE1 := hid (HE.out.step a1.2); obtain ⟨c0, c1, c2⟩ := a1.1.c3; clear a1 HE; obtain ⟨L, Y, _, _, _, _, _, _, hBw⟩ := HE1.out; have HC := hid (HFK.out W hBw); clear hBw
   go_wp2_with (go_at_fn G; refine HC.out.mono ?_; rintro e w2 ⟨m, ra, rn, rc, rb, rk, rd, rfl, ⟨hC, hD, hM⟩, hB⟩; have HE2 := hid (HE1.out.step hB); have HM := hid (And.intro hC (And.intro hD hM)); obtain ⟨⟨v0, v1, v2, d0, d1, d2⟩, f0, f1, f2⟩ := HE2.out.cells hkn; clear c0 c1 c2 hC hD hM hB HE1)
   go_roundw
   case rel => exact ⟨k + 1, by go_num, by omega, HE2.out.put hkn HT.out (Nat.le_refl _) HM.out.1 HM.out.2.1 HM.out.2.2⟩
   case measure => simp [intOf]; omega
  ·obtain rfl : k = n := by omega
   go_wp2
   go_ret
   exact HE.out.done HN.out HT.out rfl
open Lib (hid)
theorem clean3 (m : Bool) (ao : Option Addr) (n cap : Nat) (bo : Option Addr) (l cb : Nat) : Clean [.bool m, .slice ao n cap, .slice bo l cb] := fun u hu => by simp at hu; rcases hu with rfl | rfl | rfl <;> rfl
theorem put3_far {w : World} {g b o : Nat} (h : b ≠ g) (u v z : Value) : (((w.setCell ⟨g, o, none⟩ u).setCell ⟨g, o + 1, none⟩ v).setCell ⟨g, o + 2, none⟩ z).heap[b]? = w.heap[b]? := by
 rw [Below.heap_setCell _ _ _ _ h, Below.heap_setCell _ _ _ _ h, Below.heap_setCell _ _ _ _ h]
theorem ownFn_any [Ol] {m : Bool} {ao : Option Addr} {n cap : Nat} {bo : Option Addr} {l cb : Nat} {x : Int} {ps : List (Int × Int)} {K : Nat} {w : World} (hx : Nx w m ao n cap x) (hd : Bd x K) (hm : Ml w bo l cb ps) :
  Calls Tryz.prog 96 #[.agg #[.bool m, .slice ao n cap, .slice bo l cb]] w (NewT K w (x, ps)) := by
 go_enter Tryz.func96, Tryz.ntmps96
 go_upto_region 1 with (fail)
 refine wp_world (fun W hW => ?_)
 obtain ⟨a1, a2, hB⟩ := box2 w [.bool m, .slice ao n cap, .slice bo l cb] [.bool false, .slice none 0 0, .slice none 0 0] 56 56; rw [← hW] at a1 a2 hB; clear hW; have A0 := hid a1; have R0 := hid a2; have HB0 := hid hB; clear a1 a2 hB
 refine wp_region_held_drew (S := fun w' => w'.cell? ⟨w.heap.size, 0, none⟩ = some (.bool m) ∧ w'.cell? ⟨w.heap.size, 1, none⟩ = some (.slice ao n cap) ∧ w'.cell? ⟨w.heap.size, 2, none⟩ = some (.slice bo l cb)) (by kernel_rfl) A0.out.c3 (fun hH => ?_)
 refine anyH_world (fun w1 hW => ?_)
 have HB1 : Hid (Below w.heap.size w w1) := by rw [hW]; exact HB0.out.drew
 have A1 : Hid (AtN w1 w.heap.size [.bool m, .slice ao n cap, .slice bo l cb] 56) := by rw [hW]; exact A0.out.below (Below.refl _ _).drew
 have R1 : Hid (AtN w1 (w.heap.size + 1) [.bool false, .slice none 0 0, .slice none 0 0] 56) := by rw [hW]; exact R0.out.below (Below.refl _ _).drew
 rw [← hW] at hH; clear HB0 A0 R0
 clear hW
 refine son 0 hH ?_; try simp only [nrm]
 refine son 1 hH ?_; try simp only [nrm]
 refine son 2 hH ?_; try simp only [nrm]
 refine son 4 hH ?_; try simp only [nrm]
 refine son 5 hH ?_; try simp only [nrm]
 refine step_one 3 rfl (by kernel_rfl) (fun KK hK => ?_)
 go_simp; refine (wadd_any (hx.below HB1.out) ((zero_cx _).nx)).mono ?_
 rintro e w2 ⟨rm, ra, rn, rc, rfl, hC, hB⟩; rw [Int.add_zero] at hC; have A2 := hid (A1.out.below hB); have R2 := hid (R1.out.below hB); have HB2 := hid (Below.steps HB1.out hB); have C2 := hid hC; clear hB hC A1 R1 HB1; go_wp2_with fail
 clear hH; refine hK.out _ _ A2.out.c3 fun hH => ?_; clear hK KK
 try simp only [nrm]
 refine step_one 6 rfl (by kernel_rfl) (fun KK hK => ?_)
 go_simp; refine (clone_any (hm.below HB2.out)).mono ?_
 rintro e w3 ⟨ma, mn, mc, rfl, hM, hB⟩; have A3 := hid (A2.out.below hB); have R3 := hid (R2.out.below hB); have HB3 := hid (Below.steps HB2.out hB); have M3 := hid hM.ml; have C3 := hid (C2.out.below hB); clear hB hM A2 R2 HB2 C2; go_wp2_with fail
 clear hH; refine hK.out _ _ A3.out.c3 fun hH => ?_; clear hK KK
 try simp only [nrm]
 refine son 7 hH ?_; try simp only [nrm]
 obtain ⟨d0, d1, d2⟩ := R3.out.c3; obtain ⟨f0, f1, f2⟩ := R3.out.f3
 refine step_one 8 rfl (by kernel_rfl) (fun KK hK => ?_)
 go_simp; clear d0 d1 d2 f0 f1 f2
 clear hH; refine hK.out _ _ (AtN.c3 (T := 56) (A3.out.keep (put3_far (Nat.ne_of_lt (Nat.lt_succ_self _)) _ _ _))) fun hH => ?_; clear hK KK
 try simp only [nrm]
 refine wpAnyH_done (by kernel_rfl) ?_ _
 go_wp2_with fail
 refine post_world (Q := bodyPost _ _ _ _ _) (fun W hW => ?_)
 have R : AtN W (w.heap.size + 1) [.bool rm, .slice ra rn rc, .slice ma mn mc] 56 := by rw [hW]; exact ((R3.out.set 0 _).set 1 _).set 2 _
 have HC : Cn W rm ra rn rc x := by rw [hW]; exact C3.out.staysC (R3.out.cleanB (clean3 _ _ _ _ _ _ _)) (grown_put3 _ _ 0 _ _ _)
 have HM : Ml W ma mn mc ps := by rw [hW]; exact M3.out.staysC (R3.out.cleanB (clean3 _ _ _ _ _ _ _)) (grown_put3 _ _ 0 _ _ _)
 have HBW : Below w.heap.size w W := by rw [hW]; exact HB3.out.trans (below_of_grown (grown_put3 _ _ 0 _ _ _) (by omega) HB3.out.size)
 clear hW; obtain ⟨d0, d1, d2⟩ := R.c3
 refine bodyPost_ret (v := .agg #[.bool rm, .slice ra rn rc, .slice ma mn mc]) (by simp [results, Tryz.results96, go_sem, d0, d1, d2]) rfl ?_
 exact ⟨_, _, _, _, _, _, _, rfl, ⟨HC, hd, HM⟩, HBW⟩
theorem Pi.gl3 [Ol] {K : Nat} {w : World} {ao : Option Addr} {n cap : Nat} {p : List Term} (h : Pi K w ao n cap p) : ∃ vss, Gl 3 w ao n cap vss ∧ ∀ k, k < n → ∃ xm xa xn xc xp xq xr, vss.getD k [] = [.bool xm, .slice xa xn xc, .slice xp xq xr] ∧ In w xm xa xn xc (p.getD k (0, [])).1 ∧ xn ≤ K ∧ Ml w xp xq xr (p.getD k (0, [])).2 := by
 have hl := h.len; obtain ⟨vss, h1, h2⟩ := h.ex
 exact ⟨vss, h1, fun k hk => Tms.get (0, []) h2 k (by omega)⟩
theorem Pc.gl3 [Ol] {K : Nat} {w : World} {ao : Option Addr} {n cap : Nat} {p : List Term} (h : Pc K w ao n cap p) : ∃ vss, Gl 3 w ao n cap vss ∧ ∀ k, k < n → ∃ xm xa xn xc xp xq xr, vss.getD k [] = [.bool xm, .slice xa xn xc, .slice xp xq xr] ∧ Cn w xm xa xn xc (p.getD k (0, [])).1 ∧ Bd (p.getD k (0, [])).1 K ∧ Ml w xp xq xr (p.getD k (0, [])).2 := by
 have hl := h.len; obtain ⟨vss, h1, h2⟩ := h.ex
 exact ⟨vss, h1, fun k hk => Tms.get (0, []) h2 k (by omega)⟩
theorem own_any8 [Ol] {K : Nat} {ao : Option Addr} {n cap : Nat} {p : List Term} {w : World} (h : Pi K w ao n cap p) (hn : n ≤ 1000000) (hK : K ≤ 1000000) :
  Calls Tryz.prog 63 #[.slice ao n cap] w (NewPw K w p) := by
 have hl := h.len; obtain ⟨vss, hG, hE⟩ := h.gl3
 have eg : ∀ args w, (callFunc 96 args).run Tryz.prog w = .ok (.enter 96 args) w := enters_of Tryz.func96 (by kernel_rfl) rfl
 have hE' : ∀ W, Calls Tryz.prog 95 #[.slice ao n cap, .func (.func 96) #[] #[]] w W → Calls Tryz.prog 95 #[.slice ao n cap, .func (.func 96) #[] #[]] w W := fun _ h => h
 have hC := each_any eg (K := K) (ts := p) hG hn hl (fun k hk => by obtain ⟨xm, xa, xn, xc, xp, xq, xr, hv, _⟩ := hE k hk; exact ⟨xm, xa, xn, xc, xp, xq, xr, hv⟩) (fun k hk W hW => by
  obtain ⟨xm, xa, xn, xc, xp, xq, xr, hv, h1, h2, h3⟩ := hE k hk
  have hx : Nx W xm xa xn xc (p.getD k (0, [])).1 := ⟨h1.below hW, by omega⟩
  have hb := h1.bd h2; have hm := h3.below hW; rw [hv, Array.append_empty]
  generalize p.getD k (0, []) = t at hx hb hm
  obtain ⟨x, ps⟩ := t
  exact ownFn_any hx hb hm)
 have HC := hid hC; clear hE' hC hE hG hl h
 go_enter Tryz.func63, Tryz.ntmps63
 go_wp2_with fail
 refine HC.out.mono ?_
 rintro e w' ⟨oa, on, oc, rfl, h1, h2⟩; go_wp2_with fail
 go_ret
 exact ⟨_, _, _, rfl, h1, h2⟩
section
variable {P : Program} (w : World)
end
structure Rm (g off cap : Nat) (L : List Value) (w : World) : Prop where
 at1 : AtN w g L 56
 cln : Clean L
 room : off + cap * 3 ≤ L.length
 big : cap ≤ maxLen
end Go.Proofs.YtmmgipcacceakaaGreat

/- Stp, Ec -/
import Derived.Test.YtmmgipcacceakaaGreatGMem
import Derived.Deep.RegionHeld3
set_option maxHeartbeats 40000000
set_option maxRecDepth 100000
namespace Go.Proofs.YtmmgipcacceakaaGreat
open Go.RowKit
theorem wp_world {P : Program} {c : Code} {Q : Exit → Act → World → Prop} {a : Act} {w : World} (h : ∀ W, W = w → Code.wp P c Q a W) : Code.wp P c Q a w := h w rfl
def stepOk (md : Region.Mode) (ops : Array Oper) (listed : Array Bool) (i : Nat) : Bool := Region.noSelect ops && (Region.free md ops listed i && (Region.ready md ops listed).contains i)
theorem step_on {P : Program} {l : List Oper} {Q : Exit → Act → World → Prop} {md : Region.Mode} {S : World → Prop} (i : Nat) {oi : Oper} {v : Value} {fuel : Nat} {listed : Array Bool} {a : Act} {w : World} (hi : l[i]? = some oi)
  (hk : stepOk md l.toArray listed i = true) (hQ : ∀ c a w, Q (.panic c) (a.put oi.dst v) w → Q (.panic c) a w) (hw : Region.wanted oi (yielded l.toArray a.tmps) = true) (hS : S w) (hv : ∀ w, S w → (execOp a.eval oi).run P w = .ok (.value v) w)
  (h : wpAnyH P md l.toArray Q S fuel (listed.setIfInBounds i true) (a.put oi.dst v) w) : wpAnyH P md l.toArray Q S (fuel + 1) listed a w := by
 unfold stepOk at hk
 rw [Bool.and_eq_true, Bool.and_eq_true] at hk
 exact wpAnyH_take (by rw [List.getElem?_toArray]; exact hi) hk.1 hk.2.1 hk.2.2 hQ (.inl ⟨hw, hv⟩) hS h
theorem step_off {P : Program} {l : List Oper} {Q : Exit → Act → World → Prop} {md : Region.Mode} {S : World → Prop} (i : Nat) {oi : Oper} {fuel : Nat} {listed : Array Bool} {a : Act} {w : World} (hi : l[i]? = some oi)
  (hk : stepOk md l.toArray listed i = true) (hQ : ∀ c a w, Q (.panic c) (a.put oi.dst undef) w → Q (.panic c) a w) (hw : Region.wanted oi (yielded l.toArray a.tmps) = false) (hS : S w)
  (h : wpAnyH P md l.toArray Q S fuel (listed.setIfInBounds i true) (a.put oi.dst undef) w) : wpAnyH P md l.toArray Q S (fuel + 1) listed a w := by
 unfold stepOk at hk
 rw [Bool.and_eq_true, Bool.and_eq_true] at hk
 exact wpAnyH_take (by rw [List.getElem?_toArray]; exact hi) hk.1 hk.2.1 hk.2.2 hQ (.inr ⟨hw, rfl⟩) hS h
theorem son {P : Program} {l : List Oper} {Q : Exit → Act → World → Prop} {md : Region.Mode} {S : World → Prop} (i : Nat) {oi : Oper} {v : Value} {fuel : Nat} {listed : Array Bool} {a : Act} {w : World} (hS : S w)
  (h : wpAnyH P md l.toArray Q S fuel (listed.setIfInBounds i true) (a.put oi.dst v) w) (hi : l[i]? = some oi := by exact rfl) (hk : stepOk md l.toArray listed i = true := by kernel_rfl)
  (hQ : ∀ c a w, Q (.panic c) (a.put oi.dst v) w → Q (.panic c) a w := by exact fun _ _ _ h => h) (hw : Region.wanted oi (yielded l.toArray a.tmps) = true := by rfl)
  (hv : ∀ w, S w → (execOp a.eval oi).run P w = .ok (.value v) w := by intro w hS; go_simp <;> with_reducible rfl) : wpAnyH P md l.toArray Q S (fuel + 1) listed a w :=
 step_on i hi hk hQ hw hS hv h
theorem sof {P : Program} {l : List Oper} {Q : Exit → Act → World → Prop} {md : Region.Mode} {S : World → Prop} (i : Nat) {oi : Oper} {fuel : Nat} {listed : Array Bool} {a : Act} {w : World} (hS : S w)
  (h : wpAnyH P md l.toArray Q S fuel (listed.setIfInBounds i true) (a.put oi.dst undef) w) (hi : l[i]? = some oi := by exact rfl) (hk : stepOk md l.toArray listed i = true := by kernel_rfl)
  (hQ : ∀ c a w, Q (.panic c) (a.put oi.dst undef) w → Q (.panic c) a w := by exact fun _ _ _ h => h) (hw : Region.wanted oi (yielded l.toArray a.tmps) = false := by rfl) : wpAnyH P md l.toArray Q S (fuel + 1) listed a w :=
 step_off i hi hk hQ hw hS h
theorem step_one {P : Program} {l : List Oper} {Q : Exit → Act → World → Prop} {md : Region.Mode} {S : World → Prop} (i : Nat) {oi : Oper} {fuel : Nat} {listed : Array Bool} {a : Act} {w : World} (hi : l[i]? = some oi)
  (hr : Region.ready md l.toArray listed = [i])
  (h : ∀ K' : Act → World → Prop, Shut (∀ a w, S w → (S w → wpAnyH P md l.toArray Q S fuel (listed.setIfInBounds i true) a w) → K' a w) → if Region.wanted oi (yielded l.toArray a.tmps) = true then Oper.wp P oi a w K' Q else K' (a.put oi.dst undef) w) :
  wpAnyH P md l.toArray Q S (fuel + 1) listed a w :=
 wpAnyH_ready hr (by simp) (AllReadyH.cons (by rw [List.getElem?_toArray]; exact hi) h AllReadyH.nil)
theorem ready_cons {P : Program} {l : List Oper} {Q : Exit → Act → World → Prop} {md : Region.Mode} {S : World → Prop} {fuel : Nat} {listed : Array Bool} {a : Act} {w : World} {i : Nat} {oi : Oper} {rs : List Nat} (hi : l[i]? = some oi)
  (h : ∀ K' : Act → World → Prop, Shut (∀ a w, S w → (S w → wpAnyH P md l.toArray Q S fuel (listed.setIfInBounds i true) a w) → K' a w) → if Region.wanted oi (yielded l.toArray a.tmps) = true then Oper.wp P oi a w K' Q else K' (a.put oi.dst undef) w)
  (hs : AllReadyH P md l.toArray Q S fuel listed a w rs) : AllReadyH P md l.toArray Q S fuel listed a w (i :: rs) := AllReadyH.cons (by rw [List.getElem?_toArray]; exact hi) h hs
theorem anyH_world {P : Program} {ops : Array Oper} {Q : Exit → Act → World → Prop} {md : Region.Mode} {S : World → Prop} {fuel : Nat} {listed : Array Bool} {a : Act} {w : World} (h : ∀ W, W = w → wpAnyH P md ops Q S fuel listed a W) : wpAnyH P md ops Q S fuel listed a w := h w rfl
theorem nrm : (∀ (t : List Value) (d : List Deferred) (j : Nat) (v : Value), Act.put ⟨t.toArray, d⟩ (some j) v = ⟨(t.set j v).toArray, d⟩) ∧ (∀ (a : Act) (v : Value), a.put none v = a) ∧
  (∀ (x y : Value) (l : List Value), (x :: l).set 0 y = y :: l) ∧ (∀ (x y : Value) (l : List Value) (j : Nat), (x :: l).set (j + 1) y = x :: l.set j y) :=
 ⟨fun t d j v => by simp [Act.put], fun a v => rfl, fun x y l => rfl, fun x y l j => rfl⟩
structure En where
 P : World → Prop
 foot : Nat → Prop
 dep : ∀ w w' : World, (∀ c, foot c → w'.heap[c]? = w.heap[c]?) → P w → P w'
 lt : ∀ w : World, P w → ∀ c, foot c → c < w.heap.size
theorem En.below (e : En) {w w' : World} (hb : Below w.heap.size w w') (h : e.P w) : e.P w' := e.dep w w' (fun c hc => hb.block c (e.lt w h c hc)) h
def Alls (w : World) : List En → Prop
 | [] => True
 | e :: r => e.P w ∧ Alls w r
theorem Alls.below {w w' : World} (hb : Below w.heap.size w w') : ∀ {l : List En}, Alls w l → Alls w' l
 | [], _ => trivial
 | e :: _, h => ⟨e.below hb h.1, Alls.below hb h.2⟩
structure Var where
 b : Nat
 vs : List Value
def Bq (vs : List Value) (T : TypeId) : Prop := (vs.length = 11 ∨ vs.length = 8) → badT.contains T = true
def Cells (w : World) (b : Nat) (vs : List Value) : Prop := ∃ T, Bq vs T ∧ w.heap[b]? = some (.cells vs.toArray T (0, 0))
theorem Cells.lt {w : World} {b : Nat} {vs : List Value} (h : Cells w b vs) : b < w.heap.size := by
 obtain ⟨T, _, h⟩ := h
 rcases Nat.lt_or_ge b w.heap.size with h1 | h1
 ·exact h1
 ·rw [Array.getElem?_eq_none h1] at h; cases h
theorem Cells.cell {w : World} {b : Nat} {vs : List Value} (h : Cells w b vs) (o : Nat) : w.cell? ⟨b, o, none⟩ = vs[o]? := by
 obtain ⟨T, _, h⟩ := h
 simp [World.cell?, h]
theorem Cells.fz {w : World} {b : Nat} {vs : List Value} (h : Cells w b vs) (o : Nat) : w.frozen? ⟨b, o, none⟩ = false := by
 obtain ⟨T, _, h⟩ := h
 simp [World.frozen?, h]
theorem Cells.keep {w w' : World} {b : Nat} {vs : List Value} (h : Cells w b vs) (e : w'.heap[b]? = w.heap[b]?) : Cells w' b vs := by
 obtain ⟨T, hq, h⟩ := h
 exact ⟨T, hq, e.trans h⟩
theorem Cells.new (w : World) (b : Nat) (vs : List Value) (T : TypeId) (hb : b = w.heap.size) (hq : Bq vs T := by first | (intro h; simp at h; done) | (intro _; decide)) : Cells (w.alloc (.cells vs.toArray T)) b vs := by
 subst hb
 exact ⟨T, hq, by show (w.heap.push _)[w.heap.size]? = _; rw [Array.getElem?_push_size]⟩
theorem Cells.set {w : World} {b : Nat} {vs : List Value} (h : Cells w b vs) (o : Nat) (u : Value) : Cells (w.setCell ⟨b, o, none⟩ u) b (vs.set o u) := by
 obtain ⟨T, hq, h⟩ := h
 refine ⟨T, fun hl => hq (by simpa using hl), ?_⟩
 simp [World.setCell, Array.getElem?_modify, h]
theorem Cells.far {w : World} {b c : Nat} {vs : List Value} (h : Cells w b vs) (hc : c ≠ b) (o : Nat) (u : Value) : Cells (w.setCell ⟨c, o, none⟩ u) b vs :=
 h.keep (Below.heap_setCell _ _ _ _ (fun e => hc e.symm))
theorem Cells.c1 {w : World} {b : Nat} {v0 : Value} (h : Cells w b [v0]) : w.cell? ⟨b, 0, none⟩ = some v0 := h.cell 0
theorem Cells.c2 {w : World} {b : Nat} {v0 v1 : Value} (h : Cells w b [v0, v1]) : w.cell? ⟨b, 0, none⟩ = some v0 ∧ w.cell? ⟨b, 1, none⟩ = some v1 := ⟨h.cell 0, h.cell 1⟩
theorem Cells.c3 {w : World} {b : Nat} {v0 v1 v2 : Value} (h : Cells w b [v0, v1, v2]) : w.cell? ⟨b, 0, none⟩ = some v0 ∧ w.cell? ⟨b, 1, none⟩ = some v1 ∧ w.cell? ⟨b, 2, none⟩ = some v2 := ⟨h.cell 0, h.cell 1, h.cell 2⟩
theorem Cells.c4 {w : World} {b : Nat} {v0 v1 v2 v3 : Value} (h : Cells w b [v0, v1, v2, v3]) : w.cell? ⟨b, 0, none⟩ = some v0 ∧ w.cell? ⟨b, 1, none⟩ = some v1 ∧ w.cell? ⟨b, 2, none⟩ = some v2 ∧ w.cell? ⟨b, 3, none⟩ = some v3 := ⟨h.cell 0, h.cell 1, h.cell 2, h.cell 3⟩
theorem Cells.f1 {w : World} {b : Nat} {v0 : Value} (h : Cells w b [v0]) : w.frozen? ⟨b, 0, none⟩ = false := h.fz 0
theorem Cells.f2 {w : World} {b : Nat} {v0 v1 : Value} (h : Cells w b [v0, v1]) : w.frozen? ⟨b, 0, none⟩ = false ∧ w.frozen? ⟨b, 1, none⟩ = false := ⟨h.fz 0, h.fz 1⟩
theorem Cells.f3 {w : World} {b : Nat} {v0 v1 v2 : Value} (h : Cells w b [v0, v1, v2]) : w.frozen? ⟨b, 0, none⟩ = false ∧ w.frozen? ⟨b, 1, none⟩ = false ∧ w.frozen? ⟨b, 2, none⟩ = false := ⟨h.fz 0, h.fz 1, h.fz 2⟩
def Und (b : Nat) : List Var → Prop
 | [] => True
 | v :: r => v.b < b ∧ Und b r
def Apt (b : Nat) : List Var → Prop
 | [] => True
 | v :: r => v.b ≠ b ∧ Apt b r
def Vars (w : World) (B : Nat) : List Var → Prop
 | [] => True
 | v :: r => Cells w v.b v.vs ∧ B ≤ v.b ∧ Apt v.b r ∧ Vars w B r
theorem Und.apt {b : Nat} : ∀ {l : List Var}, Und b l → Apt b l
 | [], _ => trivial
 | _ :: _, h => ⟨Nat.ne_of_lt h.1, Und.apt h.2⟩
theorem Apt.mem {b : Nat} : ∀ {l : List Var}, Apt b l → ∀ v ∈ l, v.b ≠ b
 | _ :: _, h, v, hv => by
  rcases List.mem_cons.1 hv with rfl | h1
  ·exact h.1
  ·exact Apt.mem h.2 v h1
theorem Und.mono {b b' : Nat} (h : b ≤ b') : ∀ {l : List Var}, Und b l → Und b' l
 | [], _ => trivial
 | _ :: _, hu => ⟨Nat.lt_of_lt_of_le hu.1 h, Und.mono h hu.2⟩
theorem Vars.und {w : World} {B : Nat} : ∀ {l : List Var}, Vars w B l → Und w.heap.size l
 | [], _ => trivial
 | _ :: _, h => ⟨h.1.lt, Vars.und h.2.2.2⟩
theorem Vars.keep {w w' : World} {B : Nat} : ∀ {l : List Var}, (∀ v ∈ l, w'.heap[v.b]? = w.heap[v.b]?) → Vars w B l → Vars w' B l
 | [], _, _ => trivial
 | v :: _, hh, h => ⟨h.1.keep (hh v (by simp)), h.2.1, h.2.2.1, Vars.keep (fun u hu => hh u (by simp [hu])) h.2.2.2⟩
theorem Und.mem {b : Nat} : ∀ {l : List Var}, Und b l → ∀ v ∈ l, v.b < b
 | _ :: _, h, v, hv => by
  rcases List.mem_cons.1 hv with rfl | h1
  ·exact h.1
  ·exact Und.mem h.2 v h1
def Dis (B : List Var) (N : List En) : Prop := ∀ e ∈ N, ∀ v ∈ B, ¬ e.foot v.b
structure Sx (w0 w : World) (B : List Var) (N : List En) : Prop where
 b : Vars w w0.heap.size B
 n : Alls w N
 h : Below w0.heap.size w0 w
 d : Dis B N
theorem Sx.start {w : World} {N : List En} (h : Alls w N) : Sx w w [] N := ⟨trivial, h, Below.refl _ _, fun _ _ v hv => by cases hv⟩
theorem Sx.step {w0 w w' : World} {B : List Var} {N : List En} (s : Sx w0 w B N) (hb : Below w.heap.size w w') : Sx w0 w' B N :=
 ⟨s.b.keep (fun v hv => hb.block _ (s.b.und.mem v hv)), s.n.below hb, Below.steps s.h hb, s.d⟩
theorem Sx.drew {w0 w : World} {B : List Var} {N : List En} (s : Sx w0 w B N) : Sx w0 w.drew B N := s.step (Below.refl _ _).drew
theorem Alls.mem {w : World} : ∀ {l : List En}, Alls w l → ∀ e ∈ l, e.P w
 | _ :: _, h, e, he => by
  rcases List.mem_cons.1 he with rfl | h1
  ·exact h.1
  ·exact Alls.mem h.2 e h1
theorem Sx.var {w0 w : World} {B : List Var} {N : List En} (s : Sx w0 w B N) (b : Nat) (vs : List Value) (T : TypeId) (hb : b = w.heap.size) (hq : Bq vs T := by first | (intro h; simp at h; done) | (intro _; decide)) : Sx w0 (w.alloc (.cells vs.toArray T)) (⟨b, vs⟩ :: B) N := by
 have h1 := s.step (below_alloc w (.cells vs.toArray T))
 refine ⟨⟨Cells.new w b vs T hb hq, by rw [hb]; exact s.h.size, (hb ▸ s.b.und : Und b B).apt, h1.b⟩, h1.n, h1.h, fun e he v hv hf => ?_⟩
 rcases List.mem_cons.1 hv with rfl | hv
 ·have := e.lt w (s.n.mem e he) _ hf
  have e2 : b < w.heap.size := this
  omega
 ·exact s.d e he v hv hf
theorem Sx.add {w0 w : World} {B : List Var} {N : List En} (s : Sx w0 w B N) (e : En) (hP : e.P w) (hd : ∀ v ∈ B, ¬ e.foot v.b) : Sx w0 w B (e :: N) :=
 ⟨s.b, ⟨hP, s.n⟩, s.h, fun f hfm v hv hc => by
  rcases List.mem_cons.1 hfm with rfl | h2
  ·exact hd v hv hc
  ·exact s.d f h2 v hv hc⟩
theorem Sx.set {w0 w : World} (pre post : List Var) {b : Nat} {vs : List Value} {N : List En} (s : Sx w0 w (pre ++ ⟨b, vs⟩ :: post) N) (o : Nat) (u : Value) :
  Sx w0 (w.setCell ⟨b, o, none⟩ u) (pre ++ ⟨b, vs.set o u⟩ :: post) N := by
 have hB : ∀ {l : List Var}, Vars w w0.heap.size l → ∀ v ∈ l, w0.heap.size ≤ v.b := by
  intro l
  induction l with
  | nil => intro _ v hv; cases hv
  | cons a r ih =>
   intro h v hv
   rcases List.mem_cons.1 hv with rfl | h1
   ·exact h.2.1
   ·exact ih h.2.2.2 v h1
 have hb0 : w0.heap.size ≤ b := hB s.b ⟨b, vs⟩ (by simp)
 have key : ∀ {l : List Var}, Vars w w0.heap.size (l ++ ⟨b, vs⟩ :: post) → Vars (w.setCell ⟨b, o, none⟩ u) w0.heap.size (l ++ ⟨b, vs.set o u⟩ :: post) := by
  intro l
  induction l with
  | nil =>
   intro h
   refine ⟨h.1.set o u, h.2.1, h.2.2.1, h.2.2.2.keep fun v hv => Below.heap_setCell _ _ _ _ ?_⟩
   exact h.2.2.1.mem v hv
  | cons a r ih =>
   intro h
   have hne : b ≠ a.b := by
    exact h.2.2.1.mem ⟨b, vs⟩ (by simp)
   refine ⟨h.1.far hne o u, h.2.1, ?_, ih h.2.2.2⟩
   have hu := h.2.2.1; clear ih h
   induction r with
   | nil => exact ⟨hu.1, hu.2⟩
   | cons a' r' ih' => exact ⟨hu.1, ih' hu.2⟩
 refine ⟨key s.b, ?_, s.h.setCell hb0 u, ?_⟩
 ·have hd : ∀ e ∈ N, ¬ e.foot b := fun e he => s.d e he ⟨b, vs⟩ (by simp)
  have hn := s.n; clear key hB s
  induction N with
  | nil => trivial
  | cons e r ih =>
   refine ⟨e.dep w _ (fun c hc => Below.heap_setCell _ _ _ _ ?_) hn.1, ih (fun f hf => hd f (by simp [hf])) hn.2⟩
   intro e2
   have e3 : c = b := e2
   subst e3
   exact hd e (by simp) hc
 ·intro e he v hv
  simp only [List.mem_append, List.mem_cons] at hv
  rcases hv with h1 | rfl | h1
  ·exact s.d e he v (by simp [h1])
  ·exact s.d e he ⟨b, vs⟩ (by simp)
  ·exact s.d e he v (by simp [h1])
theorem Sx.swap {w0 w : World} {u v : Var} {B : List Var} {N : List En} (s : Sx w0 w (u :: v :: B) N) : Sx w0 w (v :: u :: B) N :=
 ⟨⟨s.b.2.2.2.1, s.b.2.2.2.2.1, ⟨fun e => s.b.2.2.1.1 e.symm, s.b.2.2.2.2.2.1⟩, s.b.1, s.b.2.1, s.b.2.2.1.2, s.b.2.2.2.2.2.2⟩, s.n, s.h, fun e he x hx => s.d e he x (by
  rcases List.mem_cons.1 hx with rfl | h1
  ·simp
  ·rcases List.mem_cons.1 h1 with rfl | h2
   ·simp
   ·simp [h2])⟩
theorem Vars.c1 {w : World} {B b : Nat} {v0 : Value} {r : List Var} (h : Vars w B (⟨b, [v0]⟩ :: r)) : w.cell? ⟨b, 0, none⟩ = some v0 := h.1.c1
theorem Vars.c2 {w : World} {B b : Nat} {v0 v1 : Value} {r : List Var} (h : Vars w B (⟨b, [v0, v1]⟩ :: r)) : w.cell? ⟨b, 0, none⟩ = some v0 ∧ w.cell? ⟨b, 1, none⟩ = some v1 := h.1.c2
theorem Vars.c3 {w : World} {B b : Nat} {v0 v1 v2 : Value} {r : List Var} (h : Vars w B (⟨b, [v0, v1, v2]⟩ :: r)) : w.cell? ⟨b, 0, none⟩ = some v0 ∧ w.cell? ⟨b, 1, none⟩ = some v1 ∧ w.cell? ⟨b, 2, none⟩ = some v2 := h.1.c3
theorem Vars.c4 {w : World} {B b : Nat} {v0 v1 v2 v3 : Value} {r : List Var} (h : Vars w B (⟨b, [v0, v1, v2, v3]⟩ :: r)) : w.cell? ⟨b, 0, none⟩ = some v0 ∧ w.cell? ⟨b, 1, none⟩ = some v1 ∧ w.cell? ⟨b, 2, none⟩ = some v2 ∧ w.cell? ⟨b, 3, none⟩ = some v3 := h.1.c4
theorem Vars.f1 {w : World} {B b : Nat} {v0 : Value} {r : List Var} (h : Vars w B (⟨b, [v0]⟩ :: r)) : w.frozen? ⟨b, 0, none⟩ = false := h.1.f1
theorem Vars.f2 {w : World} {B b : Nat} {v0 v1 : Value} {r : List Var} (h : Vars w B (⟨b, [v0, v1]⟩ :: r)) : w.frozen? ⟨b, 0, none⟩ = false ∧ w.frozen? ⟨b, 1, none⟩ = false := h.1.f2
theorem Vars.f3 {w : World} {B b : Nat} {v0 v1 v2 : Value} {r : List Var} (h : Vars w B (⟨b, [v0, v1, v2]⟩ :: r)) : w.frozen? ⟨b, 0, none⟩ = false ∧ w.frozen? ⟨b, 1, none⟩ = false ∧ w.frozen? ⟨b, 2, none⟩ = false := h.1.f3
theorem Vars.lt {w : World} {B b : Nat} {vs : List Value} {r : List Var} (h : Vars w B (⟨b, vs⟩ :: r)) : b < w.heap.size := h.1.lt
theorem Vars.t {w : World} {B : Nat} {v : Var} {r : List Var} (h : Vars w B (v :: r)) : Vars w B r := h.2.2.2
theorem Alls.t {w : World} {e : En} {r : List En} (h : Alls w (e :: r)) : Alls w r := h.2
theorem Alls.p {w : World} {e : En} {r : List En} (h : Alls w (e :: r)) : e.P w := h.1
end Go.Proofs.YtmmgipcacceakaaGreat

/- PlJoin0, PlPile, PlWith, PlSum -/
import Derived.Test.YtmmgipcacceakaaGreatPlJoin
set_option maxHeartbeats 40000000
set_option maxRecDepth 100000
namespace Go.Proofs.YtmmgipcacceakaaGreat
open Go.RowKit
section
variable {B K : Nat} {ao bo : Option Addr} {n cap m cb : Nat} {p q r : List Term} {w : World}
end
theorem Rw.stepG {B : Nat} {T : TypeId} {sz : Nat} {V V' : World} {ao : Option Addr} {n cap : Nat} {X : List (List Value)} (h : Rw B T sz V ao n cap X) {row : Option Nat} (hg : V.grownBy V' row) (hne : ∀ r, row = some r → blk ao ≠ some r) : Rw B T sz V' ao n cap X := by
 rcases h.ex with h1 | ⟨g, off, L, rfl, hB, hA, q⟩
 ·exact ⟨.inl h1⟩
 ·exact ⟨.inr ⟨g, off, L, rfl, hB, hA.stepG hg (fun r e h => hne r e (by rw [h]; rfl)), q⟩⟩
theorem Pw.stepG [Ol] {B K : Nat} {V V' : World} {ao : Option Addr} {n cap : Nat} {p : List Term} (h : Pw B K V ao n cap p) {row : Option Nat} (hg : V.grownBy V' row) (hn : ∀ r, row = some r → NoInt V r) (hne : ∀ r, row = some r → blk ao ≠ some r) : Pw B K V' ao n cap p := by
 obtain ⟨X, h1, h2⟩ := h
 exact ⟨X, h1.stepG hg hne, tms_stepG hg hn h2⟩
theorem Pw.lt [Ol] {B K : Nat} {V : World} {ao : Option Addr} {n cap : Nat} {p : List Term} (h : Pw B K V ao n cap p) : ∀ g, blk ao = some g → B ≤ g ∧ g < V.heap.size := by
 obtain ⟨X, h1, _⟩ := h
 exact h1.lt
theorem Pw.noInt [Ol] {B K : Nat} {V : World} {ao : Option Addr} {n cap : Nat} {p : List Term} (h : Pw B K V ao n cap p) : ∀ g, blk ao = some g → NoInt V g := by
 obtain ⟨X, h1, _⟩ := h
 exact fun g hg => (h1.cleanB g hg).noInt
theorem Pw.at1 [Ol] {B K : Nat} {V : World} {ao : Option Addr} {n cap : Nat} {p : List Term} (h : Pw B K V ao n cap p) : ∀ g, blk ao = some g → ∃ L, AtN V g L 56 := by
 obtain ⟨X, h1, _⟩ := h
 intro g hg
 rcases h1.ex with ⟨rfl, _⟩ | ⟨g', off, L, rfl, hB, hA, q⟩
 ·cases hg
 ·cases hg; exact ⟨L, hA⟩
def blkV : List Value → Option Nat
 | [.slice ao _ _] => blk ao
 | _ => none
def PlE [Ol] (B K : Nat) (w : World) (vs : List Value) (p : List Term) : Prop := ∃ ao n cap, vs = [.slice ao n cap] ∧ Pw B K w ao n cap p ∧ fall p
def Aparts (X : List (List Value)) : Prop := X.Pairwise fun a b => ∀ g, blkV a = some g → blkV b ≠ some g
def Off (X : List (List Value)) (o : Option Nat) : Prop := ∀ g, o = some g → ∀ vs ∈ X, blkV vs ≠ some g
def evs : List (List Term) → (Nat → Int) → Int
 | [], _ => 0
 | p :: ps, ρ => ev p ρ + evs ps ρ
def lens : List (List Term) → Nat
 | [] => 0
 | p :: ps => p.length + lens ps
theorem PlE.stepG [Ol] {B K : Nat} {V V' : World} {vs : List Value} {p : List Term} (h : PlE B K V vs p) {row : Option Nat} (hg : V.grownBy V' row) (hn : ∀ r, row = some r → NoInt V r) (hne : ∀ r, row = some r → blkV vs ≠ some r) : PlE B K V' vs p := by
 obtain ⟨ao, n, cap, rfl, h1, h2⟩ := h
 exact ⟨ao, n, cap, rfl, h1.stepG hg hn hne, h2⟩
theorem PlE.mono [Ol] {B K K' : Nat} {V : World} {vs : List Value} {p : List Term} (h : PlE B K V vs p) (hk : K ≤ K') : PlE B K' V vs p := by
 obtain ⟨ao, n, cap, rfl, h1, h2⟩ := h
 exact ⟨ao, n, cap, rfl, h1.mono (Nat.le_refl _) hk, h2⟩
theorem ples_stepG [Ol] {B K : Nat} {V V' : World} {row : Option Nat} (hg : V.grownBy V' row) (hn : ∀ r, row = some r → NoInt V r) : ∀ {X : List (List Value)} {ps : List (List Term)}, Tms (PlE B K V) X ps → Off X row → Tms (PlE B K V') X ps
 | [], [], _, _ => trivial
 | x :: X, p :: ps, h, hne => ⟨h.1.stepG hg hn (fun r e => hne r e x (by simp)), ples_stepG hg hn h.2 (fun r e v hv => hne r e v (by simp [hv]))⟩
 | [], _ :: _, h, _ => h.elim
 | _ :: _, [], h, _ => h.elim
theorem Go1.take {B : Nat} {e : TypeId} {sz : Nat} {w : World} {ao : Option Addr} {n cap : Nat} {vss : List (List Value)} (h : Go1 B e sz w ao n cap vss) (k : Nat) (hk : k ≤ n) : Go1 B e sz w ao k cap (vss.take k) := by
 have hE : Each sz (vss.take k) := fun vs hv => h.each vs (List.mem_of_mem_take hv)
 have hl : (vss.take k).length = k := by rw [List.length_take, h.len]; omega
 have hfl : (vss.take k).flatten = vss.flatten.take (k * sz) := by
  have e1 : vss.flatten = (vss.take k).flatten ++ (vss.drop k).flatten := by rw [← List.flatten_append, List.take_append_drop]
  have e2 : (vss.take k).flatten.length = k * sz := by rw [each_len hE, hl]
  rw [e1, ← e2, List.take_left]
 refine ⟨⟨by rw [each_len hE, hl], ?_⟩, hl, Nat.le_trans hk h.big, hE, fun g hg => h.cln g (by cases ao <;> exact hg)⟩
 rcases h.row.2 with ⟨hv, h0⟩ | ⟨g, cap', cur, hv, hg, hh, hn, hm, hs, ht⟩
 ·simp only [Value.slice.injEq] at hv
  obtain ⟨rfl, rfl, rfl⟩ := hv
  obtain rfl : k = 0 := by omega
  exact .inl ⟨rfl, rfl⟩
 ·simp only [Value.slice.injEq, true_and] at hv
  obtain ⟨rfl, rfl⟩ := hv
  refine .inr ⟨g, cap, cur, rfl, hg, hh, by omega, hm, hs, ?_⟩
  rw [hfl, ← ht, List.take_take, Nat.min_eq_left (Nat.mul_le_mul_right _ hk)]
structure Pile [Ol] (B K : Nat) (w : World) (ao : Option Addr) (n cap : Nat) (X : List (List Value)) (ps : List (List Term)) : Prop where
 row : Go1 B 26 1 w ao n cap X
 mem : Tms (PlE B K w) X ps
 apart : Aparts X
section
variable {B K : Nat} {w V : World} {ao : Option Addr} {n cap : Nat} {X : List (List Value)} {ps : List (List Term)}
theorem Pile.nil [Ol] (B K : Nat) (w : World) : Pile B K w none 0 0 [] [] := ⟨Go1.nil _ _ _ _, trivial, List.Pairwise.nil⟩
theorem Pile.len [Ol] (h : Pile B K w ao n cap X ps) : X.length = n ∧ ps.length = n := ⟨h.row.len, by rw [← h.mem.len, h.row.len]⟩
theorem Pile.below [Ol] (h : Pile B K w ao n cap X ps) (hb : Below w.heap.size w V) : Pile B K V ao n cap X ps := ⟨h.row.below hb, ples_stepG (grown_below none hb) (fun _ e => by cases e) h.mem (fun _ e => by cases e), h.apart⟩
theorem Pile.mono [Ol] {K' : Nat} (h : Pile B K w ao n cap X ps) (hk : K ≤ K') : Pile B K' w ao n cap X ps := ⟨h.row, h.mem.imp fun _ _ h => h.mono hk, h.apart⟩
theorem Pile.take [Ol] (h : Pile B K w ao n cap X ps) (k : Nat) (hk : k ≤ n) : Pile B K w ao k cap (X.take k) (ps.take k) := ⟨h.row.take k hk, h.mem.take k, h.apart.sublist (List.take_sublist k X)⟩
theorem Pile.far [Ol] (h : Pile B K w ao n cap X ps) {g : Nat} {L : List Value} (hA : AtN w g L 56) (hn : NoInt w g) (hoff : Off X (some g)) (hg : w.grownBy V (some g)) : Pile B K V ao n cap X ps := by
 refine ⟨h.row.keep fun a ha => hg.block a.block ?_ ?_, ples_stepG hg (fun r e => by cases e; exact hn) h.mem hoff, h.apart⟩
 ·rcases h.row.parts with ⟨h1, _⟩ | ⟨g', cur, h1, _, hlt, _⟩
  ·rw [h1] at ha; cases ha
  ·rw [h1] at ha; cases ha; exact hlt
 ·intro eq
  rcases h.row.parts with ⟨h1, _⟩ | ⟨g', cur, h1, _, hlt, _, hh⟩
  ·rw [h1] at ha; cases ha
  ·rw [h1] at ha
   cases ha
   have e' : g' = g := Option.some.inj eq
   subst e'
   unfold AtN at hA
   rw [hh] at hA
   cases hA
theorem Pile.get [Ol] (h : Pile B K w ao n cap X ps) {k : Nat} (hk : k < n) : ∃ g, ao = some ⟨g, 0, none⟩ ∧ g < w.heap.size ∧ ∃ po pn pc, X.getD k [] = [.slice po pn pc] ∧ w.cell? ⟨g, k, none⟩ = some (.slice po pn pc) ∧ Pw B K w po pn pc (ps.getD k []) ∧ fall (ps.getD k []) := by
 have hl := h.len
 obtain ⟨po, pn, pc, hv, h1, h2⟩ := Tms.get [] h.mem k (by omega)
 rcases h.row.parts with ⟨_, rfl, _⟩ | ⟨g, cur, rfl, _, hlt, _⟩
 ·omega
 ·refine ⟨g, rfl, hlt, po, pn, pc, hv, ?_, h1, h2⟩
  have := h.row.gl.cells _ rfl k hk 0 (by omega)
  rw [Addr.add_lit, hv] at this
  simpa using this
end
theorem Pile.noInt [Ol] {B K : Nat} {w : World} {ao : Option Addr} {n cap : Nat} {X : List (List Value)} {ps : List (List Term)} (h : Pile B K w ao n cap X ps) : ∀ r, blk ao = some r → NoInt w r := fun r hr => (h.row.cln r (by cases ao with
 | none => cases hr
 | some a => exact hr)).noInt
def WithOk [Ol] (B K n : Nat) (w : World) (ps : List (List Term)) (p : List Term) (e : Ending) (V : World) : Prop :=
 ∃ so n' cap' X' ps' K', e = .returned (.slice so n' cap') ∧ Pile B K' V so n' cap' X' ps' ∧ K' + n' ≤ K + n + 1 ∧ n' ≤ n + 1 ∧ (∀ ρ, evs ps' ρ = evs ps ρ + ev p ρ) ∧ lens ps' ≤ lens ps + p.length ∧ Below B w V
structure WSt [Ol] (B K0 n0 : Nat) (w : World) (ps0 : List (List Term)) (p0 : List Term) (K : Nat) (so : Option Addr) (n cap : Nat) (po : Option Addr) (pn pc : Nat) (X : List (List Value)) (ps : List (List Term)) (p : List Term) (V : World) : Prop where
 pl : Pile B K V so n cap X ps
 pw : Pw B K V po pn pc p
 fl : fall p
 off : Off X (blk po)
 vs : ∀ ρ, evs ps ρ + ev p ρ = evs ps0 ρ + ev p0 ρ
 ln : lens ps + p.length ≤ lens ps0 + p0.length
 kn : K + n ≤ K0 + n0
 nn : n ≤ n0
 bw : Below B w V
 bz : B ≤ V.heap.size
theorem at_mem [Ol] {B K : Nat} {V : World} : ∀ {Y : List (List Value)} {qs : List (List Term)}, Tms (PlE B K V) Y qs → ∀ vs ∈ Y, ∀ g, blkV vs = some g → ∃ L, AtN V g L 56
 | [], [], _, _, h, _, _ => by cases h
 | y :: Y, q :: qs, hq, vs, hvs, g, hg => by
  rcases List.mem_cons.1 hvs with rfl | hvs
  ·obtain ⟨a, b, c, rfl, h1, _⟩ := hq.1
   exact h1.at1 g hg
  ·exact at_mem hq.2 vs hvs g hg
 | [], _ :: _, hq, _, _, _, _ => hq.elim
 | _ :: _, [], hq, _, _, _, _ => hq.elim
theorem WSt.step [Ol] {B K0 n0 : Nat} {w : World} {ps0 : List (List Term)} {p0 : List Term} {K : Nat} {so : Option Addr} {n cap : Nat} {po : Option Addr} {pn pc : Nat} {X : List (List Value)} {ps : List (List Term)} {p : List Term} {V V' : World} (h : WSt B K0 n0 w ps0 p0 K so n cap po pn pc X ps p V) {row : Option Nat} (hg : V.grownBy V' row) (hn : ∀ r, row = some r → NoInt V r)
  (hne : ∀ r, row = some r → (∀ L, ¬ AtN V r L 56) ∧ blk so ≠ some r ∧ B ≤ r) : WSt B K0 n0 w ps0 p0 K so n cap po pn pc X ps p V' := by
 refine { h with pl := ⟨h.pl.row.keep fun a ha => hg.block a.block ?_ (fun e => (hne _ e.symm).2.1 (by rw [ha]; rfl)), ples_stepG hg hn h.pl.mem (fun r e vs hv e2 => ?_), h.pl.apart⟩, pw := h.pw.stepG hg hn (fun r e e2 => ?_), bw := h.bw.grown hg h.bz (fun r e => (hne r e).2.2), bz := Nat.le_trans h.bz hg.size }
 ·rcases h.pl.row.parts with ⟨h1, _⟩ | ⟨g', cur, h1, _, hlt, _⟩
  ·rw [h1] at ha; cases ha
  ·rw [h1] at ha; cases ha; exact hlt
 ·obtain ⟨L, hL⟩ := at_mem h.pl.mem vs hv r e2
  exact (hne r e).1 L hL
 ·obtain ⟨L, hL⟩ := h.pw.at1 r e2
  exact (hne r e).1 L hL
theorem WSt.own [Ol] {B K0 n0 : Nat} {w : World} {ps0 : List (List Term)} {p0 : List Term} {K : Nat} {so : Option Addr} {n cap : Nat} {po : Option Addr} {pn pc : Nat} {X : List (List Value)} {ps : List (List Term)} {p : List Term} {V V' : World} (h : WSt B K0 n0 w ps0 p0 K so n cap po pn pc X ps p V) {D : Nat} {row : Option Nat} (hg : V.grownBy V' row) (hr : ∀ r, row = some r → D ≤ r ∧ ∃ o : Obj, V.heap[r]? = some o ∧ o.isCells = false) (hB : B ≤ D) : WSt B K0 n0 w ps0 p0 K so n cap po pn pc X ps p V' :=
 h.step hg (fun r e => by obtain ⟨_, o, h1, h2⟩ := hr r e; exact noInt_obj h1 h2) (fun r e => by
  obtain ⟨h0, o, h1, h2⟩ := hr r e
  refine ⟨fun L hA => hA.obj_ne h1 h2 rfl, fun e2 => ?_, by omega⟩
  rcases h.pl.row.parts with ⟨h3, _⟩ | ⟨g', cur, h3, _, _, _, hh⟩
  ·rw [h3] at e2; cases e2
  ·rw [h3] at e2
   have e' : g' = r := Option.some.inj e2
   subst e'; rw [hh] at h1
   cases h1
   cases h2)
theorem WSt.below [Ol] {B K0 n0 : Nat} {w : World} {ps0 : List (List Term)} {p0 : List Term} {K : Nat} {so : Option Addr} {n cap : Nat} {po : Option Addr} {pn pc : Nat} {X : List (List Value)} {ps : List (List Term)} {p : List Term} {V V' : World} (h : WSt B K0 n0 w ps0 p0 K so n cap po pn pc X ps p V) (hb : Below V.heap.size V V') : WSt B K0 n0 w ps0 p0 K so n cap po pn pc X ps p V' :=
 h.step (grown_below none hb) (fun _ e => by cases e) (fun _ e => by cases e)
end Go.Proofs.YtmmgipcacceakaaGreat

/-
  Lists of polynomials of the reference in memory of the call's own: a row of slices alone; append of one.
-/
import Derived.Test.YtmmgipcacceakaaGreatGVR
set_option maxHeartbeats 40000000
set_option maxRecDepth 100000
namespace Go.Proofs.YtmmgipcacceakaaGreat
open Go.RowKit
def PredB (φ : Value → Bool) (w : World) (g : Nat) : Prop := ∀ cur T fr, w.heap[g]? = some (.cells cur T fr) → ∀ u ∈ cur.toList, φ u = true
theorem PredB.keep {φ : Value → Bool} {w w' : World} {g : Nat} (h : PredB φ w g) (e : w'.heap[g]? = w.heap[g]?) : PredB φ w' g := fun cur T fr hh => h cur T fr (e ▸ hh)
theorem PredB.alloc {φ : Value → Bool} (w : World) (cs : Array Value) (T : TypeId) (h : ∀ u ∈ cs.toList, φ u = true) : PredB φ (w.alloc (.cells cs T)) w.heap.size := by
 intro cur T' fr hh
 have e : (w.alloc (.cells cs T)).heap[w.heap.size]? = some (.cells cs T (0, 0)) := by
  show (w.heap.push _)[w.heap.size]? = _
  rw [Array.getElem?_push_size]
 rw [e] at hh
 cases hh
 exact h
def slc : Value → Bool
 | .slice _ _ _ => true
 | _ => false
theorem SlcB.far {w : World} {g : Nat} (h : PredB slc w g) {m : Bool} {ad : Addr} (hc : w.cell? ad = some (.bool m)) : ad.block ≠ g := by
 intro e
 obtain ⟨b', o, s⟩ := ad; obtain rfl : b' = g := e
 have hs : s = none := World.cell?_spot hc
 subst hs
 unfold World.cell? at hc
 simp only at hc
 cases hh : w.heap[b']? with
 | none => simp [hh] at hc
 | some ob =>
  rw [hh] at hc
  cases ob with
  | cells cur T fr =>
   have hc2 : cur[o]? = some (.bool m) := by simpa using hc
   exact absurd (h cur T fr hh _ (Array.mem_toList_iff.2 (Array.mem_of_getElem? hc2))) (by simp [slc])
  | _ => simp at hc
theorem Pz.far [Ol] {B K : Nat} {e : TypeId} {w V : World} {ao : Option Addr} {n cap : Nat} {X : List (List Value)} {po : Option Addr} {pn pc : Nat} {q : List Term} (h : Pz K w po pn pc q) (hO : Go1 B e 1 w ao n cap X) (hS : ∀ g, (Value.slice ao n cap).ownBlock = some g → PredB slc w g) (hG : w.grownBy V (Value.slice ao n cap).ownBlock) : Pz K V po pn pc q := by
 obtain ⟨vss, h1, h2⟩ := h.ex
 have hfar : 0 < pn → ∀ a, po = some a → (Value.slice ao n cap).ownBlock ≠ some a.block := fun h0 a ha eq => by
  have hl := h2.len
  obtain ⟨m, ao', n', cap', bo, k, cb, hv, _⟩ := Tms.get (0, []) h2 0 (by rw [← hl, h1.len]; exact h0)
  have hc := h1.cells a ha 0 h0 0 (by omega)
  rw [hv] at hc
  exact SlcB.far (hS _ eq) (m := m) hc (add_block3 _ _)
 refine ⟨vss, ⟨h1.len, h1.le, h1.big, h1.each, h1.nil, h1.spot, fun ad had h0 => Nat.lt_of_lt_of_le (h1.lt ad had h0) hG.size, fun ad had t ht j hj => ?_, fun h0 ad had => (h1.kp h0 ad had).keep (hG.block ad.block (h1.lt ad had h0) fun eq => hfar h0 ad had eq.symm)⟩, h2.imp fun _ _ h => h.stays hO hG⟩
 have hb := hG.block ad.block (h1.lt ad had (by omega)) fun eq => hfar (by omega) ad had eq.symm
 rw [World.cell?_of_block (w := w) (by rw [add_block3]; exact hb)]
 exact h1.cells ad had t ht j hj
def PzR [Ol] (K : Nat) (w : World) (vs : List Value) (p : List Term) : Prop := ∃ ao n cap, vs = [.slice ao n cap] ∧ Pz K w ao n cap p
structure Plz [Ol] (B K : Nat) (w : World) (ao : Option Addr) (n cap : Nat) (ls : List (List Term)) : Prop where
 ex : ∃ X, Go1 B 36 1 w ao n cap X ∧ (∀ g, (Value.slice ao n cap).ownBlock = some g → PredB slc w g) ∧ Tms (PzR K w) X ls
section
variable {B K : Nat} {w V : World} {ao : Option Addr} {n cap : Nat} {ls : List (List Term)}
theorem Plz.nil [Ol] (B K : Nat) (w : World) : Plz B K w none 0 0 [] := ⟨[], Go1.nil _ _ _ _, (fun _ h => by cases h), trivial⟩
theorem Plz.len [Ol] (h : Plz B K w ao n cap ls) : ls.length = n := by
 obtain ⟨X, h1, _, h3⟩ := h.ex; rw [← h3.len, h1.len]
theorem Plz.own [Ol] (h : Plz B K w ao n cap ls) : ∀ r, (Value.slice ao n cap).ownBlock = some r → B ≤ r ∧ r < w.heap.size := fun r e => by
 obtain ⟨X, h1, _, _⟩ := h.ex
 rcases h1.parts with ⟨rfl, _⟩ | ⟨g, cur, rfl, hg, hlt, _⟩
 ·cases e
 ·cases e; exact ⟨hg, hlt⟩
theorem Plz.below [Ol] (h : Plz B K w ao n cap ls) (hb : Below w.heap.size w V) : Plz B K V ao n cap ls := by
 have hl := h.own; obtain ⟨X, h1, h2, h3⟩ := h.ex
 exact ⟨X, h1.below hb, fun g hg => (h2 g hg).keep (hb.block g (hl g hg).2), h3.imp fun _ _ ⟨a, b, c, h4, h5⟩ => ⟨a, b, c, h4, h5.below hb⟩⟩
theorem Plz.mono [Ol] {K' : Nat} (h : Plz B K w ao n cap ls) (hk : K ≤ K') : Plz B K' w ao n cap ls := by
 obtain ⟨X, h1, h2, h3⟩ := h.ex
 exact ⟨X, h1, h2, h3.imp fun _ _ ⟨a, b, c, h4, h5⟩ => ⟨a, b, c, h4, h5.mono hk⟩⟩
theorem Plz.at [Ol] (h : Plz B K w ao n cap ls) {k : Nat} (hk : k < n) : ∃ g po pn pc, ao = some ⟨g, 0, none⟩ ∧ g < w.heap.size ∧ Pz K w po pn pc (ls.getD k []) ∧ ∀ V : World, Below w.heap.size w V → V.cell? ⟨g, k, none⟩ = some (.slice po pn pc) := by
 have hl := h.len; obtain ⟨X, h1, h2, h3⟩ := h.ex
 obtain ⟨po, pn, pc, hv, hp⟩ := Tms.get [] h3 k (by omega)
 rcases h1.parts with ⟨_, h0, _⟩ | ⟨g, cur, rfl, hg, hlt, _⟩
 ·omega
 ·refine ⟨g, po, pn, pc, rfl, hlt, hp, fun V hV => ?_⟩
  have hc := (h1.gl.below hV).cells _ rfl k hk 0 (by omega)
  rw [hv, Addr.add_lit, Nat.mul_one, Nat.add_zero, Nat.zero_add] at hc
  exact hc
end
end Go.Proofs.YtmmgipcacceakaaGreat

/-
  Lists of polynomials in memory, as they stand; the contract of view.mayBuild.
-/
import Derived.Test.YtmmgipcacceakaaGreatGV
set_option maxHeartbeats 40000000
set_option maxRecDepth 100000
namespace Go.Proofs.YtmmgipcacceakaaGreat
open Go.RowKit
def PlR [Ol] (w : World) (vs : List Value) (ps : List Raw) : Prop := ∃ po pn pc, vs = [.slice po pn pc] ∧ Pr w po pn pc ps
structure Plr [Ol] (w : World) (ao : Option Addr) (n cap : Nat) (ls : List (List Raw)) : Prop where
 ex : ∃ X, Gl 1 w ao n cap X ∧ Tms (PlR w) X ls
theorem PlR.below [Ol] {w w' : World} {vs : List Value} {ps : List Raw} (h : PlR w vs ps) (hb : Below w.heap.size w w') : PlR w' vs ps := by
 obtain ⟨po, pn, pc, h1, h2⟩ := h
 exact ⟨po, pn, pc, h1, h2.below hb⟩
theorem Plr.below [Ol] {w w' : World} {ao : Option Addr} {n cap : Nat} {ls : List (List Raw)} (h : Plr w ao n cap ls) (hb : Below w.heap.size w w') : Plr w' ao n cap ls := by
 obtain ⟨X, h1, h2⟩ := h.ex
 exact ⟨X, h1.below hb, h2.imp fun _ _ h => h.below hb⟩
theorem Plr.len [Ol] {w : World} {ao : Option Addr} {n cap : Nat} {ls : List (List Raw)} (h : Plr w ao n cap ls) : ls.length = n := by
 obtain ⟨X, h1, h2⟩ := h.ex; rw [← h1.len, Tms.len h2]
theorem Plr.at [Ol] {w : World} {ao : Option Addr} {n cap : Nat} {ls : List (List Raw)} (h : Plr w ao n cap ls) {k : Nat} (hk : k < n) :
  ∃ b off po pn pc, ao = some ⟨b, off, none⟩ ∧ b < w.heap.size ∧ (∀ V : World, Below w.heap.size w V → V.cell? ⟨b, off + k, none⟩ = some (.slice po pn pc)) ∧ Pr w po pn pc (ls.getD k []) := by
 have hl := h.len; obtain ⟨X, hG, hT⟩ := h.ex
 obtain ⟨b, off, rfl, hb⟩ := hG.some_of (by omega)
 obtain ⟨po, pn, pc, hv, hp⟩ := Tms.get [] hT k (by omega)
 refine ⟨b, off, po, pn, pc, rfl, hb, fun V hV => ?_, hp⟩
 have hc := (hG.below hV).cells _ rfl k hk 0 (by omega)
 rw [hv, Addr.add_lit, Nat.mul_one, Nat.add_zero] at hc
 exact hc
theorem Plr.big [Ol] {w : World} {ao : Option Addr} {n cap : Nat} {ls : List (List Raw)} (h : Plr w ao n cap ls) : n ≤ cap ∧ n ≤ 4398046511104 := by
 obtain ⟨X, hG, _⟩ := h.ex
 exact ⟨hG.le, hG.big⟩
section
variable {ao : Option Addr} {n cap : Nat} {ls : List (List Raw)} {w : World}
end
end Go.Proofs.YtmmgipcacceakaaGreat

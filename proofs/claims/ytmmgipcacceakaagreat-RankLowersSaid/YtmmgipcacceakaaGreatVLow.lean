/-
  Initials and tails are lower: plain facts.
-/
import Derived.Test.YtmmgipcacceakaaGreatGV
set_option maxHeartbeats 40000000
set_option maxRecDepth 100000
namespace Go.Proofs.YtmmgipcacceakaaGreat
open Go.RowKit
theorem init_lower {p : List Term} (hf : fall p) (hc : 0 < clsP p) : clsP (initP p) < clsP p := by
 have hz : ∀ u, clsP p ≤ u → degP (initP p) u = 0 := fun u hu => degP_is (Int.le_refl _) (fun t ht => by
  unfold initP coefP at ht
  obtain ⟨s, hs, rfl⟩ := List.mem_map.1 ht; have hsp := (List.mem_filter.1 hs).1
  show expo (outM (clsP p) s.2) u ≤ 0
  rw [outM_expo]
  split
  ·exact Int.le_refl _
  ·rename_i hne
   have := degP_ge hsp u
   rw [clsP_above hf (by omega)] at this
   exact this) (.inl rfl)
 refine Classical.byContradiction fun h => ?_
 have h1 := clsP_here (init_fall hf) (by omega)
 rw [hz _ (by omega)] at h1
 omega
theorem tail_lower {p : List Term} (hf : fall p) (hn : tailP p ≠ []) : degP (tailP p) (clsP p) < degP p (clsP p) := by
 obtain ⟨t, ht, h1⟩ := degP_att (fall_mays (tail_fall hf)) hn (clsP p)
 unfold tailP at ht
 have h2 := List.mem_filter.1 ht; have h3 := degP_ge h2.1 (clsP p)
 have h4 : ¬ expo t.2 (clsP p) = degP p (clsP p) := by simpa using h2.2
 omega
end Go.Proofs.YtmmgipcacceakaaGreat

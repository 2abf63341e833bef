/- PlLimbs -/
import Derived.Test.YtmmgipcacceakaaGreatGP5
set_option maxHeartbeats 40000000
set_option maxRecDepth 100000
namespace Go.Proofs.YtmmgipcacceakaaGreat
open Go.RowKit
def plnR (ps : List Raw) : List Term := if mayR ps = true then ps.map rawV else []
theorem pln_no {ps : List Raw} (h : mayR ps = false) : plnR ps = [] := by unfold plnR; rw [h]; rfl
theorem pln_yes {ps : List Raw} (h : mayR ps = true) : plnR ps = ps.map rawV := if_pos h
theorem pln_fall {ps : List Raw} (hw : ∀ t ∈ ps, Wf t.1.2) : fall (plnR ps) := by
 cases h : mayR ps with
 | false => rw [pln_no h]; trivial
 | true => rw [pln_yes h]; exact (mayR_yes hw h).1
theorem pln_raw {p : List Term} (h : fall p) : plnR (p.map rawC) = p := by
 rw [pln_yes (mayR_rawC h), List.map_map, show rawV ∘ rawC = id from funext rawV_rawC, List.map_id]
theorem pln_len (ps : List Raw) : (plnR ps).length ≤ ps.length := by
 unfold plnR
 split <;> simp
theorem Pr.wfs [Ol] {w : World} {ao : Option Addr} {n cap : Nat} {ps : List Raw} (h : Pr w ao n cap ps) : ∀ t ∈ ps, Wf t.1.2 := by
 intro t ht
 obtain ⟨i, hi, rfl⟩ := List.mem_iff_getElem.1 ht
 obtain ⟨_, _, _, _, _, _, _, _, _, _, _, hs, _⟩ := h.at (k := i) (by rw [← h.len]; exact hi)
 rw [getD_of _ hi] at hs
 exact hs.wf
theorem Pr.pln [Ol] {K : Nat} {w : World} {ao : Option Addr} {n cap : Nat} {ps : List Raw} (h : Pr w ao n cap ps) (hl : ∀ t ∈ ps, t.1.2.length ≤ K) (hm : mayR ps = true) : Pc K w ao n cap (plnR ps) ∧ ps = (plnR ps).map rawC := by
 obtain ⟨h1, h2⟩ := mayR_yes h.wfs hm; rw [pln_yes hm]
 exact ⟨Pr.pc (h2 ▸ h) (h2 ▸ hl), h2⟩
def OrZ [Ol] (K : Nat) (w : World) (n : Nat) (ps : List Raw) (e : Ending) (w' : World) : Prop := ∃ ao k cap, e = .returned (.slice ao k cap) ∧ Pc K w' ao k cap (plnR ps) ∧ k ≤ n ∧ Below w.heap.size w w'
section
variable {K : Nat} {ao : Option Addr} {n cap : Nat} {ps : List Raw} {w : World}
theorem orz_of [Ol] (hp : Pr w ao n cap ps) (hl : ∀ t ∈ ps, t.1.2.length ≤ K) {f : Nat}
  (h : ∀ r, mayR ps = r → Calls Tryz.prog f #[.slice ao n cap] w (RetB (if r = true then .slice ao n cap else .slice none 0 0) w)) : Calls Tryz.prog f #[.slice ao n cap] w (OrZ K w n ps) := by
 cases hm : mayR ps with
 | true =>
  refine (h true hm).mono ?_; rintro e w1 ⟨rfl, hB⟩
  exact ⟨ao, n, cap, rfl, (hp.pln hl hm).1.below hB, Nat.le_refl _, hB⟩
 | false =>
  refine (h false hm).mono ?_; rintro e w1 ⟨rfl, hB⟩
  exact ⟨none, 0, 0, rfl, by rw [pln_no hm]; exact Pc.zero K w1, Nat.zero_le _, hB⟩
theorem orZ_pc [Ol] (hp : Pr w ao n cap ps) (hl : ∀ t ∈ ps, t.1.2.length ≤ K) (hK : K ≤ 1000) : Calls Tryz.prog 83 #[.slice ao n cap] w (OrZ K w n ps) :=
 orz_of hp hl fun r hr => orZ_raw r hp (fun t ht => Nat.le_trans (hl t ht) hK) hr
end
end Go.Proofs.YtmmgipcacceakaaGreat

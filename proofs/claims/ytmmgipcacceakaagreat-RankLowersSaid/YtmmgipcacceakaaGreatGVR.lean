/- VRefA, VRef -/
import Derived.Test.YtmmgipcacceakaaGreatGV
set_option maxHeartbeats 40000000
set_option maxRecDepth 100000
namespace Go.Proofs.YtmmgipcacceakaaGreat
open Go.RowKit
theorem Pz.at [Ol] {K : Nat} {w : World} {ao : Option Addr} {n cap : Nat} {p : List Term} (h : Pz K w ao n cap p) {k : Nat} (hk : k < n) :
  ∃ b off xm xa xn xc xp xq xr, ao = some ⟨b, off, none⟩ ∧ b < w.heap.size ∧ Cell3 w b (off + k * 3) (.bool xm) (.slice xa xn xc) (.slice xp xq xr) ∧ Zd w xm xa xn xc (p.getD k (0, [])).1 ∧ Bd (p.getD k (0, [])).1 K ∧ Ml w xp xq xr (p.getD k (0, [])).2 := by
 have hl := h.len; obtain ⟨vss, hG, hT⟩ := h.ex
 obtain ⟨b, off, rfl, hb⟩ := hG.some_of (by omega)
 obtain ⟨xm, xa, xn, xc, xp, xq, xr, hv, h1, h2, h3⟩ := Tms.get (0, []) hT k (by omega)
 exact ⟨b, off, xm, xa, xn, xc, xp, xq, xr, rfl, hb, hG.cell3 hk hv, h1, h2, h3⟩
theorem Cell3.keep {w V : World} {b o : Nat} {u0 u1 u2 : Value} (h : Cell3 w b o u0 u1 u2) (hV : Below w.heap.size w V) : Cell3 V b o u0 u1 u2 := fun W hW => h W (Below.steps hV hW)
theorem coef_len (v e : Int) (p : List Term) : (coefP p v e).length ≤ p.length := by
 unfold coefP
 rw [List.length_map]
 exact List.length_filter_le _ _
section
variable {K : Nat} {ao : Option Addr} {n cap : Nat} {p : List Term} {w : World}
theorem init_len (p : List Term) : (initP p).length ≤ p.length := coef_len _ _ p
end
end Go.Proofs.YtmmgipcacceakaaGreat

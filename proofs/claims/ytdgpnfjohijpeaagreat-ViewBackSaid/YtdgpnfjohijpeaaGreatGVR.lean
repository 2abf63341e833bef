/- VRefA, VRef -/
import Derived.Test.YtdgpnfjohijpeaaGreatGV
set_option maxHeartbeats 40000000
set_option maxRecDepth 100000
namespace Go.Proofs.YtdgpnfjohijpeaaGreat
open Go.RowKit
theorem Pz.at {K : Nat} {w : World} {ao : Option Addr} {n cap : Nat} {p : List Term} (h : Pz K w ao n cap p) {k : Nat} (hk : k < n) :
  ∃ b off xm xa xn xc xp xq xr, ao = some ⟨b, off, none⟩ ∧ b < w.heap.size ∧ Cell3 w b (off + k * 3) (.bool xm) (.slice xa xn xc) (.slice xp xq xr) ∧ Zd w xm xa xn xc (p.getD k (0, [])).1 ∧ Bd (p.getD k (0, [])).1 K ∧ Ml w xp xq xr (p.getD k (0, [])).2 := by
 have hl := h.len; obtain ⟨vss, hG, hT⟩ := h.ex
 obtain ⟨b, off, rfl, hb⟩ := hG.some_of (by omega)
 obtain ⟨xm, xa, xn, xc, xp, xq, xr, hv, h1, h2, h3⟩ := Tms.get (0, []) hT k (by omega)
 exact ⟨b, off, xm, xa, xn, xc, xp, xq, xr, rfl, hb, hG.cell3 hk hv, h1, h2, h3⟩
theorem Cell3.keep {w V : World} {b o : Nat} {u0 u1 u2 : Value} (h : Cell3 w b o u0 u1 u2) (hV : Below w.heap.size w V) : Cell3 V b o u0 u1 u2 := fun W hW => h W (Below.steps hV hW)
def powP (v e : Int) : List Term := [(1, powM v e)]
theorem powP_fall {v e : Int} (hv : 1 ≤ v ∧ v ≤ 200) (he : 0 ≤ e ∧ e ≤ 10000) : fall (powP v e) := ⟨(by show (1 : Int) ≠ 0; decide), pow_may hv he, (fun _ h => by cases h), trivial⟩
theorem coef_len (v e : Int) (p : List Term) : (coefP p v e).length ≤ p.length := by
 unfold coefP
 rw [List.length_map]
 exact List.length_filter_le _ _
section
variable {K : Nat} {ao : Option Addr} {n cap : Nat} {p : List Term} {w : World}
theorem init_len (p : List Term) : (initP p).length ≤ p.length := coef_len _ _ p
theorem init_fit {p : List Term} (hf : fall p) (hc : 0 < clsP p) : fitT (initP p) (powP (clsP p) (degP p (clsP p))) := by
 have hb := clsP_bd hf
 intro a ha b hb2
 simp [powP] at hb2
 subst hb2
 unfold initP coefP at ha
 obtain ⟨t, ht, rfl⟩ := List.mem_map.1 ha; have ht2 := List.mem_filter.1 ht
 have he : expo t.2 (clsP p) = degP p (clsP p) := by simpa using ht2.2
 show mayM 0 (mulM (outM (clsP p) t.2) (powM (clsP p) (degP p (clsP p)))) = true
 rw [← he, out_back (fall_may hf t ht2.1) (by omega)]
 exact fall_may hf t ht2.1
theorem tail_split {c d : Int} (hv : 1 ≤ c ∧ c ≤ 200) (ρ : Nat → Int) : ∀ {p : List Term}, mays p →
  lin (fun m => evM m ρ) p - lin (fun m => if (expo m c == d) = true then evM (outM c m) ρ else 0) p * evM (powM c d) ρ = lin (fun m => if (!(expo m c == d)) = true then evM m ρ else 0) p
 | [], _ => by simp [lin]
 | t :: r, hm => by
  have ih := tail_split (d := d) hv ρ (p := r) (fun s hs => hm s (by simp [hs]))
  simp only [lin]
  by_cases h : expo t.2 c = d
  ·have h5 := evM_out (hm t (by simp)) hv ρ
   rw [h] at h5
   simp only [h, beq_self_eq_true, if_true, Bool.not_true, Bool.false_eq_true, if_false]
   rw [h5]
   grind
  ·have h6 : (expo t.2 c == d) = false := by simpa using h
   simp only [h6, Bool.not_false, if_true, Bool.false_eq_true, if_false]
   grind
theorem tail_sub {p : List Term} (hf : fall p) (hc : 0 < clsP p) : subT p (tryT (initP p) (powP (clsP p) (degP p (clsP p)))).1 = tailP p := by
 have hb := clsP_bd hf; have hft := init_fit hf hc
 have hv : 1 ≤ clsP p ∧ clsP p ≤ 200 := by omega
 have hpw := fall_mays (powP_fall hv ⟨degP_zero p (clsP p), degP_le (fall_mays hf) (clsP p)⟩); rw [tryT_yes hft]; have h1 := timesT_spec (fall_mays (init_fall hf)) hpw hft; have h2 := subT_spec hf (fall_mays h1.1)
 refine fall_ext h2.1 (tail_fall hf) fun ρ => ?_
 rw [h2.2, h1.2]; obtain ⟨c, hcc⟩ : ∃ c, clsP p = c := ⟨_, rfl⟩
 obtain ⟨d, hdd⟩ : ∃ d, degP p c = d := ⟨_, rfl⟩
 unfold initP tailP
 rw [hcc, hdd]
 rw [← lin_ev (coefP p c d), lin_coef, ← lin_ev (p.filter _), lin_filter (fun m => evM m ρ) (fun m => !(expo m c == d)) p, ← lin_ev p]
 show _ - _ * ev [(1, powM c d)] ρ = _
 have e1 : ev [(1, powM c d)] ρ = evM (powM c d) ρ := by simp [ev]
 rw [e1]; rw [hcc] at hv
 exact tail_split hv ρ (fall_mays hf)
end
end Go.Proofs.YtdgpnfjohijpeaaGreat

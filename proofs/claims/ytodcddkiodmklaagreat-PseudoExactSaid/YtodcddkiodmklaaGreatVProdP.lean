/-
  Products, sums and derivatives of polynomials as ones in a variable, in plain words: degrees, classes, initials, derivatives.
-/
import Derived.Test.YtodcddkiodmklaaGreatGV
set_option maxHeartbeats 40000000
set_option maxRecDepth 100000
namespace Go.Proofs.YtodcddkiodmklaaGreat
open Go.RowKit
theorem timesT_fall {p q : List Term} (hp : fall p) (hq : fall q) (hf : fitT p q) : fall (timesT p q) := (timesT_spec (fall_mays hp) (fall_mays hq) hf).1
theorem deg_times {p q : List Term} (hp : fall p) (hq : fall q) (hf : fitT p q) (hp0 : p ≠ []) (hq0 : q ≠ []) (v : Int) : degP (timesT p q) v = degP p v + degP q v := by
 have h1 := degP_zero p v; have h2 := degP_zero q v
 refine degP_is (by omega) (fun x hx => ?_) (.inr ?_)
 ·obtain ⟨t, ht, s, hs, e⟩ := times_mem hf hx (timesT_fall hp hq hf)
  rw [e, mulM_expo (fall_may hp t ht) (fall_may hq s hs)]
  have := degP_ge ht v
  have := degP_ge hs v
  omega
 ·obtain ⟨x, hx, h⟩ := times_top v hp hq hf hp0 hq0
  obtain ⟨t, ht, et⟩ := degP_att (fall_mays hp) hp0 v; obtain ⟨s, hs, es⟩ := degP_att (fall_mays hq) hq0 v
  refine ⟨x, hx, ?_⟩
  have h3 := h t ht s hs; obtain ⟨a, ha, b, hb, e⟩ := times_mem hf hx (timesT_fall hp hq hf)
  have h4 : expo x.2 v = expo a.2 v + expo b.2 v := by rw [e, mulM_expo (fall_may hp a ha) (fall_may hq b hb)]
  have := degP_ge ha v
  have := degP_ge hb v
  omega
end Go.Proofs.YtodcddkiodmklaaGreat

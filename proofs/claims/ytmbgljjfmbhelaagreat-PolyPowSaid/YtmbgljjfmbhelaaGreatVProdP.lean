/-
  Products, sums and derivatives of polynomials as ones in a variable, in plain words: degrees, classes, initials, derivatives.
-/
import Derived.Test.YtmbgljjfmbhelaaGreatGV
set_option maxHeartbeats 40000000
set_option maxRecDepth 100000
namespace Go.Proofs.YtmbgljjfmbhelaaGreat
open Go.RowKit
theorem timesT_fall {p q : List Term} (hp : fall p) (hq : fall q) (hf : fitT p q) : fall (timesT p q) := (zz184 (zz59 hp) (zz59 hq) hf).1
theorem deg_times {p q : List Term} (hp : fall p) (hq : fall q) (hf : fitT p q) (hp0 : p ≠ []) (hq0 : q ≠ []) (v : Int) : degP (timesT p q) v = degP p v + degP q v := by
 have h1 := zz44 p v; have h2 := zz44 q v
 refine degP_is (by omega) (fun x hx => ?_) (.inr ?_)
 ·obtain ⟨t, ht, s, hs, e⟩ := times_mem hf hx (timesT_fall hp hq hf)
  rw [e, zz118 (zz58 hp t ht) (zz58 hq s hs)]
  have := degP_ge ht v
  have := degP_ge hs v
  omega
 ·obtain ⟨x, hx, h⟩ := times_top v hp hq hf hp0 hq0
  obtain ⟨t, ht, et⟩ := zz43 (zz59 hp) hp0 v; obtain ⟨s, hs, es⟩ := zz43 (zz59 hq) hq0 v
  refine ⟨x, hx, ?_⟩
  have h3 := h t ht s hs; obtain ⟨a, ha, b, hb, e⟩ := times_mem hf hx (timesT_fall hp hq hf)
  have h4 : expo x.2 v = expo a.2 v + expo b.2 v := by rw [e, zz118 (zz58 hp a ha) (zz58 hq b hb)]
  have := degP_ge ha v
  have := degP_ge hb v
  omega
end Go.Proofs.YtmbgljjfmbhelaaGreat

/-
  The law ViewProducts, on any lists of terms.
-/
import Derived.Test.YtmaanhmdgmjhdaaGreatViewProductsB
set_option maxRecDepth 8192
namespace Go.Proofs.YtmaanhmdgmjhdaaGreat
open Go.RowKit
theorem viewProducts_any {ao bo : Option Addr} {n cap m cb : Nat} {ps qs : List Raw} {w : World} (v : Int) (hv64 : in64 v) (hp : Pr w ao n cap ps) (hq : Pr w bo m cb qs) :
    Calls Tryz.prog 12 #[.slice ao n cap, .slice bo m cb, .int .i64 v] w (RetB (.bool true) w) := by
  by_cases g0 : greatR ps 8 = true
  · exact viewProd_great0 v hv64 hp hq g0
  have g0 : greatR ps 8 = false := by simpa using g0
  by_cases g1 : greatR qs 8 = true
  · exact viewProd_great1 v hv64 hp hq g0 g1
  have g1 : greatR qs 8 = false := by simpa using g1
  obtain ⟨a1, a2⟩ := great_facts g0
  obtain ⟨b1, b2⟩ := great_facts g1
  have hpn := hp.len
  have hqm := hq.len
  have hn : n ≤ 8 := by omega
  have hm : m ≤ 8 := by omega
  have hlp : ∀ t ∈ ps, t.1.2.length ≤ 20 := fun t ht => (a2 t ht).1
  have hlq : ∀ t ∈ qs, t.1.2.length ≤ 20 := fun t ht => (b2 t ht).1
  rcases Nat.eq_zero_or_pos n with h0 | h0
  · exact viewProd_nil0 v hv64 hp hq g0 g1 h0
  rcases Nat.eq_zero_or_pos m with h1 | h1
  · exact viewProd_nil1 v hv64 hp hq g0 g1 h0 h1
  cases ha : mayR ps with
  | false => exact viewProd_bad1 v hv64 hp hq g0 g1 hlp hlq hn hm h0 h1 ha
  | true =>
    cases hb : mayR qs with
    | false => exact viewProd_bad2 v hv64 hp hq g0 g1 hlp hlq hn hm h0 h1 ha hb
    | true =>
      obtain ⟨hfp, hpp⟩ := mayR_yes hp.wf ha
      obtain ⟨hfq, hqq⟩ := mayR_yes hq.wf hb
      generalize ps.map rawV = p at hpp hfp
      generalize qs.map rawV = q at hqq hfq
      subst hpp
      subst hqq
      rw [List.length_map] at hpn hqm
      cases hf : fitB p q with
      | false => exact viewProd_nofit v hv64 hp hq g0 g1 hlp hlq hn hm h0 h1 hfp hfq hpn hqm hf
      | true =>
        by_cases he : clsP p = clsP q
        · exact viewProd_same v hv64 hp hq g0 g1 hlp hlq hn hm h0 h1 hfp hfq hpn hqm hf he
        · exact viewProd_other v hv64 hp hq g0 g1 hlp hlq hn hm h0 h1 hfp hfq hpn hqm hf he
end Go.Proofs.YtmaanhmdgmjhdaaGreat

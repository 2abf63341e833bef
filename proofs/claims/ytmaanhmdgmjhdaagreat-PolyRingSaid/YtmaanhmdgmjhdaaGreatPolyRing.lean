/-
  The law PolyRing, both lists being polynomials.
-/
import Derived.Test.YtmaanhmdgmjhdaaGreatPolyRingC
set_option maxRecDepth 8192
namespace Go.Proofs.YtmaanhmdgmjhdaaGreat
open Go.RowKit
theorem polyRing_any {ao bo : Option Addr} {n cap m cb : Nat} {ps qs : List Raw} {w : World} (hp : Pr w ao n cap ps) (hq : Pr w bo m cb qs) :
    Calls Tryz.prog 3 #[.slice ao n cap, .slice bo m cb] w (RetB (.bool true) w) := by
  by_cases hg : greatR ps 20 = true
  · exact polyRing_great1 hp hq hg
  by_cases hh : greatR qs 20 = true
  · exact polyRing_great2 hp hq (by simpa using hg) hh
  have hg : greatR ps 20 = false := by simpa using hg
  have hh : greatR qs 20 = false := by simpa using hh
  obtain ⟨g1, g2⟩ := great_facts hg
  obtain ⟨g3, g4⟩ := great_facts hh
  have hpn := hp.len
  have hqn := hq.len
  have hn : n ≤ 20 := by omega
  have hm : m ≤ 20 := by omega
  have hlp : ∀ t ∈ ps, t.1.2.length ≤ 1000 := fun t ht => by have := (g2 t ht).1; omega
  have hlq : ∀ t ∈ qs, t.1.2.length ≤ 1000 := fun t ht => by have := (g4 t ht).1; omega
  cases h1 : mayR ps with
  | false =>
    exact polyRing_bad1 hp hq hg hh hpn hqn hn hm hlp hlq h1 _ rfl _ rfl
  | true =>
    obtain ⟨hfp, hpp⟩ := mayR_yes hp.wf h1
    cases h2 : mayR qs with
    | false =>
      exact polyRing_bad2 hp hq hg hh hpn hqn hn hm hlp hlq _ hpp hfp (fun t ht => (g2 t ht).1) h1 h2 _ rfl
    | true =>
      obtain ⟨hfq, hqq⟩ := mayR_yes hq.wf h2
      generalize ps.map rawV = p at hpp hfp
      generalize qs.map rawV = q at hqq hfq
      subst hpp
      subst hqq
      cases hf : fitB p q with
      | true => exact polyRing_fit hp hq hg hh hpn hqn hn hm (fun t ht => (g2 t ht).1) (fun t ht => (g4 t ht).1) hfp hfq hf _ rfl
      | false => exact polyRing_nofit hp hq hg hh hpn hqn hn hm (fun t ht => (g2 t ht).1) (fun t ht => (g4 t ht).1) hfp hfq hf _ rfl
end Go.Proofs.YtmaanhmdgmjhdaaGreat

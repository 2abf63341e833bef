/-
  The law PolyLaws, on any lists of terms.
-/
import Derived.Test.YtmbgljjfmbhelaaGreatPolyLawsD
import Derived.Test.YtmbgljjfmbhelaaGreatGP8
set_option maxRecDepth 8192
namespace Go.Proofs.YtmbgljjfmbhelaaGreat
open Go.RowKit
theorem polyLaws_any {ao bo ro : Option Addr} {n cap m cb k cr : Nat} {ps qs rs : List Raw} {w : World} (hp : Pr w ao n cap ps) (hq : Pr w bo m cb qs) (hr : Pr w ro k cr rs) :
    Calls Tryz.prog 7 #[.slice ao n cap, .slice bo m cb, .slice ro k cr] w (RetB (.bool true) w) := by
  by_cases g0 : greatR ps 8 = true
  · exact polyLaws_great0 hp hq hr g0
  have g0 : greatR ps 8 = false := by simpa using g0
  by_cases g1 : greatR qs 8 = true
  · exact polyLaws_great1 hp hq hr g0 g1
  have g1 : greatR qs 8 = false := by simpa using g1
  by_cases g2 : greatR rs 8 = true
  · exact polyLaws_great2 hp hq hr g0 g1 g2
  have g2 : greatR rs 8 = false := by simpa using g2
  obtain ⟨a1, a2⟩ := great_facts g0
  obtain ⟨b1, b2⟩ := great_facts g1
  obtain ⟨c1, c2⟩ := great_facts g2
  have hpn := hp.len
  have hqn := hq.len
  have hrn := hr.len
  have hn : n ≤ 8 := by omega
  have hm : m ≤ 8 := by omega
  have hk : k ≤ 8 := by omega
  have hlp : ∀ t ∈ ps, t.1.2.length ≤ 20 := fun t ht => (a2 t ht).1
  have hlq : ∀ t ∈ qs, t.1.2.length ≤ 20 := fun t ht => (b2 t ht).1
  have hlr : ∀ t ∈ rs, t.1.2.length ≤ 20 := fun t ht => (c2 t ht).1
  have bx := limR_bd hlp hp.wfs
  have by_ := limR_bd hlq hq.wfs
  have bz := limR_bd hlr hr.wfs
  by_cases ho : 24 < limR ps + limR qs + limR rs
  · exact polyLaws_over hp hq hr g0 g1 g2 hlp hlq hlr _ _ _ rfl rfl rfl bx by_ bz ho
  have hg : decide (24 < limR ps + limR qs + limR rs) = false := decide_eq_false ho
  cases h1 : mayR ps with
  | false => exact polyLaws_bad1 hp hq hr g0 g1 g2 hlp hlq hlr hn hm hk _ _ _ rfl rfl rfl bx by_ bz hg h1
  | true =>
    cases h2 : mayR qs with
    | false => exact polyLaws_bad2 hp hq hr g0 g1 g2 hlp hlq hlr hn hm hk _ _ _ rfl rfl rfl bx by_ bz hg h1 h2
    | true =>
      obtain ⟨hfp, hpp⟩ := mayR_yes hp.wf h1
      obtain ⟨hfq, hqq⟩ := mayR_yes hq.wf h2
      generalize ps.map rawV = p at hpp hfp
      generalize qs.map rawV = q at hqq hfq
      subst hpp
      subst hqq
      rw [List.length_map] at hpn hqn
      cases h3 : mayR rs with
      | false => exact polyLaws_bad3 hp hq hr g0 g1 g2 hlp hlq hlr hn hm _ _ _ rfl rfl rfl bx by_ bz hg hfp hfq hpn hqn h3
      | true =>
        obtain ⟨hfr, hrr⟩ := mayR_yes hr.wf h3
        generalize rs.map rawV = r at hrr hfr
        subst hrr
        rw [List.length_map] at hrn
        by_cases hno : errT p q = 0 ∧ errT (addT p q) r = 0 ∧ errT p r = 0 ∧ errT q r = 0
        · exact polyLaws_all hp hq hr g0 g1 g2 hlp hlq hlr hn hm hk _ _ _ rfl rfl rfl bx by_ bz hg hfp hfq hpn hqn hfr hrn (err_fit hno.1) (err_fit hno.2.1) (err_fit hno.2.2.1) (err_fit hno.2.2.2)
        · exact polyLaws_some hp hq hr g0 g1 g2 hlp hlq hlr hn hm hk _ _ _ rfl rfl rfl bx by_ bz hg hfp hfq hpn hqn hfr hrn hno
end Go.Proofs.YtmbgljjfmbhelaaGreat

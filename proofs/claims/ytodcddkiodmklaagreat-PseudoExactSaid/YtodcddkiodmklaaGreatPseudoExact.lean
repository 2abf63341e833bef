/-
  The law PseudoExact.
-/
import Derived.Test.YtodcddkiodmklaaGreatPseudoIdentity
set_option maxHeartbeats 40000000
set_option maxRecDepth 100000
namespace Go.Proofs.YtodcddkiodmklaaGreat
open Lib (hid)
open Go.RowKit
theorem exact_div {p g : List Term} {v E F : Int} {N s : Nat} (hp : fall p) (hf : fitT p g) (hd : DivOk g (timesT p g) v E F N) (hl : Long g v (timesT p g) s) (hr : degP (itP g v (timesT p g) s).2 v < degP g v) (hx : ∀ u, (s : Int) * degP (hdP g v) u ≤ 10000) (hX : fitT (powT (hdP g v) s).1 p) {M : Int} (hM : EB (timesT (powT (hdP g v) s).1 p) M) (hq : EB (itP g v (timesT p g) s).1 M) (h0 : M + E ≤ 10000) :
  (itP g v (timesT p g) s).2 = [] ∧ (itP g v (timesT p g) s).1 = timesT (powT (hdP g v) s).1 p := by
 have hi := hd.it s hl; have hpf := powT_fall (fall_mays (hd_fall hd.fg v)) s; have hXf := timesT_fall hpf hp hX; have hDs := subT_spec hXf (fall_mays hi.fq)
 have hev : ∀ ρ, ev (subT (timesT (powT (hdP g v) s).1 p) (itP g v (timesT p g) s).1) ρ * ev g ρ = ev (itP g v (timesT p g) s).2 ρ := fun ρ => by
  have h1 := hi.ev ρ; rw [hDs.2, (timesT_spec (fall_mays hpf) (fall_mays hp) hX).2, powT_ev (hd_fall hd.fg v) hx ρ s (Nat.le_refl s)]; rw [(timesT_spec (fall_mays hp) (fall_mays hd.fg) hf).2] at h1
  grind
 have hDE : EB (subT (timesT (powT (hdP g v) s).1 p) (itP g v (timesT p g) s).1) M := fun t ht u => by
  obtain ⟨y, hy | hy, e⟩ := sub_mem hXf (fall_mays hi.fq) ht
  ·rw [← e]; exact hM y hy u
  ·rw [← e]; exact hq y hy u
 have hDf : fitT (subT (timesT (powT (hdP g v) s).1 p) (itP g v (timesT p g) s).1) g := EB.fit (fall_mays hDs.1) (fall_mays hd.fg) hDE hd.eg h0
 have hg0 : g ≠ [] := fun e => by have := hd.h1; rw [e] at this; simp [degP] at this
 have hD0 : subT (timesT (powT (hdP g v) s).1 p) (itP g v (timesT p g) s).1 = [] := Classical.byContradiction fun hne => by
  have h2 : timesT (subT (timesT (powT (hdP g v) s).1 p) (itP g v (timesT p g) s).1) g = (itP g v (timesT p g) s).2 := fall_ext (timesT_fall hDs.1 hd.fg hDf) hi.fr fun ρ => by rw [(timesT_spec (fall_mays hDs.1) (fall_mays hd.fg) hDf).2]; exact hev ρ
  have h3 := deg_times hDs.1 hd.fg hDf hne hg0 v; rw [h2] at h3
  have := degP_zero (subT (timesT (powT (hdP g v) s).1 p) (itP g v (timesT p g) s).1) v
  omega
 refine ⟨fall_ext hi.fr trivial fun ρ => ?_, fall_ext hi.fq hXf fun ρ => ?_⟩
 ·rw [← hev ρ, hD0]; simp [ev]
 ·have h4 := hDs.2 ρ
  rw [hD0] at h4
  simp only [ev] at h4
  omega
theorem cn_r4 : ∀ k, k < 5 → ∀ n, n < 17 → cn k n ≤ 969 := by decide +kernel
theorem cn_q4 : ∀ k, k < 5 → ∀ n, n < 16 → cn k n ≤ 816 := by decide +kernel
theorem exact_sz {p g : List Term} (hp : Sm 4 p) (hg : Sm 4 g) : SzB g (timesT p g) 16 15504 13056 (4294967296 ^ 9) (4294967296 ^ 18) 172 := by
 have hl1 := hp.l; have hl2 := hg.l
 have hl3 : (timesT p g).length ≤ 16 := Nat.le_trans (timesT_length p g) (Nat.mul_le_mul hl1 hl2)
 refine ⟨by omega, fun n hn => ?_, fun n hn => ?_, by omega, by omega, by omega, by omega, Nat.pow_pos (by omega), hg.sum (by omega), ?_, by decide +kernel⟩
 ·exact Nat.mul_le_mul hl3 (cn_r4 _ (by omega) n (by omega))
 ·exact Nat.mul_le_mul hl3 (cn_q4 _ (by omega) n (by omega))
 ·refine Nat.le_trans (sumC_times _ _) ?_
  rw [show (18 : Nat) = 9 + 9 from rfl, Nat.pow_add]
  exact Nat.mul_le_mul (hp.sum (by omega)) (hg.sum (by omega))
theorem eb_times {p q : List Term} {E F : Int} (hp : fall p) (hq : fall q) (hf : fitT p q) (h : EB p E) (k : EB q F) : EB (timesT p q) (E + F) := fun x hx u => by
 obtain ⟨t, ht, s, hs, e⟩ := times_mem hf hx (timesT_fall hp hq hf); rw [e, mulM_expo (fall_mays hp t ht) (fall_mays hq s hs)]
 have := h t ht u
 have := k s hs u
 omega
theorem exact_ok {p g : List Term} {v : Int} (hp : Sm 4 p) (hg : Sm 4 g) (hf : fitT p g) (hv : 1 ≤ v ∧ v ≤ 200) (h1 : 1 ≤ degP g v) : DivOk g (timesT p g) v 8 16 16 := by
 have he : EB (timesT p g) 16 := (eb_times hp.f hg.f hf hp.e hg.e).mono (by omega)
 exact ⟨hg.f, timesT_fall hp.f hg.f hf, hv, h1, hg.e, he, by omega, by omega, eb_deg he (by omega) v, by omega⟩
theorem sm_four {p : List Term} (h : Sm 8 p) (hl : p.length ≤ 4) : Sm 4 p := ⟨h.f, hl, h.b, h.e⟩
theorem pex_long1 [Ol] {ao bo : Option Addr} {n cap m cb : Nat} {ps qs : List Raw} {w : World} (v : Int) (hp : Pr w ao n cap ps) (hq : Pr w bo m cb qs) (hlo : Ol.lo ≤ w.heap.size)
  (hn : 4 < n) :
  Calls Tryz.prog 6 #[.slice ao n cap, .slice bo m cb, .int .i64 v] w (RetB (.bool true) w) := by
 have hn4 : decide ((4 : Int) < (n : Int)) = true := decide_eq_true (by omega)
 have P_0 := hid hp; have Q_0 := hid hq; have HB_0 := hid (Below.refl w.heap.size w); have HLO := hid hlo
 have HMV : Hid (∀ V, MvIs V (.pointer none) none none) := fun V => .inl ⟨rfl, rfl, rfl⟩
 clear hlo hp hq
 go_enter Tryz.func6, Tryz.ntmps6
 go_wp2_with fail; refine (pgreat_any v P_0.out).mono ?_
 rintro e w1 ⟨r0, rfl, hB, hg0⟩; have P_1 := hid (P_0.out.below hB); have Q_1 := hid (Q_0.out.below hB); have HB_1 := hid (Below.steps HB_0.out hB); clear hB  HB_0 P_0 Q_0
 rcases Bool.eq_false_or_eq_true r0 with hr0 | hr0
 ·subst hr0
  clear hg0; go_wp2_with fail; refine (known12_any _ (Nat.le_trans HLO.out HB_1.out.size)).mono ?_; rintro e w2 ⟨rfl, hB⟩; have P_2 := hid (P_1.out.below hB); have Q_2 := hid (Q_1.out.below hB); have HB_2 := hid (Below.steps HB_1.out hB); clear hB  HB_1 P_1 Q_1; go_wp2_with fail
  go_ret
  exact ⟨rfl, HB_2.out⟩
 ·skip
  subst hr0; have HG0 := hid (hg0 rfl); clear hg0; go_wp2_with fail; refine (pgreat_any v Q_1.out).mono ?_; rintro e w2 ⟨r1, rfl, hB, hg1⟩; have P_2 := hid (P_1.out.below hB); have Q_2 := hid (Q_1.out.below hB); have HB_2 := hid (Below.steps HB_1.out hB); clear hB  HB_1 P_1 Q_1
  rcases Bool.eq_false_or_eq_true r1 with hr1 | hr1
  ·subst hr1
   clear hg1; go_wp2_with fail; refine (known12_any _ (Nat.le_trans HLO.out HB_2.out.size)).mono ?_; rintro e w3 ⟨rfl, hB⟩; have P_3 := hid (P_2.out.below hB); have Q_3 := hid (Q_2.out.below hB); have HB_3 := hid (Below.steps HB_2.out hB); clear hB  HB_2 P_2 Q_2; go_wp2_with fail
   go_ret
   exact ⟨rfl, HB_3.out⟩
  ·skip
   subst hr1; have HG1 := hid (hg1 rfl); clear hg1; go_wp2_with fail; refine (known12_any _ (Nat.le_trans HLO.out HB_2.out.size)).mono ?_; rintro e w3 ⟨rfl, hB⟩; have P_3 := hid (P_2.out.below hB); have Q_3 := hid (Q_2.out.below hB); have HB_3 := hid (Below.steps HB_2.out hB); clear hB  HB_2 P_2 Q_2; go_wp2_with fail
   go_ret
   exact ⟨rfl, HB_3.out⟩
theorem pex_long2 [Ol] {ao bo : Option Addr} {n cap m cb : Nat} {ps qs : List Raw} {w : World} (v : Int) (hp : Pr w ao n cap ps) (hq : Pr w bo m cb qs) (hlo : Ol.lo ≤ w.heap.size)
  (hn : n ≤ 4) (hm : 4 < m) :
  Calls Tryz.prog 6 #[.slice ao n cap, .slice bo m cb, .int .i64 v] w (RetB (.bool true) w) := by
 have hn4 : decide ((4 : Int) < (n : Int)) = false := decide_eq_false (by omega)
 have hm4 : decide ((4 : Int) < (m : Int)) = true := decide_eq_true (by omega)
 have P_0 := hid hp; have Q_0 := hid hq; have HB_0 := hid (Below.refl w.heap.size w); have HLO := hid hlo
 have HMV : Hid (∀ V, MvIs V (.pointer none) none none) := fun V => .inl ⟨rfl, rfl, rfl⟩
 clear hlo hp hq
 go_enter Tryz.func6, Tryz.ntmps6
 go_wp2_with fail; refine (pgreat_any v P_0.out).mono ?_
 rintro e w1 ⟨r0, rfl, hB, hg0⟩; have P_1 := hid (P_0.out.below hB); have Q_1 := hid (Q_0.out.below hB); have HB_1 := hid (Below.steps HB_0.out hB); clear hB  HB_0 P_0 Q_0
 rcases Bool.eq_false_or_eq_true r0 with hr0 | hr0
 ·subst hr0
  clear hg0; go_wp2_with fail; refine (known12_any _ (Nat.le_trans HLO.out HB_1.out.size)).mono ?_; rintro e w2 ⟨rfl, hB⟩; have P_2 := hid (P_1.out.below hB); have Q_2 := hid (Q_1.out.below hB); have HB_2 := hid (Below.steps HB_1.out hB); clear hB  HB_1 P_1 Q_1; go_wp2_with fail
  go_ret
  exact ⟨rfl, HB_2.out⟩
 ·skip
  subst hr0; have HG0 := hid (hg0 rfl); clear hg0; go_wp2_with fail; refine (pgreat_any v Q_1.out).mono ?_; rintro e w2 ⟨r1, rfl, hB, hg1⟩; have P_2 := hid (P_1.out.below hB); have Q_2 := hid (Q_1.out.below hB); have HB_2 := hid (Below.steps HB_1.out hB); clear hB  HB_1 P_1 Q_1
  rcases Bool.eq_false_or_eq_true r1 with hr1 | hr1
  ·subst hr1
   clear hg1; go_wp2_with fail; refine (known12_any _ (Nat.le_trans HLO.out HB_2.out.size)).mono ?_; rintro e w3 ⟨rfl, hB⟩; have P_3 := hid (P_2.out.below hB); have Q_3 := hid (Q_2.out.below hB); have HB_3 := hid (Below.steps HB_2.out hB); clear hB  HB_2 P_2 Q_2; go_wp2_with fail
   go_ret
   exact ⟨rfl, HB_3.out⟩
  ·skip
   subst hr1; have HG1 := hid (hg1 rfl); clear hg1; go_wp2_with fail; refine (known12_any _ (Nat.le_trans HLO.out HB_2.out.size)).mono ?_; rintro e w3 ⟨rfl, hB⟩; have P_3 := hid (P_2.out.below hB); have Q_3 := hid (Q_2.out.below hB); have HB_3 := hid (Below.steps HB_2.out hB); clear hB  HB_2 P_2 Q_2; go_wp2_with fail
   go_ret
   exact ⟨rfl, HB_3.out⟩
theorem pex_bad1 [Ol] {ao bo : Option Addr} {n cap m cb : Nat} {ps qs : List Raw} {w : World} (v : Int) (hp : Pr w ao n cap ps) (hq : Pr w bo m cb qs) (hlo : Ol.lo ≤ w.heap.size)
  (hn : n ≤ 4) (hm : m ≤ 4) (hb : mayR ps = false) :
  Calls Tryz.prog 6 #[.slice ao n cap, .slice bo m cb, .int .i64 v] w (RetB (.bool true) w) := by
 have hn4 : decide ((4 : Int) < (n : Int)) = false := decide_eq_false (by omega)
 have hm4 : decide ((4 : Int) < (m : Int)) = false := decide_eq_false (by omega)
 have P_0 := hid hp; have Q_0 := hid hq; have HB_0 := hid (Below.refl w.heap.size w); have HLO := hid hlo
 have HMV : Hid (∀ V, MvIs V (.pointer none) none none) := fun V => .inl ⟨rfl, rfl, rfl⟩
 clear hlo hp hq
 go_enter Tryz.func6, Tryz.ntmps6
 go_wp2_with fail; refine (pgreat_any v P_0.out).mono ?_
 rintro e w1 ⟨r0, rfl, hB, hg0⟩; have P_1 := hid (P_0.out.below hB); have Q_1 := hid (Q_0.out.below hB); have HB_1 := hid (Below.steps HB_0.out hB); clear hB  HB_0 P_0 Q_0
 rcases Bool.eq_false_or_eq_true r0 with hr0 | hr0
 ·subst hr0
  clear hg0; go_wp2_with fail; refine (known12_any _ (Nat.le_trans HLO.out HB_1.out.size)).mono ?_; rintro e w2 ⟨rfl, hB⟩; have P_2 := hid (P_1.out.below hB); have Q_2 := hid (Q_1.out.below hB); have HB_2 := hid (Below.steps HB_1.out hB); clear hB  HB_1 P_1 Q_1; go_wp2_with fail
  go_ret
  exact ⟨rfl, HB_2.out⟩
 ·skip
  subst hr0; have HG0 := hid (hg0 rfl); clear hg0; go_wp2_with fail; refine (pgreat_any v Q_1.out).mono ?_; rintro e w2 ⟨r1, rfl, hB, hg1⟩; have P_2 := hid (P_1.out.below hB); have Q_2 := hid (Q_1.out.below hB); have HB_2 := hid (Below.steps HB_1.out hB); clear hB  HB_1 P_1 Q_1
  rcases Bool.eq_false_or_eq_true r1 with hr1 | hr1
  ·subst hr1
   clear hg1; go_wp2_with fail; refine (known12_any _ (Nat.le_trans HLO.out HB_2.out.size)).mono ?_; rintro e w3 ⟨rfl, hB⟩; have P_3 := hid (P_2.out.below hB); have Q_3 := hid (Q_2.out.below hB); have HB_3 := hid (Below.steps HB_2.out hB); clear hB  HB_2 P_2 Q_2; go_wp2_with fail
   go_ret
   exact ⟨rfl, HB_3.out⟩
  ·skip
   subst hr1; have HG1 := hid (hg1 rfl); clear hg1; go_wp2_with fail
   refine (ptimes_bad1 P_2.out (fun t ht => Nat.le_trans (HG0.out.2.1 t ht) (by omega)) hb).mono ?_
   rintro e w3 ⟨vco, vcn, vcc, rfl, hX, hB⟩; clear hX; have P_3 := hid (P_2.out.below hB); have Q_3 := hid (Q_2.out.below hB); have HB_3 := hid (Below.steps HB_2.out hB); clear hB  HB_2 P_2 Q_2; go_wp2_with fail; refine (known12_any _ (Nat.le_trans HLO.out HB_3.out.size)).mono ?_; rintro e w4 ⟨rfl, hB⟩; have P_4 := hid (P_3.out.below hB); have Q_4 := hid (Q_3.out.below hB); have HB_4 := hid (Below.steps HB_3.out hB); clear hB  HB_3 P_3 Q_3; go_wp2_with fail
   go_ret
   exact ⟨rfl, HB_4.out⟩
theorem pex_bad2 [Ol] {ao bo : Option Addr} {n cap m cb : Nat} {ps qs : List Raw} {w : World} (v : Int) (hp : Pr w ao n cap ps) (hq : Pr w bo m cb qs) (hlo : Ol.lo ≤ w.heap.size)
  (hn : n ≤ 4) (hm : m ≤ 4) (ha : mayR ps = true) (hb : mayR qs = false) :
  Calls Tryz.prog 6 #[.slice ao n cap, .slice bo m cb, .int .i64 v] w (RetB (.bool true) w) := by
 have hn4 : decide ((4 : Int) < (n : Int)) = false := decide_eq_false (by omega)
 have hm4 : decide ((4 : Int) < (m : Int)) = false := decide_eq_false (by omega)
 have P_0 := hid hp; have Q_0 := hid hq; have HB_0 := hid (Below.refl w.heap.size w); have HLO := hid hlo
 have HMV : Hid (∀ V, MvIs V (.pointer none) none none) := fun V => .inl ⟨rfl, rfl, rfl⟩
 clear hlo hp hq
 go_enter Tryz.func6, Tryz.ntmps6
 go_wp2_with fail; refine (pgreat_any v P_0.out).mono ?_
 rintro e w1 ⟨r0, rfl, hB, hg0⟩; have P_1 := hid (P_0.out.below hB); have Q_1 := hid (Q_0.out.below hB); have HB_1 := hid (Below.steps HB_0.out hB); clear hB  HB_0 P_0 Q_0
 rcases Bool.eq_false_or_eq_true r0 with hr0 | hr0
 ·subst hr0
  clear hg0; go_wp2_with fail; refine (known12_any _ (Nat.le_trans HLO.out HB_1.out.size)).mono ?_; rintro e w2 ⟨rfl, hB⟩; have P_2 := hid (P_1.out.below hB); have Q_2 := hid (Q_1.out.below hB); have HB_2 := hid (Below.steps HB_1.out hB); clear hB  HB_1 P_1 Q_1; go_wp2_with fail
  go_ret
  exact ⟨rfl, HB_2.out⟩
 ·skip
  subst hr0; have HG0 := hid (hg0 rfl); clear hg0; go_wp2_with fail; refine (pgreat_any v Q_1.out).mono ?_; rintro e w2 ⟨r1, rfl, hB, hg1⟩; have P_2 := hid (P_1.out.below hB); have Q_2 := hid (Q_1.out.below hB); have HB_2 := hid (Below.steps HB_1.out hB); clear hB  HB_1 P_1 Q_1
  rcases Bool.eq_false_or_eq_true r1 with hr1 | hr1
  ·subst hr1
   clear hg1; go_wp2_with fail; refine (known12_any _ (Nat.le_trans HLO.out HB_2.out.size)).mono ?_; rintro e w3 ⟨rfl, hB⟩; have P_3 := hid (P_2.out.below hB); have Q_3 := hid (Q_2.out.below hB); have HB_3 := hid (Below.steps HB_2.out hB); clear hB  HB_2 P_2 Q_2; go_wp2_with fail
   go_ret
   exact ⟨rfl, HB_3.out⟩
  ·skip
   subst hr1; have HG1 := hid (hg1 rfl); clear hg1; go_wp2_with fail
   refine (ptimes_bad2 P_2.out (fun t ht => Nat.le_trans (HG0.out.2.1 t ht) (by omega)) ha Q_2.out (fun t ht => Nat.le_trans (HG1.out.2.1 t ht) (by omega)) hb).mono ?_
   rintro e w3 ⟨vco, vcn, vcc, rfl, hX, hB⟩; clear hX; have P_3 := hid (P_2.out.below hB); have Q_3 := hid (Q_2.out.below hB); have HB_3 := hid (Below.steps HB_2.out hB); clear hB  HB_2 P_2 Q_2; go_wp2_with fail; refine (known12_any _ (Nat.le_trans HLO.out HB_3.out.size)).mono ?_; rintro e w4 ⟨rfl, hB⟩; have P_4 := hid (P_3.out.below hB); have Q_4 := hid (Q_3.out.below hB); have HB_4 := hid (Below.steps HB_3.out hB); clear hB  HB_3 P_3 Q_3; go_wp2_with fail
   go_ret
   exact ⟨rfl, HB_4.out⟩
theorem pex_main [Ol] {ao bo : Option Addr} {n cap m cb : Nat} {p q : List Term} {w : World} (v : Int) (hp : Pr w ao n cap (p.map rawC)) (hq : Pr w bo m cb (q.map rawC)) (hlo : Ol.lo ≤ w.heap.size)
  (hfp : fall p) (hfq : fall q) (hn : n ≤ 4) (hm : m ≤ 4) :
  Calls Tryz.prog 6 #[.slice ao n cap, .slice bo m cb, .int .i64 v] w (RetB (.bool true) w) := by
 have hn4 : decide ((4 : Int) < (n : Int)) = false := decide_eq_false (by omega)
 have hm4 : decide ((4 : Int) < (m : Int)) = false := decide_eq_false (by omega)
 have P_0 := hid hp; have Q_0 := hid hq; have HB_0 := hid (Below.refl w.heap.size w); have HLO := hid hlo
 have HMV : Hid (∀ V, MvIs V (.pointer none) none none) := fun V => .inl ⟨rfl, rfl, rfl⟩
 clear hlo hp hq
 go_enter Tryz.func6, Tryz.ntmps6
 go_wp2_with fail; refine (pgreat_any v P_0.out).mono ?_
 rintro e w1 ⟨r0, rfl, hB, hg0⟩; have P_1 := hid (P_0.out.below hB); have Q_1 := hid (Q_0.out.below hB); have HB_1 := hid (Below.steps HB_0.out hB); clear hB  HB_0 P_0 Q_0
 rcases Bool.eq_false_or_eq_true r0 with hr0 | hr0
 ·subst hr0
  clear hg0; go_wp2_with fail; refine (known12_any _ (Nat.le_trans HLO.out HB_1.out.size)).mono ?_; rintro e w2 ⟨rfl, hB⟩; have P_2 := hid (P_1.out.below hB); have Q_2 := hid (Q_1.out.below hB); have HB_2 := hid (Below.steps HB_1.out hB); clear hB  HB_1 P_1 Q_1; go_wp2_with fail
  go_ret
  exact ⟨rfl, HB_2.out⟩
 ·skip
  subst hr0; have HG0 := hid (hg0 rfl); clear hg0; go_wp2_with fail; refine (pgreat_any v Q_1.out).mono ?_; rintro e w2 ⟨r1, rfl, hB, hg1⟩; have P_2 := hid (P_1.out.below hB); have Q_2 := hid (Q_1.out.below hB); have HB_2 := hid (Below.steps HB_1.out hB); clear hB  HB_1 P_1 Q_1
  rcases Bool.eq_false_or_eq_true r1 with hr1 | hr1
  ·subst hr1
   clear hg1; go_wp2_with fail; refine (known12_any _ (Nat.le_trans HLO.out HB_2.out.size)).mono ?_; rintro e w3 ⟨rfl, hB⟩; have P_3 := hid (P_2.out.below hB); have Q_3 := hid (Q_2.out.below hB); have HB_3 := hid (Below.steps HB_2.out hB); clear hB  HB_2 P_2 Q_2; go_wp2_with fail
   go_ret
   exact ⟨rfl, HB_3.out⟩
  ·skip
   subst hr1; have HG1 := hid (hg1 rfl); clear hg1; have PC_2 := hid (Pr.pc (p := p) P_2.out HG0.out.2.1); have QC_2 := hid (Pr.pc (p := q) Q_2.out HG1.out.2.1)
   have hsp : Sm 4 p := sm_four (sm_of hfp HG0.out PC_2.out.bds) (by have := PC_2.out.len; omega)
   have hsq : Sm 4 q := sm_four (sm_of hfq HG1.out QC_2.out.bds) (by have := QC_2.out.len; omega)
   have HSP := hid hsp; have HSQ := hid hsq
   have hft : fitT p q := EB.fit (fall_mays hfp) (fall_mays hfq) hsp.e hsq.e (by omega)
   have HFT := hid hft
   have hnm : n * m ≤ 16 := Nat.mul_le_mul hn hm
   clear hsp hsq hft; go_wp2_with fail
   refine (ptimes_any PC_2.out QC_2.out hfp hfq (by omega) (by omega) (by omega) (by omega) (fitB_iff.2 HFT.out)).mono ?_
   rintro e w3 ⟨vfo, vfn, vfc, rfl, hX, hB⟩
   have hfl : vfn ≤ 16 := by have h1 := hX.len; have h2 := timesT_length p q; have h3 : p.length * q.length ≤ 16 := Nat.mul_le_mul HSP.out.l HSQ.out.l; omega
   have hX2 := hX.mono (show 8 + 8 + n + m ≤ 172 by omega)
   have P_3 := hid (P_2.out.below hB); have Q_3 := hid (Q_2.out.below hB); have PC_3 := hid (PC_2.out.below hB); have QC_3 := hid (QC_2.out.below hB); have HB_3 := hid (Below.steps HB_2.out hB); have FF_3 := hid (hX2); clear hB hX hX2 HB_2 P_2 Q_2 PC_2 QC_2
   by_cases hd0 : degP (plnR (q.map rawC)) v = 0
   ·have hflen : ∀ t ∈ (timesT p q).map rawC, t.1.2.length ≤ 1000 := fun t ht => Nat.le_trans (FF_3.out.lens t ht) (by omega)
    go_wp2_with fail
    refine (divide_of (run_bad2 (kq := true) (HMV.out _) FF_3.out.raw hflen (mayR_rawC (timesT_fall hfp hfq HFT.out)) Q_3.out (fun t ht => Nat.le_trans (HG1.out.2.1 t ht) (by omega)) hd0)).mono ?_
    rintro e w4 ⟨u, zo, zn, zc, ro, rn, rc, hu, rfl, hq, hr, hmv, hgr⟩; have hB := below_none hgr; subst hu; clear hq hr; have P_4 := hid (P_3.out.below hB); have Q_4 := hid (Q_3.out.below hB); have PC_4 := hid (PC_3.out.below hB); have QC_4 := hid (QC_3.out.below hB); have FF_4 := hid (FF_3.out.below hB); have HB_4 := hid (Below.steps HB_3.out hB); clear hB hgr hmv  HB_3 P_3 Q_3 PC_3 QC_3 FF_3; go_wp2_with fail; refine (known12_any _ (Nat.le_trans HLO.out HB_4.out.size)).mono ?_; rintro e w5 ⟨rfl, hB⟩
    have P_5 := hid (P_4.out.below hB); have Q_5 := hid (Q_4.out.below hB); have PC_5 := hid (PC_4.out.below hB); have QC_5 := hid (QC_4.out.below hB); have FF_5 := hid (FF_4.out.below hB); have HB_5 := hid (Below.steps HB_4.out hB); clear hB  HB_4 P_4 Q_4 PC_4 QC_4 FF_4; go_wp2_with fail
    go_ret
    exact ⟨rfl, HB_5.out⟩
   ·skip
    rw [pln_raw hfq] at hd0
    have hv : 1 ≤ v ∧ v ≤ 200 := Classical.byContradiction fun h => hd0 (degP_out (fall_mays hfq) (by omega))
    have h1 : 1 ≤ degP q v := by have := degP_zero q v; omega
    have HDV := hid (exact_ok HSP.out HSQ.out HFT.out hv h1); have HSZ := hid (exact_sz HSP.out HSQ.out); have HV := hid hv; clear HG0 HG1 hd0 hv h1; clear P_3; clear Q_3; go_wp2_with fail
    refine (divide_of (run_any (kq := true) (K := 172) (HMV.out _) FF_3.out (QC_3.out.mono (by omega)) HDV.out (fun n hl => HSZ.out.ok HDV.out true n hl) (by omega) (by omega) (Nat.le_trans HLO.out HB_3.out.size))).mono ?_
    rintro e w4 ⟨u, zo, zn, zc, ro, rn, rc, hu, rfl, hq, hr, hmv, hgr⟩; have hB := below_none hgr; obtain ⟨s, hlong, hdeg, hue⟩ := ends_none hu; subst hue; clear hu; have HLG := hid hlong; have HDG := hid hdeg; have HIT := hid (HDV.out.it s hlong); have HAL := hid (HSZ.out.all HDV.out hlong); clear hlong hdeg
    have HRN : Hid ((itP q v (timesT p q) s).2.length = rn) := hr.len
    clear hr; have PC_4 := hid (PC_3.out.below hB); have QC_4 := hid (QC_3.out.below hB); have FF_4 := hid (FF_3.out.below hB); have HB_4 := hid (Below.steps HB_3.out hB); have Z_4 := hid (hq); clear hB hgr hmv hq HB_3 PC_3 QC_3 FF_3; clear FF_4
    have hs8 : s ≤ 16 := HAL.out.2.2.2.2
    obtain ⟨d, hd⟩ : ∃ d, degP q v = d := ⟨_, rfl⟩; have HD := hid hd; clear hd; go_wp2_with fail
    refine (vDegreeC_any v d QC_4.out HSQ.out.f (by omega) HD.out).mono ?_
    rintro e w5 ⟨rfl, hB⟩; have PC_5 := hid (PC_4.out.below hB); have QC_5 := hid (QC_4.out.below hB); have Z_5 := hid (Z_4.out.below hB); have HB_5 := hid (Below.steps HB_4.out hB); clear hB  HB_4 PC_4 QC_4 Z_4; go_wp2_with fail
    refine (vCoefC_any v d QC_5.out HSQ.out.f HV.out (by omega) (by omega)).mono ?_
    rintro e w6 ⟨vio, vin, vic, rfl, hX, hB⟩; have hin := hX.len
    have HI : Hid (hdP q v = coefP q v d) := by rw [Hid, ← HD.out]; rfl
    rw [← HI.out] at hX hin; have hib := hX.pc.lower (hd_bds HSQ.out.b)
    have PC_6 := hid (PC_5.out.below hB); have QC_6 := hid (QC_5.out.below hB); have Z_6 := hid (Z_5.out.below hB); have HB_6 := hid (Below.steps HB_5.out hB)
    have I_6 := hid (hib.mono (show 8 ≤ 172 by omega))
    clear hB hX hib HB_5 PC_5 QC_5 Z_5; have hhl := hd_len q v
    have hin8 : vin ≤ 4 := by have := HSQ.out.l; omega
    have HPW := hid (powT_small (n := s) (N := 16) (L := 969) (hd_fall HSQ.out.f v) (HSQ.out.e.hd (fall_mays HSQ.out.f) v) hs8 (by omega) (fun j hj => cn_r4 _ (by omega) j (by omega)) (by omega) (by omega) (S := 4294967296 ^ 9) (K := 172) (by have := sumC_parts q v; have := HSQ.out.sum (by omega); omega) (Nat.pow_pos (by omega)) (by decide +kernel))
    have HIN : Hid ((hdP q v).length = vin) := hin
    clear hhl hin; go_wp2_with fail
    refine (ppowL_any s (by omega) I_6.out (hd_fall HSQ.out.f v) (by omega) (by omega) HPW.out.1 HPW.out.2.1 (by rw [← HIN.out]; exact HPW.out.2.2)).mono ?_
    rintro e w7 ⟨vxo, vxn, vxc, rfl, hX, hB⟩; have hxn := hX.len; have PC_7 := hid (PC_6.out.below hB); have QC_7 := hid (QC_6.out.below hB); have Z_7 := hid (Z_6.out.below hB); have I_7 := hid (I_6.out.below hB); have HB_7 := hid (Below.steps HB_6.out hB); have X_7 := hid (hX); clear hB hX HB_6 PC_6 QC_6 Z_6 I_6; clear I_7; have HXF := hid (powT_fall (fall_mays (hd_fall HSQ.out.f v)) s); have HXE := hid (powT_eb (hd_fall HSQ.out.f v) HPW.out.1 (HSQ.out.e.hd (fall_mays HSQ.out.f) v) s (Nat.le_refl s))
    have hxl : vxn ≤ 969 := by have h := powT_len (hd_fall HSQ.out.f v) HPW.out.1 s (Nat.le_refl s); have h2 := cn_r4 (hdP q v).length (by have := HIN.out; omega) s (by omega); omega
    clear hxn
    have HF1 : Hid (fitT (powT (hdP q v) s).1 p) := EB.fit (fall_mays HXF.out) (fall_mays HSP.out.f) HXE.out HSP.out.e (by omega)
    have hnm1 : vxn * n ≤ 3876 := Nat.mul_le_mul hxl hn
    have HEX := hid (exact_div (M := 144) HSP.out.f HFT.out HDV.out HLG.out HDG.out HPW.out.1 HF1.out ((eb_times HXF.out HSP.out.f HF1.out HXE.out HSP.out.e).mono (by omega)) (HIT.out.eq.mono (by omega)) (by omega))
    go_wp2_with fail
    refine (ptimes_any X_7.out (PC_7.out.mono (show 8 ≤ 172 by omega)) HXF.out HSP.out.f (by omega) (by omega) (by omega) (by omega) (fitB_iff.2 HF1.out)).mono ?_
    rintro e w8 ⟨vao, van, vac, rfl, hX, hB⟩; have PC_8 := hid (PC_7.out.below hB); have QC_8 := hid (QC_7.out.below hB); have Z_8 := hid (Z_7.out.below hB); have X_8 := hid (X_7.out.below hB); have HB_8 := hid (Below.steps HB_7.out hB); have A_8 := hid (hX); clear hB hX HB_7 PC_7 QC_7 Z_7 X_7; clear X_8; clear PC_8; clear QC_8
    have hr0 : rn = 0 := by have := HRN.out; rw [HEX.out.1] at this; simpa using this.symm
    have hz0 : ((rn : Int) == 0) = true := by rw [hr0]; rfl
    clear hr0; go_wp2_with fail
    refine (psame_any true Z_8.out.raw A_8.out.raw (decide_eq_true (by show (itP q v (timesT p q) s).1.map rawC = _; rw [HEX.out.2]))).mono ?_
    rintro e w9 ⟨rfl, hB⟩; have Z_9 := hid (Z_8.out.below hB); have A_9 := hid (A_8.out.below hB); have HB_9 := hid (Below.steps HB_8.out hB); clear hB  HB_8 Z_8 A_8; clear A_9; clear Z_9; go_wp2_with fail; refine (known12_any _ (Nat.le_trans HLO.out HB_9.out.size)).mono ?_; rintro e w10 ⟨rfl, hB⟩; have HB_10 := hid (Below.steps HB_9.out hB); clear hB  HB_9; go_wp2_with fail
    go_ret
    exact ⟨rfl, HB_10.out⟩
theorem pseudoExact_any [Ol] {ao bo : Option Addr} {n cap m cb : Nat} {ps qs : List Raw} {w : World} (v : Int) (hp : Pr w ao n cap ps) (hq : Pr w bo m cb qs) (hlo : Ol.lo ≤ w.heap.size) : Calls Tryz.prog 6 #[.slice ao n cap, .slice bo m cb, .int .i64 v] w (RetB (.bool true) w) := by
 by_cases hn : n ≤ 4
 ·by_cases hm : m ≤ 4
  ·cases h1 : mayR ps with
   | false => exact pex_bad1 v hp hq hlo hn hm h1
   | true =>
    cases h3 : mayR qs with
    | false => exact pex_bad2 v hp hq hlo hn hm h1 h3
    | true =>
     obtain ⟨hfp, hpp⟩ := mayR_yes hp.wf' h1; obtain ⟨hfq, hqq⟩ := mayR_yes hq.wf' h3
     generalize ps.map rawV = p at hpp hfp
     generalize qs.map rawV = q at hqq hfq
     subst hpp; subst hqq
     exact pex_main v hp hq hlo hfp hfq hn hm
  ·exact pex_long2 v hp hq hlo hn (by omega)
 ·exact pex_long1 v hp hq hlo (by omega)
end Go.Proofs.YtodcddkiodmklaaGreat

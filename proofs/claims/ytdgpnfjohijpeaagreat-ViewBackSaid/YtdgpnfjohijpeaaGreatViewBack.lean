/-
  The law ViewBack, on any list of terms.
-/
import Derived.Test.YtdgpnfjohijpeaaGreatVKn
import Derived.Test.YtdgpnfjohijpeaaGreatVCoefU
set_option maxHeartbeats 40000000
set_option maxRecDepth 100000
namespace Go.Proofs.YtdgpnfjohijpeaaGreat
open Lib (hid)
open Go.RowKit
theorem viewBack_great {ao : Option Addr} {n cap : Nat} {ps : List Raw} {w : World} (v : Int) (hv64 : in64 v) (hp : Pr w ao n cap ps)
  (g0 : greatR ps 20 = true) :
  Calls Tryz.prog 4 #[.slice ao n cap, .int .i64 v] w (RetB (.bool true) w) := by
 have _ := v; have _ := hv64; have P_0 := hid hp; have HB_0 := hid (Below.refl w.heap.size w); clear hp
 go_enter Tryz.func4, Tryz.ntmps4
 go_wp2_with fail; refine (great_any8 true 20 P_0.out g0).mono ?_
 rintro e w1 ⟨rfl, hB⟩; have P_1 := hid (P_0.out.below hB); have HB_1 := hid (Below.steps HB_0.out hB); clear hB  HB_0 P_0; go_wp2_with fail; refine (known9_any _).mono ?_; rintro e w2 ⟨rfl, hB⟩; have P_2 := hid (P_1.out.below hB); have HB_2 := hid (Below.steps HB_1.out hB); clear hB  HB_1 P_1; go_wp2_with fail
 go_ret
 exact ⟨rfl, HB_2.out⟩
theorem viewBack_bad {ao : Option Addr} {n cap : Nat} {ps : List Raw} {w : World} (v : Int) (hv64 : in64 v) (hp : Pr w ao n cap ps)
  (g0 : greatR ps 20 = false) (hl : ∀ t ∈ ps, t.1.2.length ≤ 20) (ha : mayR ps = false) :
  Calls Tryz.prog 4 #[.slice ao n cap, .int .i64 v] w (RetB (.bool true) w) := by
 have _ := v; have _ := hv64
 have hl1 : ∀ t ∈ ps, t.1.2.length ≤ 1000 := fun t ht => Nat.le_trans (hl t ht) (by omega)
 have P_0 := hid hp; have HB_0 := hid (Below.refl w.heap.size w); clear hp
 go_enter Tryz.func4, Tryz.ntmps4
 go_wp2_with fail; refine (great_any8 false 20 P_0.out g0).mono ?_
 rintro e w1 ⟨rfl, hB⟩; have P_1 := hid (P_0.out.below hB); have HB_1 := hid (Below.steps HB_0.out hB); clear hB  HB_0 P_0; go_wp2_with fail; refine (pmay_any false P_1.out hl1 ha).mono ?_; rintro e w2 ⟨rfl, hB⟩; have P_2 := hid (P_1.out.below hB); have HB_2 := hid (Below.steps HB_1.out hB); clear hB  HB_1 P_1; go_wp2_with fail; refine (known9_any _).mono ?_; rintro e w3 ⟨rfl, hB⟩; have P_3 := hid (P_2.out.below hB); have HB_3 := hid (Below.steps HB_2.out hB); clear hB  HB_2 P_2; go_wp2_with fail
 go_ret
 exact ⟨rfl, HB_3.out⟩
theorem viewBack_low {ao : Option Addr} {n cap : Nat} {ps : List Raw} {w : World} (v : Int) (hv64 : in64 v) (hp : Pr w ao n cap ps)
  (g0 : greatR ps 20 = false) (hl : ∀ t ∈ ps, t.1.2.length ≤ 20) (ha : mayR ps = true) (hv : v < 1) :
  Calls Tryz.prog 4 #[.slice ao n cap, .int .i64 v] w (RetB (.bool true) w) := by
 have _ := hv64
 have hl1 : ∀ t ∈ ps, t.1.2.length ≤ 1000 := fun t ht => Nat.le_trans (hl t ht) (by omega)
 have hd1 : decide (v < 1) = true := decide_eq_true hv
 have P_0 := hid hp; have HB_0 := hid (Below.refl w.heap.size w); clear hp
 go_enter Tryz.func4, Tryz.ntmps4
 go_wp2_with fail; refine (great_any8 false 20 P_0.out g0).mono ?_
 rintro e w1 ⟨rfl, hB⟩; have P_1 := hid (P_0.out.below hB); have HB_1 := hid (Below.steps HB_0.out hB); clear hB  HB_0 P_0; go_wp2_with fail; refine (pmay_any true P_1.out hl1 ha).mono ?_; rintro e w2 ⟨rfl, hB⟩; have P_2 := hid (P_1.out.below hB); have HB_2 := hid (Below.steps HB_1.out hB); clear hB  HB_1 P_1; go_wp2_with fail; refine (known9_any _).mono ?_; rintro e w3 ⟨rfl, hB⟩; have P_3 := hid (P_2.out.below hB); have HB_3 := hid (Below.steps HB_2.out hB); clear hB  HB_2 P_2; go_wp2_with fail
 go_ret
 exact ⟨rfl, HB_3.out⟩
theorem viewBack_high {ao : Option Addr} {n cap : Nat} {ps : List Raw} {w : World} (v : Int) (hv64 : in64 v) (hp : Pr w ao n cap ps)
  (g0 : greatR ps 20 = false) (hl : ∀ t ∈ ps, t.1.2.length ≤ 20) (ha : mayR ps = true) (hv : ¬ v < 1) (hv2 : 200 < v) :
  Calls Tryz.prog 4 #[.slice ao n cap, .int .i64 v] w (RetB (.bool true) w) := by
 have _ := hv64
 have hl1 : ∀ t ∈ ps, t.1.2.length ≤ 1000 := fun t ht => Nat.le_trans (hl t ht) (by omega)
 have hd1 : decide (v < 1) = false := decide_eq_false hv
 have hd2 : decide (200 < v) = true := decide_eq_true hv2
 have P_0 := hid hp; have HB_0 := hid (Below.refl w.heap.size w); clear hp
 go_enter Tryz.func4, Tryz.ntmps4
 go_wp2_with fail; refine (great_any8 false 20 P_0.out g0).mono ?_
 rintro e w1 ⟨rfl, hB⟩; have P_1 := hid (P_0.out.below hB); have HB_1 := hid (Below.steps HB_0.out hB); clear hB  HB_0 P_0; go_wp2_with fail; refine (pmay_any true P_1.out hl1 ha).mono ?_; rintro e w2 ⟨rfl, hB⟩; have P_2 := hid (P_1.out.below hB); have HB_2 := hid (Below.steps HB_1.out hB); clear hB  HB_1 P_1; go_wp2_with fail; refine (known9_any _).mono ?_; rintro e w3 ⟨rfl, hB⟩; have P_3 := hid (P_2.out.below hB); have HB_3 := hid (Below.steps HB_2.out hB); clear hB  HB_2 P_2; go_wp2_with fail
 go_ret
 exact ⟨rfl, HB_3.out⟩
theorem viewBack_long {ao : Option Addr} {n cap : Nat} {p : List Term} {w : World} (v : Int) (hv64 : in64 v) (hp : Pr w ao n cap (p.map rawC))
  (g0 : greatR (p.map rawC) 20 = false) (hl : ∀ t ∈ p.map rawC, t.1.2.length ≤ 20) (ha : mayR (p.map rawC) = true) (hf : fall p) (hv : 1 ≤ v ∧ v ≤ 200) (h50 : 50 < degP p v) :
  Calls Tryz.prog 4 #[.slice ao n cap, .int .i64 v] w (RetB (.bool true) w) := by
 have _ := hv64; have _ := hv
 have hl1 : ∀ t ∈ p.map rawC, t.1.2.length ≤ 1000 := fun t ht => Nat.le_trans (hl t ht) (by omega)
 have hd1 : decide (v < 1) = false := decide_eq_false (by omega)
 have hd2 : decide (200 < v) = false := decide_eq_false (by omega)
 have hpl := pln_raw hf
 obtain ⟨d, hd⟩ : ∃ d : Nat, degP p v = d := ⟨(degP p v).toNat, by have := degP_zero p v; omega⟩
 rw [hd] at h50
 have hd3 : decide ((50 : Int) < (d : Int)) = true := decide_eq_true h50
 have P_0 := hid hp; have HB_0 := hid (Below.refl w.heap.size w); clear hp
 go_enter Tryz.func4, Tryz.ntmps4
 go_wp2_with fail; refine (great_any8 false 20 P_0.out g0).mono ?_
 rintro e w1 ⟨rfl, hB⟩; have P_1 := hid (P_0.out.below hB); have HB_1 := hid (Below.steps HB_0.out hB); clear hB  HB_0 P_0; go_wp2_with fail; refine (pmay_any true P_1.out hl1 ha).mono ?_; rintro e w2 ⟨rfl, hB⟩; have P_2 := hid (P_1.out.below hB); have HB_2 := hid (Below.steps HB_1.out hB); clear hB  HB_1 P_1; go_wp2_with fail
 refine (vDegree_any v d P_2.out hl1 (by rw [hpl]; exact hd)).mono ?_
 rintro e w3 ⟨rfl, hB⟩; have P_3 := hid (P_2.out.below hB); have HB_3 := hid (Below.steps HB_2.out hB); clear hB  HB_2 P_2; go_wp2_with fail; refine (known9_any _).mono ?_; rintro e w4 ⟨rfl, hB⟩; have P_4 := hid (P_3.out.below hB); have HB_4 := hid (Below.steps HB_3.out hB); clear hB  HB_3 P_3; go_wp2_with fail
 go_ret
 exact ⟨rfl, HB_4.out⟩
theorem viewBack_zero {ao : Option Addr} {n cap : Nat} {p : List Term} {w : World} (v : Int) (hv64 : in64 v) (hp : Pr w ao n cap (p.map rawC))
  (g0 : greatR (p.map rawC) 20 = false) (hl : ∀ t ∈ p.map rawC, t.1.2.length ≤ 20) (ha : mayR (p.map rawC) = true) (hf : fall p) (hv : 1 ≤ v ∧ v ≤ 200) (hn : n ≤ 20) (h50 : ¬ 50 < degP p v) (h0 : clsP p = 0) :
  Calls Tryz.prog 4 #[.slice ao n cap, .int .i64 v] w (RetB (.bool true) w) := by
 have _ := hv64; have _ := hn
 have hl1 : ∀ t ∈ p.map rawC, t.1.2.length ≤ 1000 := fun t ht => Nat.le_trans (hl t ht) (by omega)
 have hd1 : decide (v < 1) = false := decide_eq_false (by omega)
 have hd2 : decide (200 < v) = false := decide_eq_false (by omega)
 have hpl := pln_raw hf
 obtain ⟨d, hd⟩ : ∃ d : Nat, degP p v = d := ⟨(degP p v).toNat, by have := degP_zero p v; omega⟩
 rw [hd] at h50
 have hd3 : decide ((50 : Int) < (d : Int)) = false := decide_eq_false h50
 have hnp : p.length = n := by have h := hp.len; rw [List.length_map] at h; exact h
 obtain ⟨c, hc⟩ : ∃ c, clsP p = c := ⟨_, rfl⟩; have hul := coefU_len p v d; obtain ⟨N, hN⟩ : ∃ N, N = (coefU p v d).length := ⟨_, rfl⟩; have hbo := coefU_ok hf hv (d := d); have hbb := coefU_built hf hv hd; rw [← hN] at hul hbo hbb; have HN := hid hN; clear hN
 have hN2 : N * 20 ≤ 1020 := by omega
 have hfa : ∀ q ∈ coefU p v d, fall q := fun q hq => by obtain ⟨i, _, rfl⟩ := coefU_mem hq; exact coef_fall hf v _
 have hla : ∀ q ∈ coefU p v d, q.length ≤ 20 := fun q hq => by obtain ⟨i, _, rfl⟩ := coefU_mem hq; have := coef_len v (i : Int) p; omega
 have P_0 := hid hp; have HB_0 := hid (Below.refl w.heap.size w); clear hp
 go_enter Tryz.func4, Tryz.ntmps4
 go_wp2_with fail; refine (great_any8 false 20 P_0.out g0).mono ?_
 rintro e w1 ⟨rfl, hB⟩; have P_1 := hid (P_0.out.below hB); have HB_1 := hid (Below.steps HB_0.out hB); clear hB  HB_0 P_0; go_wp2_with fail; refine (pmay_any true P_1.out hl1 ha).mono ?_; rintro e w2 ⟨rfl, hB⟩; have P_2 := hid (P_1.out.below hB); have HB_2 := hid (Below.steps HB_1.out hB); clear hB  HB_1 P_1; go_wp2_with fail
 refine (vDegree_any v d P_2.out hl1 (by rw [hpl]; exact hd)).mono ?_
 rintro e w3 ⟨rfl, hB⟩; have P_3 := hid (P_2.out.below hB); have HB_3 := hid (Below.steps HB_2.out hB); clear hB  HB_2 P_2; go_wp2_with fail
 refine (vCoefU_any v hv P_3.out hf hl (by omega) (by omega) d hd).mono ?_
 rintro e w4 ⟨ro, rn, rc, rfl, hrn, hX, hB⟩; rw [← HN.out] at hrn; subst hrn; have P_4 := hid (P_3.out.below hB); have HB_4 := hid (Below.steps HB_3.out hB); have LS_4 := hid (hX); clear hB hX HB_3 P_3; go_wp2_with fail
 refine (vbuild_any (K := 20) (KM := 65) (m := 20) (n9 := 1020) hv LS_4.out (coefU_limbs hl) hfa hla (by omega) hN2 (by omega) (by omega) (by omega) (by omega) (by omega) hbo).mono ?_
 rintro e w5 ⟨vqo, vqn, vqc, rfl, hX, hB⟩; rw [hbb] at hX; have P_5 := hid (P_4.out.below hB); have LS_5 := hid (LS_4.out.below hB); have HB_5 := hid (Below.steps HB_4.out hB); have Q_5 := hid (hX); clear hB hX HB_4 P_4 LS_4; clear LS_5; go_wp2_with fail; refine (psame_any true Q_5.out.raw P_5.out (decide_eq_true rfl)).mono ?_; rintro e w6 ⟨rfl, hB⟩; have P_6 := hid (P_5.out.below hB); have Q_6 := hid (Q_5.out.below hB); have HB_6 := hid (Below.steps HB_5.out hB); clear hB  HB_5 P_5 Q_5; clear Q_6
 go_wp2_with fail
 refine (vClass_any c P_6.out hl1 (by rw [hpl]; exact hc)).mono ?_
 rintro e w7 ⟨rfl, hB⟩; have P_7 := hid (P_6.out.below hB); have HB_7 := hid (Below.steps HB_6.out hB); clear hB  HB_6 P_6
 have hc0 : (c == 0) = true := by rw [← hc]; simpa using h0
 go_wp2_with fail
 refine (vTail_any P_7.out hl (by omega) (by omega)).mono ?_
 rintro e w8 ⟨vto, vtn, vtc, rfl, hX, hB⟩; rw [hpl] at hX; have etn := hX.pc.len; have P_8 := hid (P_7.out.below hB); have HB_8 := hid (Below.steps HB_7.out hB); have TT_8 := hid (hX.pc); clear hB hX HB_7 P_7
 obtain rfl : vtn = 0 := by rw [tail_cls0 hf h0] at etn; simpa using etn.symm
 have hz : (((0 : Nat) : Int) == 0) = true := rfl
 clear TT_8; go_wp2_with fail
 refine (vInit_any P_8.out hl (by omega) (by omega)).mono ?_
 rintro e w9 ⟨vio, vin, vic, rfl, hX, hB⟩; rw [hpl] at hX; have ein := hX.pc.len; have P_9 := hid (P_8.out.below hB); have HB_9 := hid (Below.steps HB_8.out hB); have II_9 := hid (hX.pc); clear hB hX HB_8 P_8; go_wp2_with fail
 refine (psame_any true II_9.out.raw P_9.out (decide_eq_true (by rw [init_cls0 hf h0]))).mono ?_
 rintro e w10 ⟨rfl, hB⟩; have P_10 := hid (P_9.out.below hB); have II_10 := hid (II_9.out.below hB); have HB_10 := hid (Below.steps HB_9.out hB); clear hB  HB_9 P_9 II_9; go_wp2_with fail; refine (known9_any _).mono ?_; rintro e w11 ⟨rfl, hB⟩; have P_11 := hid (P_10.out.below hB); have II_11 := hid (II_10.out.below hB); have HB_11 := hid (Below.steps HB_10.out hB); clear hB  HB_10 P_10 II_10; go_wp2_with fail
 go_ret
 exact ⟨rfl, HB_11.out⟩
theorem viewBack_some {ao : Option Addr} {n cap : Nat} {p : List Term} {w : World} (v : Int) (hv64 : in64 v) (hp : Pr w ao n cap (p.map rawC))
  (g0 : greatR (p.map rawC) 20 = false) (hl : ∀ t ∈ p.map rawC, t.1.2.length ≤ 20) (ha : mayR (p.map rawC) = true) (hf : fall p) (hv : 1 ≤ v ∧ v ≤ 200) (hn : n ≤ 20) (h50 : ¬ 50 < degP p v) (h0 : 0 < clsP p) :
  Calls Tryz.prog 4 #[.slice ao n cap, .int .i64 v] w (RetB (.bool true) w) := by
 have _ := hv64; have _ := hn
 have hl1 : ∀ t ∈ p.map rawC, t.1.2.length ≤ 1000 := fun t ht => Nat.le_trans (hl t ht) (by omega)
 have hd1 : decide (v < 1) = false := decide_eq_false (by omega)
 have hd2 : decide (200 < v) = false := decide_eq_false (by omega)
 have hpl := pln_raw hf
 obtain ⟨d, hd⟩ : ∃ d : Nat, degP p v = d := ⟨(degP p v).toNat, by have := degP_zero p v; omega⟩
 rw [hd] at h50
 have hd3 : decide ((50 : Int) < (d : Int)) = false := decide_eq_false h50
 have hnp : p.length = n := by have h := hp.len; rw [List.length_map] at h; exact h
 obtain ⟨c, hc⟩ : ∃ c, clsP p = c := ⟨_, rfl⟩; have hul := coefU_len p v d; obtain ⟨N, hN⟩ : ∃ N, N = (coefU p v d).length := ⟨_, rfl⟩; have hbo := coefU_ok hf hv (d := d); have hbb := coefU_built hf hv hd; rw [← hN] at hul hbo hbb; have HN := hid hN; clear hN
 have hN2 : N * 20 ≤ 1020 := by omega
 have hfa : ∀ q ∈ coefU p v d, fall q := fun q hq => by obtain ⟨i, _, rfl⟩ := coefU_mem hq; exact coef_fall hf v _
 have hla : ∀ q ∈ coefU p v d, q.length ≤ 20 := fun q hq => by obtain ⟨i, _, rfl⟩ := coefU_mem hq; have := coef_len v (i : Int) p; omega
 have P_0 := hid hp; have HB_0 := hid (Below.refl w.heap.size w); clear hp
 go_enter Tryz.func4, Tryz.ntmps4
 go_wp2_with fail; refine (great_any8 false 20 P_0.out g0).mono ?_
 rintro e w1 ⟨rfl, hB⟩; have P_1 := hid (P_0.out.below hB); have HB_1 := hid (Below.steps HB_0.out hB); clear hB  HB_0 P_0; go_wp2_with fail; refine (pmay_any true P_1.out hl1 ha).mono ?_; rintro e w2 ⟨rfl, hB⟩; have P_2 := hid (P_1.out.below hB); have HB_2 := hid (Below.steps HB_1.out hB); clear hB  HB_1 P_1; go_wp2_with fail
 refine (vDegree_any v d P_2.out hl1 (by rw [hpl]; exact hd)).mono ?_
 rintro e w3 ⟨rfl, hB⟩; have P_3 := hid (P_2.out.below hB); have HB_3 := hid (Below.steps HB_2.out hB); clear hB  HB_2 P_2; go_wp2_with fail
 refine (vCoefU_any v hv P_3.out hf hl (by omega) (by omega) d hd).mono ?_
 rintro e w4 ⟨ro, rn, rc, rfl, hrn, hX, hB⟩; rw [← HN.out] at hrn; subst hrn; have P_4 := hid (P_3.out.below hB); have HB_4 := hid (Below.steps HB_3.out hB); have LS_4 := hid (hX); clear hB hX HB_3 P_3; go_wp2_with fail
 refine (vbuild_any (K := 20) (KM := 65) (m := 20) (n9 := 1020) hv LS_4.out (coefU_limbs hl) hfa hla (by omega) hN2 (by omega) (by omega) (by omega) (by omega) (by omega) hbo).mono ?_
 rintro e w5 ⟨vqo, vqn, vqc, rfl, hX, hB⟩; rw [hbb] at hX; have P_5 := hid (P_4.out.below hB); have LS_5 := hid (LS_4.out.below hB); have HB_5 := hid (Below.steps HB_4.out hB); have Q_5 := hid (hX); clear hB hX HB_4 P_4 LS_4; clear LS_5; go_wp2_with fail; refine (psame_any true Q_5.out.raw P_5.out (decide_eq_true rfl)).mono ?_; rintro e w6 ⟨rfl, hB⟩; have P_6 := hid (P_5.out.below hB); have Q_6 := hid (Q_5.out.below hB); have HB_6 := hid (Below.steps HB_5.out hB); clear hB  HB_5 P_5 Q_5; clear Q_6
 go_wp2_with fail
 refine (vClass_any c P_6.out hl1 (by rw [hpl]; exact hc)).mono ?_
 rintro e w7 ⟨rfl, hB⟩; have P_7 := hid (P_6.out.below hB); have HB_7 := hid (Below.steps HB_6.out hB); clear hB  HB_6 P_6
 have hc0 : (c == 0) = false := by rw [← hc]; simpa using (show ¬ clsP p = 0 by omega)
 obtain ⟨b, hb⟩ : ∃ b, degP p c = b := ⟨_, rfl⟩; have hbc := clsP_bd hf; rw [hc] at hbc h0
 have hbp : 0 < b := by have := clsP_here hf (by rw [hc]; exact h0); rw [hc, hb] at this; exact this
 have hb4 : b ≤ 10000 := by rw [← hb]; exact degP_le (fall_mays hf) c
 have hpw : powM c b = [(c, b)] := if_neg (by omega)
 have hmy : mayM 0 [(c, b)] = true := by rw [← hpw]; exact pow_may (by omega) (by omega)
 have htb := tail_back hf (by rw [hc]; exact h0)
 rw [hc, hb] at htb
 have hpp : powP c b = [(1, [(c, b)])] := by unfold powP; rw [hpw]
 rw [hpp] at htb
 have hpf : fall [((1 : Int), [(c, b)])] := by rw [← hpp]; exact powP_fall (by omega) (by omega)
 have hne : p ≠ [] := fun e => by subst e; simp [clsP] at hc; omega
 go_wp2_with fail
 refine (vDegree_any c b P_7.out hl1 (by rw [hpl]; exact hb)).mono ?_
 rintro e w8 ⟨rfl, hB⟩; have P_8 := hid (P_7.out.below hB); have HB_8 := hid (Below.steps HB_7.out hB); clear hB  HB_7 P_7; go_wp2_with fail
 refine (pvar_any c b (by unfold in64; omega) (by unfold in64; omega) hmy).mono ?_
 rintro e w9 ⟨vxo, vxn, vxc, rfl, hX, hB⟩; have exn := hX.len; have P_9 := hid (P_8.out.below hB); have HB_9 := hid (Below.steps HB_8.out hB); have X_9 := hid (hX); clear hB hX HB_8 P_8; go_wp2_with fail
 refine (vInit_any P_9.out hl (by omega) (by omega)).mono ?_
 rintro e w10 ⟨vio, vin, vic, rfl, hX, hB⟩; rw [hpl] at hX; have ein := hX.pc.len; have P_10 := hid (P_9.out.below hB); have X_10 := hid (X_9.out.below hB); have HB_10 := hid (Below.steps HB_9.out hB); have II_10 := hid (hX.pc); clear hB hX HB_9 P_9 X_9; have eip := init_len p; have ein2 := init_some hf hne
 have hin : vin ≤ 20 := by omega
 have hin0 : 0 < vin := by omega
 go_wp2_with fail
 refine (vTail_any P_10.out hl (by omega) (by omega)).mono ?_
 rintro e w11 ⟨vto, vtn, vtc, rfl, hX, hB⟩; rw [hpl] at hX; have etn := hX.pc.len; have P_11 := hid (P_10.out.below hB); have X_11 := hid (X_10.out.below hB); have II_11 := hid (II_10.out.below hB); have HB_11 := hid (Below.steps HB_10.out hB); have TT_11 := hid (hX.pc); clear hB hX HB_10 P_10 X_10 II_10
 have hxn : vxn = 1 := by simpa using exn.symm
 subst hxn
 have htn : vtn ≤ 20 := by have h1 : (tailP p).length ≤ p.length := List.length_filter_le _ _; omega
 go_wp2_with fail
 refine (ptimes_any (K := 21) II_11.out (X_11.out.mono (by omega)) (init_fall hf) hpf (by omega) (by omega) (by omega) (by omega) (fitB_iff.2 htb.1)).mono ?_
 rintro e w12 ⟨vyo, vyn, vyc, rfl, hX, hB⟩; have eyn := hX.len; have ey2 := timesT_length (initP p) [((1 : Int), [(c, b)])]; rw [List.length_singleton] at ey2; have P_12 := hid (P_11.out.below hB); have X_12 := hid (X_11.out.below hB); have II_12 := hid (II_11.out.below hB); have TT_12 := hid (TT_11.out.below hB); have HB_12 := hid (Below.steps HB_11.out hB)
 have Y_12 := hid (hX.mono (show 21 + 21 + vin + 1 ≤ 63 by omega))
 clear hB hX HB_11 P_11 X_11 II_11 TT_11; clear X_12; go_wp2_with fail
 refine (padd_any Y_12.out (TT_12.out.mono (by omega)) (timesT_fall (init_fall hf) hpf htb.1) (tail_fall hf) (by omega) (by omega)).mono ?_
 rintro e w13 ⟨vzo, vzn, vzc, rfl, hX, hB⟩; rw [htb.2] at hX; have P_13 := hid (P_12.out.below hB); have II_13 := hid (II_12.out.below hB); have TT_13 := hid (TT_12.out.below hB); have Y_13 := hid (Y_12.out.below hB); have HB_13 := hid (Below.steps HB_12.out hB); have Z_13 := hid (hX); clear hB hX HB_12 P_12 II_12 TT_12 Y_12; clear Y_13; go_wp2_with fail; refine (psame_any true Z_13.out.raw P_13.out (decide_eq_true rfl)).mono ?_; rintro e w14 ⟨rfl, hB⟩; have P_14 := hid (P_13.out.below hB); have II_14 := hid (II_13.out.below hB)
 have TT_14 := hid (TT_13.out.below hB); have Z_14 := hid (Z_13.out.below hB); have HB_14 := hid (Below.steps HB_13.out hB); clear hB  HB_13 P_13 II_13 TT_13 Z_13; clear Z_14
 have hl3 : ∀ t ∈ (initP p).map rawC, t.1.2.length ≤ 21 := II_14.out.lens
 obtain ⟨a, haa⟩ : ∃ a, clsP (initP p) = a := ⟨_, rfl⟩
 have hac : a < c := by have := init_lower hf (by rw [hc]; exact h0); rw [haa, hc] at this; exact this
 have hda : decide (a < c) = true := decide_eq_true hac
 go_wp2_with fail
 refine (vClass_any a II_14.out.raw (fun t ht => Nat.le_trans (hl3 t ht) (by omega)) (by rw [pln_raw (init_fall hf)]; exact haa)).mono ?_
 rintro e w15 ⟨rfl, hB⟩; have P_15 := hid (P_14.out.below hB); have II_15 := hid (II_14.out.below hB); have TT_15 := hid (TT_14.out.below hB); have HB_15 := hid (Below.steps HB_14.out hB); clear hB  HB_14 P_14 II_14 TT_14; clear II_15
 have hdb : decide (0 < b) = true := decide_eq_true hbp
 rcases Nat.eq_zero_or_pos vtn with ht0 | ht0
 ·subst ht0
  have hz : (((0 : Nat) : Int) == 0) = true := rfl
  clear TT_15; go_wp2_with fail; refine (known9_any _).mono ?_; rintro e w16 ⟨rfl, hB⟩; have P_16 := hid (P_15.out.below hB); have HB_16 := hid (Below.steps HB_15.out hB); clear hB  HB_15 P_15; go_wp2_with fail
  go_ret
  exact ⟨rfl, HB_16.out⟩
 ·have hz : ((vtn : Int) == 0) = false := by simpa using (show ¬ (vtn : Int) = 0 by omega)
  have htne : tailP p ≠ [] := fun e => by rw [e] at etn; simp at etn; omega
  obtain ⟨f, hff⟩ : ∃ f, degP (tailP p) c = f := ⟨_, rfl⟩
  have hfb : f < b := by have := tail_lower hf htne; rw [hc, hff, hb] at this; exact this
  have hdf : decide (f < b) = true := decide_eq_true hfb
  have hl4 : ∀ t ∈ (tailP p).map rawC, t.1.2.length ≤ 21 := TT_15.out.lens
  go_wp2_with fail
  refine (vDegree_any c f TT_15.out.raw (fun t ht => Nat.le_trans (hl4 t ht) (by omega)) (by rw [pln_raw (tail_fall hf)]; exact hff)).mono ?_
  rintro e w16 ⟨rfl, hB⟩; have P_16 := hid (P_15.out.below hB); have TT_16 := hid (TT_15.out.below hB); have HB_16 := hid (Below.steps HB_15.out hB); clear hB  HB_15 P_15 TT_15; clear TT_16; go_wp2_with fail; refine (known9_any _).mono ?_; rintro e w17 ⟨rfl, hB⟩; have P_17 := hid (P_16.out.below hB); have HB_17 := hid (Below.steps HB_16.out hB); clear hB  HB_16 P_16; go_wp2_with fail
  go_ret
  exact ⟨rfl, HB_17.out⟩
theorem viewBack_any {ao : Option Addr} {n cap : Nat} {ps : List Raw} {w : World} (v : Int) (hv64 : in64 v) (hp : Pr w ao n cap ps) :
  Calls Tryz.prog 4 #[.slice ao n cap, .int .i64 v] w (RetB (.bool true) w) := by
 by_cases hg : greatR ps 20 = true
 ·exact viewBack_great v hv64 hp hg
 have hg : greatR ps 20 = false := by simpa using hg
 obtain ⟨g1, g2⟩ := great_facts hg; have hpn := hp.len
 have hn : n ≤ 20 := by omega
 have hl : ∀ t ∈ ps, t.1.2.length ≤ 20 := fun t ht => (g2 t ht).1
 cases hm : mayR ps with
 | false => exact viewBack_bad v hv64 hp hg hl hm
 | true =>
  by_cases h1 : v < 1
  ·exact viewBack_low v hv64 hp hg hl hm h1
  by_cases h2 : 200 < v
  ·exact viewBack_high v hv64 hp hg hl hm h1 h2
  obtain ⟨hfp, hpp⟩ := mayR_yes hp.wf hm
  generalize ps.map rawV = p at hpp hfp
  subst hpp
  by_cases h3 : 50 < degP p v
  ·exact viewBack_long v hv64 hp hg hl hm hfp (by omega) h3
  have h4 := clsP_bd hfp
  rcases Int.lt_or_eq_of_le h4.1 with h5 | h5
  ·exact viewBack_some v hv64 hp hg hl hm hfp (by omega) hn h3 h5
  ·exact viewBack_zero v hv64 hp hg hl hm hfp (by omega) hn h3 h5.symm
end Go.Proofs.YtdgpnfjohijpeaaGreat

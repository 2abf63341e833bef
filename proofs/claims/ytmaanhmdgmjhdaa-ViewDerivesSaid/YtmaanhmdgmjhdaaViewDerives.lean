/-
  The law ViewDerives, on any list of terms.
-/
import Derived.Test.YtmaanhmdgmjhdaaVKn
import Derived.Test.YtmaanhmdgmjhdaaVDerP
import Derived.Test.YtmaanhmdgmjhdaaGP8
import Derived.Test.YtmaanhmdgmjhdaaGP5
set_option maxRecDepth 8192
namespace Go.Proofs.Ytmaanhmdgmjhdaa
open Lib (hid)
open Go.RowKit
set_option maxHeartbeats 16000000 in
set_option maxRecDepth 100000 in
theorem viewDer_great {ao : Option Addr} {n cap : Nat} {ps : List Raw} {w : World} (v u : Int) (hv64 : in64 v) (hu64 : in64 u) (hp : Pr w ao n cap ps)
    (hg : greatR ps 20 = true) :
    Calls Try.prog 3 #[.slice ao n cap, .int .i64 v, .int .i64 u] w (RetB (.bool true) w) := by
  have _ := v
  have _ := u
  have _ := hv64
  have _ := hu64
  have P_0 := hid hp
  have HB_0 := hid (Below.refl w.heap.size w)
  clear hp
  go_enter Try.func3, Try.ntmps3
  go_wp2_with fail
  refine (great_any8 true 20 P_0.out hg).mono ?_
  rintro e w1 ⟨rfl, hB⟩
  have P_1 := hid (P_0.out.below hB)
  have HB_1 := hid (Below.steps HB_0.out hB)
  clear hB  HB_0 P_0
  go_wp2_with fail
  refine (known9_any _).mono ?_
  rintro e w2 ⟨rfl, hB⟩
  have P_2 := hid (P_1.out.below hB)
  have HB_2 := hid (Below.steps HB_1.out hB)
  clear hB  HB_1 P_1
  go_wp2_with fail
  go_ret
  exact ⟨rfl, HB_2.out⟩
set_option maxHeartbeats 16000000 in
set_option maxRecDepth 100000 in
theorem viewDer_bad {ao : Option Addr} {n cap : Nat} {ps : List Raw} {w : World} (v u : Int) (hv64 : in64 v) (hu64 : in64 u) (hp : Pr w ao n cap ps)
    (hg : greatR ps 20 = false) (hlp : ∀ t ∈ ps, t.1.2.length ≤ 20) (hb : mayR ps = false) :
    Calls Try.prog 3 #[.slice ao n cap, .int .i64 v, .int .i64 u] w (RetB (.bool true) w) := by
  have _ := v
  have _ := u
  have _ := hv64
  have _ := hu64
  have P_0 := hid hp
  have HB_0 := hid (Below.refl w.heap.size w)
  clear hp
  go_enter Try.func3, Try.ntmps3
  go_wp2_with fail
  refine (great_any8 false 20 P_0.out hg).mono ?_
  rintro e w1 ⟨rfl, hB⟩
  have P_1 := hid (P_0.out.below hB)
  have HB_1 := hid (Below.steps HB_0.out hB)
  clear hB  HB_0 P_0
  go_wp2_with fail
  refine (pmay_any false P_1.out (fun t ht => Nat.le_trans (hlp t ht) (by omega)) hb).mono ?_
  rintro e w2 ⟨rfl, hB⟩
  have P_2 := hid (P_1.out.below hB)
  have HB_2 := hid (Below.steps HB_1.out hB)
  clear hB  HB_1 P_1
  go_wp2_with fail
  refine (known9_any _).mono ?_
  rintro e w3 ⟨rfl, hB⟩
  have P_3 := hid (P_2.out.below hB)
  have HB_3 := hid (Below.steps HB_2.out hB)
  clear hB  HB_2 P_2
  go_wp2_with fail
  go_ret
  exact ⟨rfl, HB_3.out⟩
set_option maxHeartbeats 16000000 in
set_option maxRecDepth 100000 in
theorem viewDer_zero {ao : Option Addr} {n cap : Nat} {p : List Term} {w : World} (v u : Int) (hv64 : in64 v) (hu64 : in64 u) (hp : Pr w ao n cap (p.map rawC))
    (hg : greatR (p.map rawC) 20 = false) (hlp : ∀ t ∈ p.map rawC, t.1.2.length ≤ 20) (hn : n ≤ 20) (hpn : p.length = n) (hfp : fall p) (h0 : degP p v = 0) :
    Calls Try.prog 3 #[.slice ao n cap, .int .i64 v, .int .i64 u] w (RetB (.bool true) w) := by
  have _ := hn
  have _ := hpn
  have hl1 : ∀ t ∈ p.map rawC, t.1.2.length ≤ 1000 := fun t ht => Nat.le_trans (hlp t ht) (by omega)
  have hdv := der_fall hfp v
  have hdu := der_fall hfp u
  obtain ⟨z, hz⟩ : ∃ z, degP p v = z := ⟨_, rfl⟩
  have hz0 := degP_zero p v
  have hzb := degP_le (fall_mays hfp) v
  rw [hz] at hz0 hzb
  obtain rfl : z = 0 := by rw [← hz]; exact h0
  have hnil := der_nil h0
  have hzz : ((0 : Int) == 0) = true := rfl
  have P_0 := hid hp
  have HB_0 := hid (Below.refl w.heap.size w)
  clear hp
  go_enter Try.func3, Try.ntmps3
  go_wp2_with fail
  refine (great_any8 false 20 P_0.out hg).mono ?_
  rintro e w1 ⟨rfl, hB⟩
  have P_1 := hid (P_0.out.below hB)
  have HB_1 := hid (Below.steps HB_0.out hB)
  clear hB  HB_0 P_0
  go_wp2_with fail
  refine (pmay_any true P_1.out hl1 (mayR_rawC hfp)).mono ?_
  rintro e w2 ⟨rfl, hB⟩
  have P_2 := hid (P_1.out.below hB)
  have HB_2 := hid (Below.steps HB_1.out hB)
  clear hB  HB_1 P_1
  go_wp2_with fail
  refine (vDer_any v hv64 P_2.out hlp (by omega) (by omega)).mono ?_
  rintro e w3 ⟨vao, van, vac, rfl, hX, hB⟩
  rw [pln_raw hfp] at hX
  have ean := hX.pc.len
  have P_3 := hid (P_2.out.below hB)
  have HB_3 := hid (Below.steps HB_2.out hB)
  have A_3 := hid (hX.pc)
  clear hB hX HB_2 P_2
  have la := A_3.out.lens
  have ea := der_len v p
  go_wp2_with fail
  refine (vDer_any u hu64 A_3.out.raw la (by omega) (by omega)).mono ?_
  rintro e w4 ⟨vbo, vbn, vbc, rfl, hX, hB⟩
  rw [pln_raw hdv] at hX
  have ebn := hX.pc.len
  have P_4 := hid (P_3.out.below hB)
  have A_4 := hid (A_3.out.below hB)
  have HB_4 := hid (Below.steps HB_3.out hB)
  have AB_4 := hid (hX.pc)
  clear hB hX HB_3 P_3 A_3
  clear A_4
  go_wp2_with fail
  refine (vDer_any u hu64 P_4.out hlp (by omega) (by omega)).mono ?_
  rintro e w5 ⟨vco, vcn, vcc, rfl, hX, hB⟩
  rw [pln_raw hfp] at hX
  have ecn := hX.pc.len
  have P_5 := hid (P_4.out.below hB)
  have AB_5 := hid (AB_4.out.below hB)
  have HB_5 := hid (Below.steps HB_4.out hB)
  have C_5 := hid (hX.pc)
  clear hB hX HB_4 P_4 AB_4
  have lc := C_5.out.lens
  have ec := der_len u p
  go_wp2_with fail
  refine (vDer_any v hv64 C_5.out.raw lc (by omega) (by omega)).mono ?_
  rintro e w6 ⟨vdo, vdn, vdc, rfl, hX, hB⟩
  rw [pln_raw hdu] at hX
  have edn := hX.pc.len
  have P_6 := hid (P_5.out.below hB)
  have AB_6 := hid (AB_5.out.below hB)
  have C_6 := hid (C_5.out.below hB)
  have HB_6 := hid (Below.steps HB_5.out hB)
  have CD_6 := hid (hX.pc)
  clear hB hX HB_5 P_5 AB_5 C_5
  clear C_6
  go_wp2_with fail
  refine (vDer_any v hv64 P_6.out hlp (by omega) (by omega)).mono ?_
  rintro e w7 ⟨veo, ven, vec, rfl, hX, hB⟩
  rw [pln_raw hfp] at hX
  have een := hX.pc.len
  have P_7 := hid (P_6.out.below hB)
  have AB_7 := hid (AB_6.out.below hB)
  have CD_7 := hid (CD_6.out.below hB)
  have HB_7 := hid (Below.steps HB_6.out hB)
  have D_7 := hid (hX.pc)
  clear hB hX HB_6 P_6 AB_6 CD_6
  have le := D_7.out.lens
  go_wp2_with fail
  refine (psame_any true AB_7.out.raw CD_7.out.raw (decide_eq_true (by rw [der_comm (fall_mays hfp) v u]))).mono ?_
  rintro e w8 ⟨rfl, hB⟩
  have P_8 := hid (P_7.out.below hB)
  have AB_8 := hid (AB_7.out.below hB)
  have CD_8 := hid (CD_7.out.below hB)
  have D_8 := hid (D_7.out.below hB)
  have HB_8 := hid (Below.steps HB_7.out hB)
  clear hB  HB_7 P_7 AB_7 CD_7 D_7
  clear AB_8
  clear CD_8
  go_wp2_with fail
  refine (mayP_any D_8.out hdv (by omega)).mono ?_
  rintro e w9 ⟨rfl, hB⟩
  have P_9 := hid (P_8.out.below hB)
  have D_9 := hid (D_8.out.below hB)
  have HB_9 := hid (Below.steps HB_8.out hB)
  clear hB  HB_8 P_8 D_8
  go_wp2_with fail
  refine (vDegree_any v 0 P_9.out hl1 (by rw [pln_raw hfp]; exact hz)).mono ?_
  rintro e w10 ⟨rfl, hB⟩
  have P_10 := hid (P_9.out.below hB)
  have D_10 := hid (D_9.out.below hB)
  have HB_10 := hid (Below.steps HB_9.out hB)
  clear hB  HB_9 P_9 D_9
  obtain rfl : ven = 0 := by rw [← een, hnil]; rfl
  have hlz : (((0 : Nat) : Int) == 0) = true := rfl
  go_wp2_with fail
  refine (known9_any _).mono ?_
  rintro e w11 ⟨rfl, hB⟩
  have P_11 := hid (P_10.out.below hB)
  have D_11 := hid (D_10.out.below hB)
  have HB_11 := hid (Below.steps HB_10.out hB)
  clear hB  HB_10 P_10 D_10
  go_wp2_with fail
  go_ret
  exact ⟨rfl, HB_11.out⟩
set_option maxHeartbeats 16000000 in
set_option maxRecDepth 100000 in
theorem viewDer_some {ao : Option Addr} {n cap : Nat} {p : List Term} {w : World} (v u : Int) (hv64 : in64 v) (hu64 : in64 u) (hp : Pr w ao n cap (p.map rawC))
    (hg : greatR (p.map rawC) 20 = false) (hlp : ∀ t ∈ p.map rawC, t.1.2.length ≤ 20) (hn : n ≤ 20) (hpn : p.length = n) (hfp : fall p) (h0 : ¬ degP p v = 0) :
    Calls Try.prog 3 #[.slice ao n cap, .int .i64 v, .int .i64 u] w (RetB (.bool true) w) := by
  have _ := hn
  have _ := hpn
  have hl1 : ∀ t ∈ p.map rawC, t.1.2.length ≤ 1000 := fun t ht => Nat.le_trans (hlp t ht) (by omega)
  have hdv := der_fall hfp v
  have hdu := der_fall hfp u
  obtain ⟨z, hz⟩ : ∃ z, degP p v = z := ⟨_, rfl⟩
  have hz0 := degP_zero p v
  have hzb := degP_le (fall_mays hfp) v
  rw [hz] at hz0 hzb
  have hpos : 0 < z := by rw [hz] at h0; omega
  obtain ⟨hne, hdd, hcc⟩ := der_deg hfp (v := v) (by omega)
  rw [hz] at hdd
  have hzz : (z == 0) = false := by simpa using (show ¬ z = 0 by omega)
  obtain ⟨y, hy⟩ : ∃ y, z - 1 = y := ⟨_, rfl⟩
  rw [hy] at hdd
  have hw : IntKind.i64.wrap (z - 1) = y := by rw [← hy]; exact IntWalk.i64_in _ ⟨by omega, by omega⟩
  have hyy : (y == y) = true := beq_self_eq_true y
  obtain ⟨a, ha⟩ : ∃ a, clsP (derP p v) = a := ⟨_, rfl⟩
  obtain ⟨b, hb⟩ : ∃ b, clsP p = b := ⟨_, rfl⟩
  rw [ha, hb] at hcc
  have hab : decide (a ≤ b) = true := decide_eq_true hcc
  have P_0 := hid hp
  have HB_0 := hid (Below.refl w.heap.size w)
  clear hp
  go_enter Try.func3, Try.ntmps3
  go_wp2_with fail
  refine (great_any8 false 20 P_0.out hg).mono ?_
  rintro e w1 ⟨rfl, hB⟩
  have P_1 := hid (P_0.out.below hB)
  have HB_1 := hid (Below.steps HB_0.out hB)
  clear hB  HB_0 P_0
  go_wp2_with fail
  refine (pmay_any true P_1.out hl1 (mayR_rawC hfp)).mono ?_
  rintro e w2 ⟨rfl, hB⟩
  have P_2 := hid (P_1.out.below hB)
  have HB_2 := hid (Below.steps HB_1.out hB)
  clear hB  HB_1 P_1
  go_wp2_with fail
  refine (vDer_any v hv64 P_2.out hlp (by omega) (by omega)).mono ?_
  rintro e w3 ⟨vao, van, vac, rfl, hX, hB⟩
  rw [pln_raw hfp] at hX
  have ean := hX.pc.len
  have P_3 := hid (P_2.out.below hB)
  have HB_3 := hid (Below.steps HB_2.out hB)
  have A_3 := hid (hX.pc)
  clear hB hX HB_2 P_2
  have la := A_3.out.lens
  have ea := der_len v p
  go_wp2_with fail
  refine (vDer_any u hu64 A_3.out.raw la (by omega) (by omega)).mono ?_
  rintro e w4 ⟨vbo, vbn, vbc, rfl, hX, hB⟩
  rw [pln_raw hdv] at hX
  have ebn := hX.pc.len
  have P_4 := hid (P_3.out.below hB)
  have A_4 := hid (A_3.out.below hB)
  have HB_4 := hid (Below.steps HB_3.out hB)
  have AB_4 := hid (hX.pc)
  clear hB hX HB_3 P_3 A_3
  clear A_4
  go_wp2_with fail
  refine (vDer_any u hu64 P_4.out hlp (by omega) (by omega)).mono ?_
  rintro e w5 ⟨vco, vcn, vcc, rfl, hX, hB⟩
  rw [pln_raw hfp] at hX
  have ecn := hX.pc.len
  have P_5 := hid (P_4.out.below hB)
  have AB_5 := hid (AB_4.out.below hB)
  have HB_5 := hid (Below.steps HB_4.out hB)
  have C_5 := hid (hX.pc)
  clear hB hX HB_4 P_4 AB_4
  have lc := C_5.out.lens
  have ec := der_len u p
  go_wp2_with fail
  refine (vDer_any v hv64 C_5.out.raw lc (by omega) (by omega)).mono ?_
  rintro e w6 ⟨vdo, vdn, vdc, rfl, hX, hB⟩
  rw [pln_raw hdu] at hX
  have edn := hX.pc.len
  have P_6 := hid (P_5.out.below hB)
  have AB_6 := hid (AB_5.out.below hB)
  have C_6 := hid (C_5.out.below hB)
  have HB_6 := hid (Below.steps HB_5.out hB)
  have CD_6 := hid (hX.pc)
  clear hB hX HB_5 P_5 AB_5 C_5
  clear C_6
  go_wp2_with fail
  refine (vDer_any v hv64 P_6.out hlp (by omega) (by omega)).mono ?_
  rintro e w7 ⟨veo, ven, vec, rfl, hX, hB⟩
  rw [pln_raw hfp] at hX
  have een := hX.pc.len
  have P_7 := hid (P_6.out.below hB)
  have AB_7 := hid (AB_6.out.below hB)
  have CD_7 := hid (CD_6.out.below hB)
  have HB_7 := hid (Below.steps HB_6.out hB)
  have D_7 := hid (hX.pc)
  clear hB hX HB_6 P_6 AB_6 CD_6
  have le := D_7.out.lens
  go_wp2_with fail
  refine (psame_any true AB_7.out.raw CD_7.out.raw (decide_eq_true (by rw [der_comm (fall_mays hfp) v u]))).mono ?_
  rintro e w8 ⟨rfl, hB⟩
  have P_8 := hid (P_7.out.below hB)
  have AB_8 := hid (AB_7.out.below hB)
  have CD_8 := hid (CD_7.out.below hB)
  have D_8 := hid (D_7.out.below hB)
  have HB_8 := hid (Below.steps HB_7.out hB)
  clear hB  HB_7 P_7 AB_7 CD_7 D_7
  clear AB_8
  clear CD_8
  go_wp2_with fail
  refine (mayP_any D_8.out hdv (by omega)).mono ?_
  rintro e w9 ⟨rfl, hB⟩
  have P_9 := hid (P_8.out.below hB)
  have D_9 := hid (D_8.out.below hB)
  have HB_9 := hid (Below.steps HB_8.out hB)
  clear hB  HB_8 P_8 D_8
  go_wp2_with fail
  refine (vDegree_any v z P_9.out hl1 (by rw [pln_raw hfp]; exact hz)).mono ?_
  rintro e w10 ⟨rfl, hB⟩
  have P_10 := hid (P_9.out.below hB)
  have D_10 := hid (D_9.out.below hB)
  have HB_10 := hid (Below.steps HB_9.out hB)
  clear hB  HB_9 P_9 D_9
  have hlz : 0 < ven := by have := List.length_pos_iff.2 hne; omega
  have hlz2 : decide ((0 : Int) < (ven : Int)) = true := decide_eq_true (by omega)
  go_wp2_with fail
  refine (vDegree_any v y D_10.out.raw (fun t ht => Nat.le_trans (le t ht) (by omega)) (by rw [pln_raw hdv]; exact hdd)).mono ?_
  rintro e w11 ⟨rfl, hB⟩
  have P_11 := hid (P_10.out.below hB)
  have D_11 := hid (D_10.out.below hB)
  have HB_11 := hid (Below.steps HB_10.out hB)
  clear hB  HB_10 P_10 D_10
  go_wp2_with fail
  refine (vClass_any a D_11.out.raw (fun t ht => Nat.le_trans (le t ht) (by omega)) (by rw [pln_raw hdv]; exact ha)).mono ?_
  rintro e w12 ⟨rfl, hB⟩
  have P_12 := hid (P_11.out.below hB)
  have D_12 := hid (D_11.out.below hB)
  have HB_12 := hid (Below.steps HB_11.out hB)
  clear hB  HB_11 P_11 D_11
  go_wp2_with fail
  refine (vClass_any b P_12.out hl1 (by rw [pln_raw hfp]; exact hb)).mono ?_
  rintro e w13 ⟨rfl, hB⟩
  have P_13 := hid (P_12.out.below hB)
  have D_13 := hid (D_12.out.below hB)
  have HB_13 := hid (Below.steps HB_12.out hB)
  clear hB  HB_12 P_12 D_12
  go_wp2_with fail
  refine (known9_any _).mono ?_
  rintro e w14 ⟨rfl, hB⟩
  have P_14 := hid (P_13.out.below hB)
  have D_14 := hid (D_13.out.below hB)
  have HB_14 := hid (Below.steps HB_13.out hB)
  clear hB  HB_13 P_13 D_13
  go_wp2_with fail
  go_ret
  exact ⟨rfl, HB_14.out⟩
  all_goals exact absurd hlz (by assumption)
theorem viewDerives_any {ao : Option Addr} {n cap : Nat} {ps : List Raw} {w : World} (v u : Int) (hv64 : in64 v) (hu64 : in64 u) (hp : Pr w ao n cap ps) :
    Calls Try.prog 3 #[.slice ao n cap, .int .i64 v, .int .i64 u] w (RetB (.bool true) w) := by
  by_cases hg : greatR ps 20 = true
  · exact viewDer_great v u hv64 hu64 hp hg
  have hg : greatR ps 20 = false := by simpa using hg
  obtain ⟨g1, g2⟩ := great_facts hg
  have hpn := hp.len
  have hn : n ≤ 20 := by omega
  have hl : ∀ t ∈ ps, t.1.2.length ≤ 20 := fun t ht => (g2 t ht).1
  cases hm : mayR ps with
  | false => exact viewDer_bad v u hv64 hu64 hp hg hl hm
  | true =>
    obtain ⟨hfp, hpp⟩ := mayR_yes hp.wf hm
    generalize ps.map rawV = p at hpp hfp
    subst hpp
    rw [List.length_map] at hpn
    by_cases h0 : degP p v = 0
    · exact viewDer_zero v u hv64 hu64 hp hg hl hn hpn hfp h0
    · exact viewDer_some v u hv64 hu64 hp hg hl hn hpn hfp h0
end Go.Proofs.Ytmaanhmdgmjhdaa

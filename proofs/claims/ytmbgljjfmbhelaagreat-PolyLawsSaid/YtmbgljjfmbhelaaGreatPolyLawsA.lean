/-
  The law PolyLaws: what is too great, or may not be.
-/
import Derived.Test.YtmbgljjfmbhelaaGreatGP9
import Derived.Test.YtmbgljjfmbhelaaGreatPlKn
import Derived.Test.YtmbgljjfmbhelaaGreatGP8
set_option maxRecDepth 8192
namespace Go.Proofs.YtmbgljjfmbhelaaGreat
open Lib (hid)
open Go.RowKit
set_option maxHeartbeats 16000000 in
set_option maxRecDepth 100000 in
theorem polyLaws_great0 {ao bo ro : Option Addr} {n cap m cb k cr : Nat} {ps qs rs : List Raw} {w : World} (hp : Pr w ao n cap ps) (hq : Pr w bo m cb qs) (hr : Pr w ro k cr rs)
    (g0 : greatR ps 8 = true) :
    Calls Tryz.prog 7 #[.slice ao n cap, .slice bo m cb, .slice ro k cr] w (RetB (.bool true) w) := by
  have P_0 := hid hp
  have Q_0 := hid hq
  have R_0 := hid hr
  have HB_0 := hid (Below.refl w.heap.size w)
  clear hp hq hr
  go_enter Tryz.func7, Tryz.ntmps7
  go_wp2_with fail
  refine (great_any8 true 8 P_0.out g0).mono ?_
  rintro e w1 ⟨rfl, hB⟩
  have P_1 := hid (P_0.out.below hB)
  have Q_1 := hid (Q_0.out.below hB)
  have R_1 := hid (R_0.out.below hB)
  have HB_1 := hid (Below.steps HB_0.out hB)
  clear hB  HB_0 P_0 Q_0 R_0
  go_wp2_with fail
  refine (known8_any _).mono ?_
  rintro e w2 ⟨rfl, hB⟩
  have P_2 := hid (P_1.out.below hB)
  have Q_2 := hid (Q_1.out.below hB)
  have R_2 := hid (R_1.out.below hB)
  have HB_2 := hid (Below.steps HB_1.out hB)
  clear hB  HB_1 P_1 Q_1 R_1
  go_wp2_with fail
  go_ret
  exact ⟨rfl, HB_2.out⟩
set_option maxHeartbeats 16000000 in
set_option maxRecDepth 100000 in
theorem polyLaws_great1 {ao bo ro : Option Addr} {n cap m cb k cr : Nat} {ps qs rs : List Raw} {w : World} (hp : Pr w ao n cap ps) (hq : Pr w bo m cb qs) (hr : Pr w ro k cr rs)
    (g0 : greatR ps 8 = false) (g1 : greatR qs 8 = true) :
    Calls Tryz.prog 7 #[.slice ao n cap, .slice bo m cb, .slice ro k cr] w (RetB (.bool true) w) := by
  have P_0 := hid hp
  have Q_0 := hid hq
  have R_0 := hid hr
  have HB_0 := hid (Below.refl w.heap.size w)
  clear hp hq hr
  go_enter Tryz.func7, Tryz.ntmps7
  go_wp2_with fail
  refine (great_any8 false 8 P_0.out g0).mono ?_
  rintro e w1 ⟨rfl, hB⟩
  have P_1 := hid (P_0.out.below hB)
  have Q_1 := hid (Q_0.out.below hB)
  have R_1 := hid (R_0.out.below hB)
  have HB_1 := hid (Below.steps HB_0.out hB)
  clear hB  HB_0 P_0 Q_0 R_0
  go_wp2_with fail
  refine (great_any8 true 8 Q_1.out g1).mono ?_
  rintro e w2 ⟨rfl, hB⟩
  have P_2 := hid (P_1.out.below hB)
  have Q_2 := hid (Q_1.out.below hB)
  have R_2 := hid (R_1.out.below hB)
  have HB_2 := hid (Below.steps HB_1.out hB)
  clear hB  HB_1 P_1 Q_1 R_1
  go_wp2_with fail
  refine (known8_any _).mono ?_
  rintro e w3 ⟨rfl, hB⟩
  have P_3 := hid (P_2.out.below hB)
  have Q_3 := hid (Q_2.out.below hB)
  have R_3 := hid (R_2.out.below hB)
  have HB_3 := hid (Below.steps HB_2.out hB)
  clear hB  HB_2 P_2 Q_2 R_2
  go_wp2_with fail
  go_ret
  exact ⟨rfl, HB_3.out⟩
set_option maxHeartbeats 16000000 in
set_option maxRecDepth 100000 in
theorem polyLaws_great2 {ao bo ro : Option Addr} {n cap m cb k cr : Nat} {ps qs rs : List Raw} {w : World} (hp : Pr w ao n cap ps) (hq : Pr w bo m cb qs) (hr : Pr w ro k cr rs)
    (g0 : greatR ps 8 = false) (g1 : greatR qs 8 = false) (g2 : greatR rs 8 = true) :
    Calls Tryz.prog 7 #[.slice ao n cap, .slice bo m cb, .slice ro k cr] w (RetB (.bool true) w) := by
  have P_0 := hid hp
  have Q_0 := hid hq
  have R_0 := hid hr
  have HB_0 := hid (Below.refl w.heap.size w)
  clear hp hq hr
  go_enter Tryz.func7, Tryz.ntmps7
  go_wp2_with fail
  refine (great_any8 false 8 P_0.out g0).mono ?_
  rintro e w1 ⟨rfl, hB⟩
  have P_1 := hid (P_0.out.below hB)
  have Q_1 := hid (Q_0.out.below hB)
  have R_1 := hid (R_0.out.below hB)
  have HB_1 := hid (Below.steps HB_0.out hB)
  clear hB  HB_0 P_0 Q_0 R_0
  go_wp2_with fail
  refine (great_any8 false 8 Q_1.out g1).mono ?_
  rintro e w2 ⟨rfl, hB⟩
  have P_2 := hid (P_1.out.below hB)
  have Q_2 := hid (Q_1.out.below hB)
  have R_2 := hid (R_1.out.below hB)
  have HB_2 := hid (Below.steps HB_1.out hB)
  clear hB  HB_1 P_1 Q_1 R_1
  go_wp2_with fail
  refine (great_any8 true 8 R_2.out g2).mono ?_
  rintro e w3 ⟨rfl, hB⟩
  have P_3 := hid (P_2.out.below hB)
  have Q_3 := hid (Q_2.out.below hB)
  have R_3 := hid (R_2.out.below hB)
  have HB_3 := hid (Below.steps HB_2.out hB)
  clear hB  HB_2 P_2 Q_2 R_2
  go_wp2_with fail
  refine (known8_any _).mono ?_
  rintro e w4 ⟨rfl, hB⟩
  have P_4 := hid (P_3.out.below hB)
  have Q_4 := hid (Q_3.out.below hB)
  have R_4 := hid (R_3.out.below hB)
  have HB_4 := hid (Below.steps HB_3.out hB)
  clear hB  HB_3 P_3 Q_3 R_3
  go_wp2_with fail
  go_ret
  exact ⟨rfl, HB_4.out⟩
set_option maxHeartbeats 16000000 in
set_option maxRecDepth 100000 in
theorem polyLaws_over {ao bo ro : Option Addr} {n cap m cb k cr : Nat} {ps qs rs : List Raw} {w : World} (hp : Pr w ao n cap ps) (hq : Pr w bo m cb qs) (hr : Pr w ro k cr rs)
    (g0 : greatR ps 8 = false) (g1 : greatR qs 8 = false) (g2 : greatR rs 8 = false) (hlp : ∀ t ∈ ps, t.1.2.length ≤ 20) (hlq : ∀ t ∈ qs, t.1.2.length ≤ 20) (hlr : ∀ t ∈ rs, t.1.2.length ≤ 20) (x y z : Int) (hx : limR ps = x) (hy : limR qs = y) (hz : limR rs = z) (bx : 0 ≤ x ∧ x ≤ 20) (by_ : 0 ≤ y ∧ y ≤ 20) (bz : 0 ≤ z ∧ z ≤ 20) (ho : 24 < x + y + z) :
    Calls Tryz.prog 7 #[.slice ao n cap, .slice bo m cb, .slice ro k cr] w (RetB (.bool true) w) := by
  have P_0 := hid hp
  have Q_0 := hid hq
  have R_0 := hid hr
  have HB_0 := hid (Below.refl w.heap.size w)
  clear hp hq hr
  go_enter Tryz.func7, Tryz.ntmps7
  have hg : decide (24 < x + y + z) = true := decide_eq_true ho
  go_wp2_with fail
  refine (great_any8 false 8 P_0.out g0).mono ?_
  rintro e w1 ⟨rfl, hB⟩
  have P_1 := hid (P_0.out.below hB)
  have Q_1 := hid (Q_0.out.below hB)
  have R_1 := hid (R_0.out.below hB)
  have HB_1 := hid (Below.steps HB_0.out hB)
  clear hB  HB_0 P_0 Q_0 R_0
  go_wp2_with fail
  refine (great_any8 false 8 Q_1.out g1).mono ?_
  rintro e w2 ⟨rfl, hB⟩
  have P_2 := hid (P_1.out.below hB)
  have Q_2 := hid (Q_1.out.below hB)
  have R_2 := hid (R_1.out.below hB)
  have HB_2 := hid (Below.steps HB_1.out hB)
  clear hB  HB_1 P_1 Q_1 R_1
  go_wp2_with fail
  refine (great_any8 false 8 R_2.out g2).mono ?_
  rintro e w3 ⟨rfl, hB⟩
  have P_3 := hid (P_2.out.below hB)
  have Q_3 := hid (Q_2.out.below hB)
  have R_3 := hid (R_2.out.below hB)
  have HB_3 := hid (Below.steps HB_2.out hB)
  clear hB  HB_2 P_2 Q_2 R_2
  have hl1 : ∀ t ∈ ps, t.1.2.length ≤ 1000 := fun t ht => Nat.le_trans (hlp t ht) (by omega)
  have hl2 : ∀ t ∈ qs, t.1.2.length ≤ 1000 := fun t ht => Nat.le_trans (hlq t ht) (by omega)
  have hl3 : ∀ t ∈ rs, t.1.2.length ≤ 1000 := fun t ht => Nat.le_trans (hlr t ht) (by omega)
  go_wp2_with fail
  refine (plimbs_any x P_3.out hl1 hx).mono ?_
  rintro e w4 ⟨rfl, hB⟩
  have P_4 := hid (P_3.out.below hB)
  have Q_4 := hid (Q_3.out.below hB)
  have R_4 := hid (R_3.out.below hB)
  have HB_4 := hid (Below.steps HB_3.out hB)
  clear hB  HB_3 P_3 Q_3 R_3
  go_wp2_with fail
  refine (plimbs_any y Q_4.out hl2 hy).mono ?_
  rintro e w5 ⟨rfl, hB⟩
  have P_5 := hid (P_4.out.below hB)
  have Q_5 := hid (Q_4.out.below hB)
  have R_5 := hid (R_4.out.below hB)
  have HB_5 := hid (Below.steps HB_4.out hB)
  clear hB  HB_4 P_4 Q_4 R_4
  go_wp2_with fail
  refine (plimbs_any z R_5.out hl3 hz).mono ?_
  rintro e w6 ⟨rfl, hB⟩
  have P_6 := hid (P_5.out.below hB)
  have Q_6 := hid (Q_5.out.below hB)
  have R_6 := hid (R_5.out.below hB)
  have HB_6 := hid (Below.steps HB_5.out hB)
  clear hB  HB_5 P_5 Q_5 R_5
  go_wp2_with fail
  refine (known8_any _).mono ?_
  rintro e w7 ⟨rfl, hB⟩
  have P_7 := hid (P_6.out.below hB)
  have Q_7 := hid (Q_6.out.below hB)
  have R_7 := hid (R_6.out.below hB)
  have HB_7 := hid (Below.steps HB_6.out hB)
  clear hB  HB_6 P_6 Q_6 R_6
  go_wp2_with fail
  go_ret
  exact ⟨rfl, HB_7.out⟩
set_option maxHeartbeats 16000000 in
set_option maxRecDepth 100000 in
theorem polyLaws_bad1 {ao bo ro : Option Addr} {n cap m cb k cr : Nat} {ps qs rs : List Raw} {w : World} (hp : Pr w ao n cap ps) (hq : Pr w bo m cb qs) (hr : Pr w ro k cr rs)
    (g0 : greatR ps 8 = false) (g1 : greatR qs 8 = false) (g2 : greatR rs 8 = false) (hlp : ∀ t ∈ ps, t.1.2.length ≤ 20) (hlq : ∀ t ∈ qs, t.1.2.length ≤ 20) (hlr : ∀ t ∈ rs, t.1.2.length ≤ 20) (hn : n ≤ 8) (hm : m ≤ 8) (hk : k ≤ 8) (x y z : Int) (hx : limR ps = x) (hy : limR qs = y) (hz : limR rs = z) (bx : 0 ≤ x ∧ x ≤ 20) (by_ : 0 ≤ y ∧ y ≤ 20) (bz : 0 ≤ z ∧ z ≤ 20) (hg : decide (24 < x + y + z) = false) (h1 : mayR ps = false) :
    Calls Tryz.prog 7 #[.slice ao n cap, .slice bo m cb, .slice ro k cr] w (RetB (.bool true) w) := by
  have P_0 := hid hp
  have Q_0 := hid hq
  have R_0 := hid hr
  have HB_0 := hid (Below.refl w.heap.size w)
  clear hp hq hr
  go_enter Tryz.func7, Tryz.ntmps7
  go_wp2_with fail
  refine (great_any8 false 8 P_0.out g0).mono ?_
  rintro e w1 ⟨rfl, hB⟩
  have P_1 := hid (P_0.out.below hB)
  have Q_1 := hid (Q_0.out.below hB)
  have R_1 := hid (R_0.out.below hB)
  have HB_1 := hid (Below.steps HB_0.out hB)
  clear hB  HB_0 P_0 Q_0 R_0
  go_wp2_with fail
  refine (great_any8 false 8 Q_1.out g1).mono ?_
  rintro e w2 ⟨rfl, hB⟩
  have P_2 := hid (P_1.out.below hB)
  have Q_2 := hid (Q_1.out.below hB)
  have R_2 := hid (R_1.out.below hB)
  have HB_2 := hid (Below.steps HB_1.out hB)
  clear hB  HB_1 P_1 Q_1 R_1
  go_wp2_with fail
  refine (great_any8 false 8 R_2.out g2).mono ?_
  rintro e w3 ⟨rfl, hB⟩
  have P_3 := hid (P_2.out.below hB)
  have Q_3 := hid (Q_2.out.below hB)
  have R_3 := hid (R_2.out.below hB)
  have HB_3 := hid (Below.steps HB_2.out hB)
  clear hB  HB_2 P_2 Q_2 R_2
  have hl1 : ∀ t ∈ ps, t.1.2.length ≤ 1000 := fun t ht => Nat.le_trans (hlp t ht) (by omega)
  have hl2 : ∀ t ∈ qs, t.1.2.length ≤ 1000 := fun t ht => Nat.le_trans (hlq t ht) (by omega)
  have hl3 : ∀ t ∈ rs, t.1.2.length ≤ 1000 := fun t ht => Nat.le_trans (hlr t ht) (by omega)
  go_wp2_with fail
  refine (plimbs_any x P_3.out hl1 hx).mono ?_
  rintro e w4 ⟨rfl, hB⟩
  have P_4 := hid (P_3.out.below hB)
  have Q_4 := hid (Q_3.out.below hB)
  have R_4 := hid (R_3.out.below hB)
  have HB_4 := hid (Below.steps HB_3.out hB)
  clear hB  HB_3 P_3 Q_3 R_3
  go_wp2_with fail
  refine (plimbs_any y Q_4.out hl2 hy).mono ?_
  rintro e w5 ⟨rfl, hB⟩
  have P_5 := hid (P_4.out.below hB)
  have Q_5 := hid (Q_4.out.below hB)
  have R_5 := hid (R_4.out.below hB)
  have HB_5 := hid (Below.steps HB_4.out hB)
  clear hB  HB_4 P_4 Q_4 R_4
  go_wp2_with fail
  refine (plimbs_any z R_5.out hl3 hz).mono ?_
  rintro e w6 ⟨rfl, hB⟩
  have P_6 := hid (P_5.out.below hB)
  have Q_6 := hid (Q_5.out.below hB)
  have R_6 := hid (R_5.out.below hB)
  have HB_6 := hid (Below.steps HB_5.out hB)
  clear hB  HB_5 P_5 Q_5 R_5
  go_wp2_with fail
  refine (padd_bad1 P_6.out hl1 h1).mono ?_
  rintro e w7 ⟨vao, van, vac, rfl, hX, hB⟩
  obtain rfl : van = 0 := hX.len.symm
  have P_7 := hid (P_6.out.below hB)
  have Q_7 := hid (Q_6.out.below hB)
  have R_7 := hid (R_6.out.below hB)
  have HB_7 := hid (Below.steps HB_6.out hB)
  have A_7 := hid (hX.raw)
  clear hB hX HB_6 P_6 Q_6 R_6
  go_wp2_with fail
  refine (padd_badx Q_7.out hl2 P_7.out hl1 h1).mono ?_
  rintro e w8 ⟨vbo, vbn, vbc, rfl, hX, hB⟩
  obtain rfl : vbn = 0 := hX.len.symm
  have P_8 := hid (P_7.out.below hB)
  have Q_8 := hid (Q_7.out.below hB)
  have R_8 := hid (R_7.out.below hB)
  have A_8 := hid (A_7.out.below hB)
  have HB_8 := hid (Below.steps HB_7.out hB)
  have B_8 := hid (hX.raw)
  clear hB hX HB_7 P_7 Q_7 R_7 A_7
  go_wp2_with fail
  refine (ptimes_bad1 P_8.out hl1 h1).mono ?_
  rintro e w9 ⟨vco, vcn, vcc, rfl, hX, hB⟩
  obtain rfl : vcn = 0 := hX.len.symm
  have P_9 := hid (P_8.out.below hB)
  have Q_9 := hid (Q_8.out.below hB)
  have R_9 := hid (R_8.out.below hB)
  have A_9 := hid (A_8.out.below hB)
  have B_9 := hid (B_8.out.below hB)
  have HB_9 := hid (Below.steps HB_8.out hB)
  have C_9 := hid (hX.raw)
  clear hB hX HB_8 P_8 Q_8 R_8 A_8 B_8
  go_wp2_with fail
  refine (ptimes_badx Q_9.out hl2 P_9.out hl1 h1).mono ?_
  rintro e w10 ⟨vdo, vdn, vdc, rfl, hX, hB⟩
  obtain rfl : vdn = 0 := hX.len.symm
  have P_10 := hid (P_9.out.below hB)
  have Q_10 := hid (Q_9.out.below hB)
  have R_10 := hid (R_9.out.below hB)
  have A_10 := hid (A_9.out.below hB)
  have B_10 := hid (B_9.out.below hB)
  have C_10 := hid (C_9.out.below hB)
  have HB_10 := hid (Below.steps HB_9.out hB)
  have D_10 := hid (hX.raw)
  clear hB hX HB_9 P_9 Q_9 R_9 A_9 B_9 C_9
  go_wp2_with fail
  refine (psame_any true A_10.out B_10.out (decide_eq_true rfl)).mono ?_
  rintro e w11 ⟨rfl, hB⟩
  have P_11 := hid (P_10.out.below hB)
  have Q_11 := hid (Q_10.out.below hB)
  have R_11 := hid (R_10.out.below hB)
  have A_11 := hid (A_10.out.below hB)
  have B_11 := hid (B_10.out.below hB)
  have C_11 := hid (C_10.out.below hB)
  have D_11 := hid (D_10.out.below hB)
  have HB_11 := hid (Below.steps HB_10.out hB)
  clear hB  HB_10 P_10 Q_10 R_10 A_10 B_10 C_10 D_10
  go_wp2_with fail
  refine (psame_any true C_11.out D_11.out (decide_eq_true rfl)).mono ?_
  rintro e w12 ⟨rfl, hB⟩
  have P_12 := hid (P_11.out.below hB)
  have Q_12 := hid (Q_11.out.below hB)
  have R_12 := hid (R_11.out.below hB)
  have A_12 := hid (A_11.out.below hB)
  have B_12 := hid (B_11.out.below hB)
  have C_12 := hid (C_11.out.below hB)
  have D_12 := hid (D_11.out.below hB)
  have HB_12 := hid (Below.steps HB_11.out hB)
  clear hB  HB_11 P_11 Q_11 R_11 A_11 B_11 C_11 D_11
  clear B_12
  clear C_12
  clear D_12
  go_wp2_with fail
  refine (ptimes_tot A_12.out (fun t h => by cases h) R_12.out hl3 (by omega) (by omega)).mono ?_
  rintro e w13 ⟨vxo, vxn, vxc, vxs, vxe, rfl, hX, hB⟩
  have P_13 := hid (P_12.out.below hB)
  have Q_13 := hid (Q_12.out.below hB)
  have R_13 := hid (R_12.out.below hB)
  have A_13 := hid (A_12.out.below hB)
  have HB_13 := hid (Below.steps HB_12.out hB)
  clear hB hX HB_12 P_12 Q_12 R_12 A_12
  go_wp2_with fail
  refine (ptimes_tot P_13.out hl1 R_13.out hl3 (by omega) (by omega)).mono ?_
  rintro e w14 ⟨vyo, vyn, vyc, vys, vye, rfl, hX, hB⟩
  have P_14 := hid (P_13.out.below hB)
  have Q_14 := hid (Q_13.out.below hB)
  have R_14 := hid (R_13.out.below hB)
  have A_14 := hid (A_13.out.below hB)
  have HB_14 := hid (Below.steps HB_13.out hB)
  clear hB hX HB_13 P_13 Q_13 R_13 A_13
  go_wp2_with fail
  refine (ptimes_tot Q_14.out hl2 R_14.out hl3 (by omega) (by omega)).mono ?_
  rintro e w15 ⟨vzo, vzn, vzc, vzs, vze, rfl, hX, hB⟩
  have P_15 := hid (P_14.out.below hB)
  have Q_15 := hid (Q_14.out.below hB)
  have R_15 := hid (R_14.out.below hB)
  have A_15 := hid (A_14.out.below hB)
  have HB_15 := hid (Below.steps HB_14.out hB)
  clear hB hX HB_14 P_14 Q_14 R_14 A_14
  go_wp2_with fail
  refine (known8_any _).mono ?_
  rintro e w16 ⟨rfl, hB⟩
  have P_16 := hid (P_15.out.below hB)
  have Q_16 := hid (Q_15.out.below hB)
  have R_16 := hid (R_15.out.below hB)
  have A_16 := hid (A_15.out.below hB)
  have HB_16 := hid (Below.steps HB_15.out hB)
  clear hB  HB_15 P_15 Q_15 R_15 A_15
  go_wp2_with fail
  go_ret
  exact ⟨rfl, HB_16.out⟩
set_option maxHeartbeats 16000000 in
set_option maxRecDepth 100000 in
theorem polyLaws_bad2 {ao bo ro : Option Addr} {n cap m cb k cr : Nat} {ps qs rs : List Raw} {w : World} (hp : Pr w ao n cap ps) (hq : Pr w bo m cb qs) (hr : Pr w ro k cr rs)
    (g0 : greatR ps 8 = false) (g1 : greatR qs 8 = false) (g2 : greatR rs 8 = false) (hlp : ∀ t ∈ ps, t.1.2.length ≤ 20) (hlq : ∀ t ∈ qs, t.1.2.length ≤ 20) (hlr : ∀ t ∈ rs, t.1.2.length ≤ 20) (hn : n ≤ 8) (hm : m ≤ 8) (hk : k ≤ 8) (x y z : Int) (hx : limR ps = x) (hy : limR qs = y) (hz : limR rs = z) (bx : 0 ≤ x ∧ x ≤ 20) (by_ : 0 ≤ y ∧ y ≤ 20) (bz : 0 ≤ z ∧ z ≤ 20) (hg : decide (24 < x + y + z) = false) (h1 : mayR ps = true) (h2 : mayR qs = false) :
    Calls Tryz.prog 7 #[.slice ao n cap, .slice bo m cb, .slice ro k cr] w (RetB (.bool true) w) := by
  have P_0 := hid hp
  have Q_0 := hid hq
  have R_0 := hid hr
  have HB_0 := hid (Below.refl w.heap.size w)
  clear hp hq hr
  go_enter Tryz.func7, Tryz.ntmps7
  go_wp2_with fail
  refine (great_any8 false 8 P_0.out g0).mono ?_
  rintro e w1 ⟨rfl, hB⟩
  have P_1 := hid (P_0.out.below hB)
  have Q_1 := hid (Q_0.out.below hB)
  have R_1 := hid (R_0.out.below hB)
  have HB_1 := hid (Below.steps HB_0.out hB)
  clear hB  HB_0 P_0 Q_0 R_0
  go_wp2_with fail
  refine (great_any8 false 8 Q_1.out g1).mono ?_
  rintro e w2 ⟨rfl, hB⟩
  have P_2 := hid (P_1.out.below hB)
  have Q_2 := hid (Q_1.out.below hB)
  have R_2 := hid (R_1.out.below hB)
  have HB_2 := hid (Below.steps HB_1.out hB)
  clear hB  HB_1 P_1 Q_1 R_1
  go_wp2_with fail
  refine (great_any8 false 8 R_2.out g2).mono ?_
  rintro e w3 ⟨rfl, hB⟩
  have P_3 := hid (P_2.out.below hB)
  have Q_3 := hid (Q_2.out.below hB)
  have R_3 := hid (R_2.out.below hB)
  have HB_3 := hid (Below.steps HB_2.out hB)
  clear hB  HB_2 P_2 Q_2 R_2
  have hl1 : ∀ t ∈ ps, t.1.2.length ≤ 1000 := fun t ht => Nat.le_trans (hlp t ht) (by omega)
  have hl2 : ∀ t ∈ qs, t.1.2.length ≤ 1000 := fun t ht => Nat.le_trans (hlq t ht) (by omega)
  have hl3 : ∀ t ∈ rs, t.1.2.length ≤ 1000 := fun t ht => Nat.le_trans (hlr t ht) (by omega)
  go_wp2_with fail
  refine (plimbs_any x P_3.out hl1 hx).mono ?_
  rintro e w4 ⟨rfl, hB⟩
  have P_4 := hid (P_3.out.below hB)
  have Q_4 := hid (Q_3.out.below hB)
  have R_4 := hid (R_3.out.below hB)
  have HB_4 := hid (Below.steps HB_3.out hB)
  clear hB  HB_3 P_3 Q_3 R_3
  go_wp2_with fail
  refine (plimbs_any y Q_4.out hl2 hy).mono ?_
  rintro e w5 ⟨rfl, hB⟩
  have P_5 := hid (P_4.out.below hB)
  have Q_5 := hid (Q_4.out.below hB)
  have R_5 := hid (R_4.out.below hB)
  have HB_5 := hid (Below.steps HB_4.out hB)
  clear hB  HB_4 P_4 Q_4 R_4
  go_wp2_with fail
  refine (plimbs_any z R_5.out hl3 hz).mono ?_
  rintro e w6 ⟨rfl, hB⟩
  have P_6 := hid (P_5.out.below hB)
  have Q_6 := hid (Q_5.out.below hB)
  have R_6 := hid (R_5.out.below hB)
  have HB_6 := hid (Below.steps HB_5.out hB)
  clear hB  HB_5 P_5 Q_5 R_5
  go_wp2_with fail
  refine (padd_bad2 P_6.out hl1 h1 Q_6.out hl2 h2).mono ?_
  rintro e w7 ⟨vao, van, vac, rfl, hX, hB⟩
  obtain rfl : van = 0 := hX.len.symm
  have P_7 := hid (P_6.out.below hB)
  have Q_7 := hid (Q_6.out.below hB)
  have R_7 := hid (R_6.out.below hB)
  have HB_7 := hid (Below.steps HB_6.out hB)
  have A_7 := hid (hX.raw)
  clear hB hX HB_6 P_6 Q_6 R_6
  go_wp2_with fail
  refine (padd_bad1 Q_7.out hl2 h2).mono ?_
  rintro e w8 ⟨vbo, vbn, vbc, rfl, hX, hB⟩
  obtain rfl : vbn = 0 := hX.len.symm
  have P_8 := hid (P_7.out.below hB)
  have Q_8 := hid (Q_7.out.below hB)
  have R_8 := hid (R_7.out.below hB)
  have A_8 := hid (A_7.out.below hB)
  have HB_8 := hid (Below.steps HB_7.out hB)
  have B_8 := hid (hX.raw)
  clear hB hX HB_7 P_7 Q_7 R_7 A_7
  go_wp2_with fail
  refine (ptimes_bad2 P_8.out hl1 h1 Q_8.out hl2 h2).mono ?_
  rintro e w9 ⟨vco, vcn, vcc, rfl, hX, hB⟩
  obtain rfl : vcn = 0 := hX.len.symm
  have P_9 := hid (P_8.out.below hB)
  have Q_9 := hid (Q_8.out.below hB)
  have R_9 := hid (R_8.out.below hB)
  have A_9 := hid (A_8.out.below hB)
  have B_9 := hid (B_8.out.below hB)
  have HB_9 := hid (Below.steps HB_8.out hB)
  have C_9 := hid (hX.raw)
  clear hB hX HB_8 P_8 Q_8 R_8 A_8 B_8
  go_wp2_with fail
  refine (ptimes_bad1 Q_9.out hl2 h2).mono ?_
  rintro e w10 ⟨vdo, vdn, vdc, rfl, hX, hB⟩
  obtain rfl : vdn = 0 := hX.len.symm
  have P_10 := hid (P_9.out.below hB)
  have Q_10 := hid (Q_9.out.below hB)
  have R_10 := hid (R_9.out.below hB)
  have A_10 := hid (A_9.out.below hB)
  have B_10 := hid (B_9.out.below hB)
  have C_10 := hid (C_9.out.below hB)
  have HB_10 := hid (Below.steps HB_9.out hB)
  have D_10 := hid (hX.raw)
  clear hB hX HB_9 P_9 Q_9 R_9 A_9 B_9 C_9
  go_wp2_with fail
  refine (psame_any true A_10.out B_10.out (decide_eq_true rfl)).mono ?_
  rintro e w11 ⟨rfl, hB⟩
  have P_11 := hid (P_10.out.below hB)
  have Q_11 := hid (Q_10.out.below hB)
  have R_11 := hid (R_10.out.below hB)
  have A_11 := hid (A_10.out.below hB)
  have B_11 := hid (B_10.out.below hB)
  have C_11 := hid (C_10.out.below hB)
  have D_11 := hid (D_10.out.below hB)
  have HB_11 := hid (Below.steps HB_10.out hB)
  clear hB  HB_10 P_10 Q_10 R_10 A_10 B_10 C_10 D_10
  go_wp2_with fail
  refine (psame_any true C_11.out D_11.out (decide_eq_true rfl)).mono ?_
  rintro e w12 ⟨rfl, hB⟩
  have P_12 := hid (P_11.out.below hB)
  have Q_12 := hid (Q_11.out.below hB)
  have R_12 := hid (R_11.out.below hB)
  have A_12 := hid (A_11.out.below hB)
  have B_12 := hid (B_11.out.below hB)
  have C_12 := hid (C_11.out.below hB)
  have D_12 := hid (D_11.out.below hB)
  have HB_12 := hid (Below.steps HB_11.out hB)
  clear hB  HB_11 P_11 Q_11 R_11 A_11 B_11 C_11 D_11
  clear B_12
  clear C_12
  clear D_12
  go_wp2_with fail
  refine (ptimes_tot A_12.out (fun t h => by cases h) R_12.out hl3 (by omega) (by omega)).mono ?_
  rintro e w13 ⟨vxo, vxn, vxc, vxs, vxe, rfl, hX, hB⟩
  have P_13 := hid (P_12.out.below hB)
  have Q_13 := hid (Q_12.out.below hB)
  have R_13 := hid (R_12.out.below hB)
  have A_13 := hid (A_12.out.below hB)
  have HB_13 := hid (Below.steps HB_12.out hB)
  clear hB hX HB_12 P_12 Q_12 R_12 A_12
  go_wp2_with fail
  refine (ptimes_tot P_13.out hl1 R_13.out hl3 (by omega) (by omega)).mono ?_
  rintro e w14 ⟨vyo, vyn, vyc, vys, vye, rfl, hX, hB⟩
  have P_14 := hid (P_13.out.below hB)
  have Q_14 := hid (Q_13.out.below hB)
  have R_14 := hid (R_13.out.below hB)
  have A_14 := hid (A_13.out.below hB)
  have HB_14 := hid (Below.steps HB_13.out hB)
  clear hB hX HB_13 P_13 Q_13 R_13 A_13
  go_wp2_with fail
  refine (ptimes_tot Q_14.out hl2 R_14.out hl3 (by omega) (by omega)).mono ?_
  rintro e w15 ⟨vzo, vzn, vzc, vzs, vze, rfl, hX, hB⟩
  have P_15 := hid (P_14.out.below hB)
  have Q_15 := hid (Q_14.out.below hB)
  have R_15 := hid (R_14.out.below hB)
  have A_15 := hid (A_14.out.below hB)
  have HB_15 := hid (Below.steps HB_14.out hB)
  clear hB hX HB_14 P_14 Q_14 R_14 A_14
  go_wp2_with fail
  refine (known8_any _).mono ?_
  rintro e w16 ⟨rfl, hB⟩
  have P_16 := hid (P_15.out.below hB)
  have Q_16 := hid (Q_15.out.below hB)
  have R_16 := hid (R_15.out.below hB)
  have A_16 := hid (A_15.out.below hB)
  have HB_16 := hid (Below.steps HB_15.out hB)
  clear hB  HB_15 P_15 Q_15 R_15 A_15
  go_wp2_with fail
  go_ret
  exact ⟨rfl, HB_16.out⟩
end Go.Proofs.YtmbgljjfmbhelaaGreat

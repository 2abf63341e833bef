/-
  The law PolyRing, on any lists of terms.
-/
import Derived.Test.YtmaanhmdgmjhdaaGreatPlKn
import Derived.Test.YtmaanhmdgmjhdaaGreatGP8
import Derived.Test.YtmaanhmdgmjhdaaGreatGP1
set_option maxRecDepth 8192
namespace Go.Proofs.YtmaanhmdgmjhdaaGreat
open Lib (hid)
open Go.RowKit
set_option maxHeartbeats 16000000 in
set_option maxRecDepth 100000 in
theorem polyRing_great1 {ao bo : Option Addr} {n cap m cb : Nat} {ps qs : List Raw} {w : World} (hp : Pr w ao n cap ps) (hq : Pr w bo m cb qs) (hg : greatR ps 20 = true) :
    Calls Tryz.prog 3 #[.slice ao n cap, .slice bo m cb] w (RetB (.bool true) w) := by
  have P_0 := hid hp
  have Q_0 := hid hq
  have HB_0 := hid (Below.refl w.heap.size w)
  clear hp hq
  go_enter Tryz.func3, Tryz.ntmps3
  go_wp2_with fail
  refine (great_any8 true 20 P_0.out hg).mono ?_
  rintro e w1 ⟨rfl, hB⟩
  have P_1 := hid (P_0.out.below hB)
  have Q_1 := hid (Q_0.out.below hB)
  have HB_1 := hid (Below.steps HB_0.out hB)
  clear hB  HB_0 P_0 Q_0
  go_wp2_with fail
  refine (known8_any _).mono ?_
  rintro e w2 ⟨rfl, hB⟩
  have P_2 := hid (P_1.out.below hB)
  have Q_2 := hid (Q_1.out.below hB)
  have HB_2 := hid (Below.steps HB_1.out hB)
  clear hB  HB_1 P_1 Q_1
  go_wp2_with fail
  go_ret
  exact ⟨rfl, HB_2.out⟩
set_option maxHeartbeats 16000000 in
set_option maxRecDepth 100000 in
theorem polyRing_great2 {ao bo : Option Addr} {n cap m cb : Nat} {ps qs : List Raw} {w : World} (hp : Pr w ao n cap ps) (hq : Pr w bo m cb qs) (hg : greatR ps 20 = false) (hh : greatR qs 20 = true) :
    Calls Tryz.prog 3 #[.slice ao n cap, .slice bo m cb] w (RetB (.bool true) w) := by
  have P_0 := hid hp
  have Q_0 := hid hq
  have HB_0 := hid (Below.refl w.heap.size w)
  clear hp hq
  go_enter Tryz.func3, Tryz.ntmps3
  go_wp2_with fail
  refine (great_any8 false 20 P_0.out hg).mono ?_
  rintro e w1 ⟨rfl, hB⟩
  have P_1 := hid (P_0.out.below hB)
  have Q_1 := hid (Q_0.out.below hB)
  have HB_1 := hid (Below.steps HB_0.out hB)
  clear hB  HB_0 P_0 Q_0
  go_wp2_with fail
  refine (great_any8 true 20 Q_1.out hh).mono ?_
  rintro e w2 ⟨rfl, hB⟩
  have P_2 := hid (P_1.out.below hB)
  have Q_2 := hid (Q_1.out.below hB)
  have HB_2 := hid (Below.steps HB_1.out hB)
  clear hB  HB_1 P_1 Q_1
  go_wp2_with fail
  refine (known8_any _).mono ?_
  rintro e w3 ⟨rfl, hB⟩
  have P_3 := hid (P_2.out.below hB)
  have Q_3 := hid (Q_2.out.below hB)
  have HB_3 := hid (Below.steps HB_2.out hB)
  clear hB  HB_2 P_2 Q_2
  go_wp2_with fail
  go_ret
  exact ⟨rfl, HB_3.out⟩
set_option maxHeartbeats 16000000 in
set_option maxRecDepth 100000 in
theorem polyRing_bad1 {ao bo : Option Addr} {n cap m cb : Nat} {ps qs : List Raw} {w : World} (hp : Pr w ao n cap ps) (hq : Pr w bo m cb qs) (hg : greatR ps 20 = false) (hh : greatR qs 20 = false) (hpn : ps.length = n) (hqn : qs.length = m) (hn : n ≤ 20) (hm : m ≤ 20) (hlp : ∀ t ∈ ps, t.1.2.length ≤ 1000) (hlq : ∀ t ∈ qs, t.1.2.length ≤ 1000) (h1 : mayR ps = false) (h2v : Bool) (h2 : mayR qs = h2v) (r : Bool) (hr : decide (ps = qs) = r) :
    Calls Tryz.prog 3 #[.slice ao n cap, .slice bo m cb] w (RetB (.bool true) w) := by
  have hrr : (r != r) = false := by simp
  have P_0 := hid hp
  have Q_0 := hid hq
  have HB_0 := hid (Below.refl w.heap.size w)
  clear hp hq
  go_enter Tryz.func3, Tryz.ntmps3
  go_wp2_with fail
  refine (great_any8 false 20 P_0.out hg).mono ?_
  rintro e w1 ⟨rfl, hB⟩
  have P_1 := hid (P_0.out.below hB)
  have Q_1 := hid (Q_0.out.below hB)
  have HB_1 := hid (Below.steps HB_0.out hB)
  clear hB  HB_0 P_0 Q_0
  go_wp2_with fail
  refine (great_any8 false 20 Q_1.out hh).mono ?_
  rintro e w2 ⟨rfl, hB⟩
  have P_2 := hid (P_1.out.below hB)
  have Q_2 := hid (Q_1.out.below hB)
  have HB_2 := hid (Below.steps HB_1.out hB)
  clear hB  HB_1 P_1 Q_1
  go_wp2_with fail
  refine (copy_any8 P_2.out (by omega)).mono ?_
  rintro e w3 ⟨xo, xn, xc, rfl, hX, hB⟩
  obtain rfl : n = xn := by rw [← hX.len, hpn]
  have P_3 := hid (P_2.out.below hB)
  have Q_3 := hid (Q_2.out.below hB)
  have HB_3 := hid (Below.steps HB_2.out hB)
  have X_3 := hid (hX)
  clear hB hX HB_2 P_2 Q_2
  go_wp2_with fail
  refine (copy_any8 Q_3.out (by omega)).mono ?_
  rintro e w4 ⟨yo, yn, yc, rfl, hX, hB⟩
  obtain rfl : m = yn := by rw [← hX.len, hqn]
  have P_4 := hid (P_3.out.below hB)
  have Q_4 := hid (Q_3.out.below hB)
  have X_4 := hid (X_3.out.below hB)
  have HB_4 := hid (Below.steps HB_3.out hB)
  have Y_4 := hid (hX)
  clear hB hX HB_3 P_3 Q_3 X_3
  go_wp2_with fail
  refine (padd_bad1 X_4.out hlp h1).mono ?_
  rintro e w5 ⟨vao, van, vac, rfl, hX, hB⟩
  obtain rfl : van = 0 := hX.len.symm
  clear hX
  have P_5 := hid (P_4.out.below hB)
  have Q_5 := hid (Q_4.out.below hB)
  have X_5 := hid (X_4.out.below hB)
  have Y_5 := hid (Y_4.out.below hB)
  have HB_5 := hid (Below.steps HB_4.out hB)
  clear hB  HB_4 P_4 Q_4 X_4 Y_4
  go_wp2_with fail
  refine (psub_bad1 X_5.out hlp h1).mono ?_
  rintro e w6 ⟨vbo, vbn, vbc, rfl, hX, hB⟩
  obtain rfl : vbn = 0 := hX.len.symm
  clear hX
  have P_6 := hid (P_5.out.below hB)
  have Q_6 := hid (Q_5.out.below hB)
  have X_6 := hid (X_5.out.below hB)
  have Y_6 := hid (Y_5.out.below hB)
  have HB_6 := hid (Below.steps HB_5.out hB)
  clear hB  HB_5 P_5 Q_5 X_5 Y_5
  go_wp2_with fail
  refine (pneg_bad X_6.out hlp h1).mono ?_
  rintro e w7 ⟨vco, vcn, vcc, rfl, hX, hB⟩
  obtain rfl : vcn = 0 := hX.len.symm
  clear hX
  have P_7 := hid (P_6.out.below hB)
  have Q_7 := hid (Q_6.out.below hB)
  have X_7 := hid (X_6.out.below hB)
  have Y_7 := hid (Y_6.out.below hB)
  have HB_7 := hid (Below.steps HB_6.out hB)
  clear hB  HB_6 P_6 Q_6 X_6 Y_6
  go_wp2_with fail
  refine (ptimes_bad1 X_7.out hlp h1).mono ?_
  rintro e w8 ⟨vdo, vdn, vdc, rfl, hX, hB⟩
  obtain rfl : vdn = 0 := hX.len.symm
  clear hX
  have P_8 := hid (P_7.out.below hB)
  have Q_8 := hid (Q_7.out.below hB)
  have X_8 := hid (X_7.out.below hB)
  have Y_8 := hid (Y_7.out.below hB)
  have HB_8 := hid (Below.steps HB_7.out hB)
  clear hB  HB_7 P_7 Q_7 X_7 Y_7
  go_wp2_with fail
  refine (may_any8 false P_8.out hlp h1).mono ?_
  rintro e w9 ⟨rfl, hB⟩
  have P_9 := hid (P_8.out.below hB)
  have Q_9 := hid (Q_8.out.below hB)
  have X_9 := hid (X_8.out.below hB)
  have Y_9 := hid (Y_8.out.below hB)
  have HB_9 := hid (Below.steps HB_8.out hB)
  clear hB  HB_8 P_8 Q_8 X_8 Y_8
  go_wp2_with fail
  refine (may_any8 h2v Q_9.out hlq h2).mono ?_
  rintro e w10 ⟨rfl, hB⟩
  have P_10 := hid (P_9.out.below hB)
  have Q_10 := hid (Q_9.out.below hB)
  have X_10 := hid (X_9.out.below hB)
  have Y_10 := hid (Y_9.out.below hB)
  have HB_10 := hid (Below.steps HB_9.out hB)
  clear hB  HB_9 P_9 Q_9 X_9 Y_9
  go_wp2_with fail
  refine (pmay_any false X_10.out hlp h1).mono ?_
  rintro e w11 ⟨rfl, hB⟩
  have P_11 := hid (P_10.out.below hB)
  have Q_11 := hid (Q_10.out.below hB)
  have X_11 := hid (X_10.out.below hB)
  have Y_11 := hid (Y_10.out.below hB)
  have HB_11 := hid (Below.steps HB_10.out hB)
  clear hB  HB_10 P_10 Q_10 X_10 Y_10
  go_wp2_with fail
  refine (psame_any r X_11.out Y_11.out hr).mono ?_
  rintro e w12 ⟨rfl, hB⟩
  have P_12 := hid (P_11.out.below hB)
  have Q_12 := hid (Q_11.out.below hB)
  have X_12 := hid (X_11.out.below hB)
  have Y_12 := hid (Y_11.out.below hB)
  have HB_12 := hid (Below.steps HB_11.out hB)
  clear hB  HB_11 P_11 Q_11 X_11 Y_11
  go_wp2_with fail
  refine (same_any8 r P_12.out Q_12.out hr).mono ?_
  rintro e w13 ⟨rfl, hB⟩
  have P_13 := hid (P_12.out.below hB)
  have Q_13 := hid (Q_12.out.below hB)
  have X_13 := hid (X_12.out.below hB)
  have Y_13 := hid (Y_12.out.below hB)
  have HB_13 := hid (Below.steps HB_12.out hB)
  clear hB  HB_12 P_12 Q_12 X_12 Y_12
  go_wp2_with fail
  refine (known8_any _).mono ?_
  rintro e w14 ⟨rfl, hB⟩
  have P_14 := hid (P_13.out.below hB)
  have Q_14 := hid (Q_13.out.below hB)
  have X_14 := hid (X_13.out.below hB)
  have Y_14 := hid (Y_13.out.below hB)
  have HB_14 := hid (Below.steps HB_13.out hB)
  clear hB  HB_13 P_13 Q_13 X_13 Y_13
  go_wp2_with fail
  go_ret
  exact ⟨rfl, HB_14.out⟩
set_option maxHeartbeats 16000000 in
set_option maxRecDepth 100000 in
theorem polyRing_bad2 {ao bo : Option Addr} {n cap m cb : Nat} {ps qs : List Raw} {w : World} (hp : Pr w ao n cap ps) (hq : Pr w bo m cb qs) (hg : greatR ps 20 = false) (hh : greatR qs 20 = false) (hpn : ps.length = n) (hqn : qs.length = m) (hn : n ≤ 20) (hm : m ≤ 20) (hlp : ∀ t ∈ ps, t.1.2.length ≤ 1000) (hlq : ∀ t ∈ qs, t.1.2.length ≤ 1000) (p : List Term) (hpp : ps = p.map rawC) (hfp : fall p) (hl20 : ∀ t ∈ ps, t.1.2.length ≤ 20) (h1 : mayR ps = true) (h2 : mayR qs = false) (r : Bool) (hr : decide (ps = qs) = r) :
    Calls Tryz.prog 3 #[.slice ao n cap, .slice bo m cb] w (RetB (.bool true) w) := by
  have hrr : (r != r) = false := by simp
  have P_0 := hid hp
  have Q_0 := hid hq
  have HB_0 := hid (Below.refl w.heap.size w)
  clear hp hq
  go_enter Tryz.func3, Tryz.ntmps3
  go_wp2_with fail
  refine (great_any8 false 20 P_0.out hg).mono ?_
  rintro e w1 ⟨rfl, hB⟩
  have P_1 := hid (P_0.out.below hB)
  have Q_1 := hid (Q_0.out.below hB)
  have HB_1 := hid (Below.steps HB_0.out hB)
  clear hB  HB_0 P_0 Q_0
  go_wp2_with fail
  refine (great_any8 false 20 Q_1.out hh).mono ?_
  rintro e w2 ⟨rfl, hB⟩
  have P_2 := hid (P_1.out.below hB)
  have Q_2 := hid (Q_1.out.below hB)
  have HB_2 := hid (Below.steps HB_1.out hB)
  clear hB  HB_1 P_1 Q_1
  go_wp2_with fail
  refine (copy_any8 P_2.out (by omega)).mono ?_
  rintro e w3 ⟨xo, xn, xc, rfl, hX, hB⟩
  obtain rfl : n = xn := by rw [← hX.len, hpn]
  have P_3 := hid (P_2.out.below hB)
  have Q_3 := hid (Q_2.out.below hB)
  have HB_3 := hid (Below.steps HB_2.out hB)
  have X_3 := hid (hX)
  clear hB hX HB_2 P_2 Q_2
  go_wp2_with fail
  refine (copy_any8 Q_3.out (by omega)).mono ?_
  rintro e w4 ⟨yo, yn, yc, rfl, hX, hB⟩
  obtain rfl : m = yn := by rw [← hX.len, hqn]
  have P_4 := hid (P_3.out.below hB)
  have Q_4 := hid (Q_3.out.below hB)
  have X_4 := hid (X_3.out.below hB)
  have HB_4 := hid (Below.steps HB_3.out hB)
  have Y_4 := hid (hX)
  clear hB hX HB_3 P_3 Q_3 X_3
  go_wp2_with fail
  refine (padd_bad2 X_4.out hlp h1 Y_4.out hlq h2).mono ?_
  rintro e w5 ⟨vao, van, vac, rfl, hX, hB⟩
  obtain rfl : van = 0 := hX.len.symm
  clear hX
  have P_5 := hid (P_4.out.below hB)
  have Q_5 := hid (Q_4.out.below hB)
  have X_5 := hid (X_4.out.below hB)
  have Y_5 := hid (Y_4.out.below hB)
  have HB_5 := hid (Below.steps HB_4.out hB)
  clear hB  HB_4 P_4 Q_4 X_4 Y_4
  go_wp2_with fail
  refine (psub_bad2 X_5.out hlp h1 Y_5.out hlq h2).mono ?_
  rintro e w6 ⟨vbo, vbn, vbc, rfl, hX, hB⟩
  obtain rfl : vbn = 0 := hX.len.symm
  clear hX
  have P_6 := hid (P_5.out.below hB)
  have Q_6 := hid (Q_5.out.below hB)
  have X_6 := hid (X_5.out.below hB)
  have Y_6 := hid (Y_5.out.below hB)
  have HB_6 := hid (Below.steps HB_5.out hB)
  clear hB  HB_5 P_5 Q_5 X_5 Y_5
  go_wp2_with fail
  refine (pneg_any (K := 20) (Pr.pc (p := p) (hpp ▸ X_6.out) (hpp ▸ hl20)) hfp (by omega) (by omega)).mono ?_
  rintro e w7 ⟨vco, vcn, vcc, rfl, hX, hB⟩
  clear hX
  have P_7 := hid (P_6.out.below hB)
  have Q_7 := hid (Q_6.out.below hB)
  have X_7 := hid (X_6.out.below hB)
  have Y_7 := hid (Y_6.out.below hB)
  have HB_7 := hid (Below.steps HB_6.out hB)
  clear hB  HB_6 P_6 Q_6 X_6 Y_6
  go_wp2_with fail
  refine (ptimes_bad2 X_7.out hlp h1 Y_7.out hlq h2).mono ?_
  rintro e w8 ⟨vdo, vdn, vdc, rfl, hX, hB⟩
  obtain rfl : vdn = 0 := hX.len.symm
  clear hX
  have P_8 := hid (P_7.out.below hB)
  have Q_8 := hid (Q_7.out.below hB)
  have X_8 := hid (X_7.out.below hB)
  have Y_8 := hid (Y_7.out.below hB)
  have HB_8 := hid (Below.steps HB_7.out hB)
  clear hB  HB_7 P_7 Q_7 X_7 Y_7
  go_wp2_with fail
  refine (may_any8 true P_8.out hlp h1).mono ?_
  rintro e w9 ⟨rfl, hB⟩
  have P_9 := hid (P_8.out.below hB)
  have Q_9 := hid (Q_8.out.below hB)
  have X_9 := hid (X_8.out.below hB)
  have Y_9 := hid (Y_8.out.below hB)
  have HB_9 := hid (Below.steps HB_8.out hB)
  clear hB  HB_8 P_8 Q_8 X_8 Y_8
  go_wp2_with fail
  refine (may_any8 false Q_9.out hlq h2).mono ?_
  rintro e w10 ⟨rfl, hB⟩
  have P_10 := hid (P_9.out.below hB)
  have Q_10 := hid (Q_9.out.below hB)
  have X_10 := hid (X_9.out.below hB)
  have Y_10 := hid (Y_9.out.below hB)
  have HB_10 := hid (Below.steps HB_9.out hB)
  clear hB  HB_9 P_9 Q_9 X_9 Y_9
  go_wp2_with fail
  refine (pmay_any true X_10.out hlp h1).mono ?_
  rintro e w11 ⟨rfl, hB⟩
  have P_11 := hid (P_10.out.below hB)
  have Q_11 := hid (Q_10.out.below hB)
  have X_11 := hid (X_10.out.below hB)
  have Y_11 := hid (Y_10.out.below hB)
  have HB_11 := hid (Below.steps HB_10.out hB)
  clear hB  HB_10 P_10 Q_10 X_10 Y_10
  go_wp2_with fail
  refine (psame_any r X_11.out Y_11.out hr).mono ?_
  rintro e w12 ⟨rfl, hB⟩
  have P_12 := hid (P_11.out.below hB)
  have Q_12 := hid (Q_11.out.below hB)
  have X_12 := hid (X_11.out.below hB)
  have Y_12 := hid (Y_11.out.below hB)
  have HB_12 := hid (Below.steps HB_11.out hB)
  clear hB  HB_11 P_11 Q_11 X_11 Y_11
  go_wp2_with fail
  refine (same_any8 r P_12.out Q_12.out hr).mono ?_
  rintro e w13 ⟨rfl, hB⟩
  have P_13 := hid (P_12.out.below hB)
  have Q_13 := hid (Q_12.out.below hB)
  have X_13 := hid (X_12.out.below hB)
  have Y_13 := hid (Y_12.out.below hB)
  have HB_13 := hid (Below.steps HB_12.out hB)
  clear hB  HB_12 P_12 Q_12 X_12 Y_12
  go_wp2_with fail
  refine (known8_any _).mono ?_
  rintro e w14 ⟨rfl, hB⟩
  have P_14 := hid (P_13.out.below hB)
  have Q_14 := hid (Q_13.out.below hB)
  have X_14 := hid (X_13.out.below hB)
  have Y_14 := hid (Y_13.out.below hB)
  have HB_14 := hid (Below.steps HB_13.out hB)
  clear hB  HB_13 P_13 Q_13 X_13 Y_13
  go_wp2_with fail
  go_ret
  exact ⟨rfl, HB_14.out⟩
end Go.Proofs.YtmaanhmdgmjhdaaGreat

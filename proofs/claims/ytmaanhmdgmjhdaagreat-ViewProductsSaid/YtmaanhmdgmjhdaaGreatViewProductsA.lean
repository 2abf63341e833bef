/-
  The law ViewProducts: where it says nothing.
-/
import Derived.Test.YtmaanhmdgmjhdaaGreatVKn
import Derived.Test.YtmaanhmdgmjhdaaGreatVProdP
import Derived.Test.YtmaanhmdgmjhdaaGreatGP9
import Derived.Test.YtmaanhmdgmjhdaaGreatGP8
set_option maxRecDepth 8192
namespace Go.Proofs.YtmaanhmdgmjhdaaGreat
open Lib (hid)
open Go.RowKit
set_option maxHeartbeats 16000000 in
set_option maxRecDepth 100000 in
theorem viewProd_great0 {ao bo : Option Addr} {n cap m cb : Nat} {ps qs : List Raw} {w : World} (v : Int) (hv64 : in64 v) (hp : Pr w ao n cap ps) (hq : Pr w bo m cb qs)
    (g0 : greatR ps 8 = true) :
    Calls Tryz.prog 12 #[.slice ao n cap, .slice bo m cb, .int .i64 v] w (RetB (.bool true) w) := by
  have _ := v
  have _ := hv64
  have P_0 := hid hp
  have Q_0 := hid hq
  have HB_0 := hid (Below.refl w.heap.size w)
  clear hp hq
  go_enter Tryz.func12, Tryz.ntmps12
  go_wp2_with fail
  refine (great_any8 true 8 P_0.out g0).mono ?_
  rintro e w1 ⟨rfl, hB⟩
  have P_1 := hid (P_0.out.below hB)
  have Q_1 := hid (Q_0.out.below hB)
  have HB_1 := hid (Below.steps HB_0.out hB)
  clear hB  HB_0 P_0 Q_0
  go_wp2_with fail
  refine (known9_any _).mono ?_
  rintro e w2 ⟨rfl, hB⟩
  have P_2 := hid (P_1.out.below hB)
  have Q_2 := hid (Q_1.out.below hB)
  have HB_2 := hid (Below.steps HB_1.out hB)
  clear hB  HB_1 P_1 Q_1
  go_wp2_with fail
  go_ret
  exact ⟨rfl, HB_2.out⟩
set_option maxHeartbeats 16000000 in
set_option maxRecDepth 100000 in
theorem viewProd_great1 {ao bo : Option Addr} {n cap m cb : Nat} {ps qs : List Raw} {w : World} (v : Int) (hv64 : in64 v) (hp : Pr w ao n cap ps) (hq : Pr w bo m cb qs)
    (g0 : greatR ps 8 = false) (g1 : greatR qs 8 = true) :
    Calls Tryz.prog 12 #[.slice ao n cap, .slice bo m cb, .int .i64 v] w (RetB (.bool true) w) := by
  have _ := v
  have _ := hv64
  have P_0 := hid hp
  have Q_0 := hid hq
  have HB_0 := hid (Below.refl w.heap.size w)
  clear hp hq
  go_enter Tryz.func12, Tryz.ntmps12
  go_wp2_with fail
  refine (great_any8 false 8 P_0.out g0).mono ?_
  rintro e w1 ⟨rfl, hB⟩
  have P_1 := hid (P_0.out.below hB)
  have Q_1 := hid (Q_0.out.below hB)
  have HB_1 := hid (Below.steps HB_0.out hB)
  clear hB  HB_0 P_0 Q_0
  go_wp2_with fail
  refine (great_any8 true 8 Q_1.out g1).mono ?_
  rintro e w2 ⟨rfl, hB⟩
  have P_2 := hid (P_1.out.below hB)
  have Q_2 := hid (Q_1.out.below hB)
  have HB_2 := hid (Below.steps HB_1.out hB)
  clear hB  HB_1 P_1 Q_1
  go_wp2_with fail
  refine (known9_any _).mono ?_
  rintro e w3 ⟨rfl, hB⟩
  have P_3 := hid (P_2.out.below hB)
  have Q_3 := hid (Q_2.out.below hB)
  have HB_3 := hid (Below.steps HB_2.out hB)
  clear hB  HB_2 P_2 Q_2
  go_wp2_with fail
  go_ret
  exact ⟨rfl, HB_3.out⟩
set_option maxHeartbeats 16000000 in
set_option maxRecDepth 100000 in
theorem viewProd_nil0 {ao bo : Option Addr} {n cap m cb : Nat} {ps qs : List Raw} {w : World} (v : Int) (hv64 : in64 v) (hp : Pr w ao n cap ps) (hq : Pr w bo m cb qs)
    (g0 : greatR ps 8 = false) (g1 : greatR qs 8 = false) (h0 : n = 0) :
    Calls Tryz.prog 12 #[.slice ao n cap, .slice bo m cb, .int .i64 v] w (RetB (.bool true) w) := by
  have _ := v
  have _ := hv64
  subst h0
  have hd : (((0 : Nat) : Int) == 0) = true := rfl
  have P_0 := hid hp
  have Q_0 := hid hq
  have HB_0 := hid (Below.refl w.heap.size w)
  clear hp hq
  go_enter Tryz.func12, Tryz.ntmps12
  go_wp2_with fail
  refine (great_any8 false 8 P_0.out g0).mono ?_
  rintro e w1 ⟨rfl, hB⟩
  have P_1 := hid (P_0.out.below hB)
  have Q_1 := hid (Q_0.out.below hB)
  have HB_1 := hid (Below.steps HB_0.out hB)
  clear hB  HB_0 P_0 Q_0
  go_wp2_with fail
  refine (great_any8 false 8 Q_1.out g1).mono ?_
  rintro e w2 ⟨rfl, hB⟩
  have P_2 := hid (P_1.out.below hB)
  have Q_2 := hid (Q_1.out.below hB)
  have HB_2 := hid (Below.steps HB_1.out hB)
  clear hB  HB_1 P_1 Q_1
  go_wp2_with fail
  refine (known9_any _).mono ?_
  rintro e w3 ⟨rfl, hB⟩
  have P_3 := hid (P_2.out.below hB)
  have Q_3 := hid (Q_2.out.below hB)
  have HB_3 := hid (Below.steps HB_2.out hB)
  clear hB  HB_2 P_2 Q_2
  go_wp2_with fail
  go_ret
  exact ⟨rfl, HB_3.out⟩
set_option maxHeartbeats 16000000 in
set_option maxRecDepth 100000 in
theorem viewProd_nil1 {ao bo : Option Addr} {n cap m cb : Nat} {ps qs : List Raw} {w : World} (v : Int) (hv64 : in64 v) (hp : Pr w ao n cap ps) (hq : Pr w bo m cb qs)
    (g0 : greatR ps 8 = false) (g1 : greatR qs 8 = false) (h0 : 0 < n) (h1 : m = 0) :
    Calls Tryz.prog 12 #[.slice ao n cap, .slice bo m cb, .int .i64 v] w (RetB (.bool true) w) := by
  have _ := v
  have _ := hv64
  have _ := h0
  subst h1
  have hd0 : ((n : Int) == 0) = false := by simpa using (show ¬ (n : Int) = 0 by omega)
  have hd : (((0 : Nat) : Int) == 0) = true := rfl
  have P_0 := hid hp
  have Q_0 := hid hq
  have HB_0 := hid (Below.refl w.heap.size w)
  clear hp hq
  go_enter Tryz.func12, Tryz.ntmps12
  go_wp2_with fail
  refine (great_any8 false 8 P_0.out g0).mono ?_
  rintro e w1 ⟨rfl, hB⟩
  have P_1 := hid (P_0.out.below hB)
  have Q_1 := hid (Q_0.out.below hB)
  have HB_1 := hid (Below.steps HB_0.out hB)
  clear hB  HB_0 P_0 Q_0
  go_wp2_with fail
  refine (great_any8 false 8 Q_1.out g1).mono ?_
  rintro e w2 ⟨rfl, hB⟩
  have P_2 := hid (P_1.out.below hB)
  have Q_2 := hid (Q_1.out.below hB)
  have HB_2 := hid (Below.steps HB_1.out hB)
  clear hB  HB_1 P_1 Q_1
  go_wp2_with fail
  refine (known9_any _).mono ?_
  rintro e w3 ⟨rfl, hB⟩
  have P_3 := hid (P_2.out.below hB)
  have Q_3 := hid (Q_2.out.below hB)
  have HB_3 := hid (Below.steps HB_2.out hB)
  clear hB  HB_2 P_2 Q_2
  go_wp2_with fail
  go_ret
  exact ⟨rfl, HB_3.out⟩
set_option maxHeartbeats 16000000 in
set_option maxRecDepth 100000 in
theorem viewProd_bad1 {ao bo : Option Addr} {n cap m cb : Nat} {ps qs : List Raw} {w : World} (v : Int) (hv64 : in64 v) (hp : Pr w ao n cap ps) (hq : Pr w bo m cb qs)
    (g0 : greatR ps 8 = false) (g1 : greatR qs 8 = false) (hlp : ∀ t ∈ ps, t.1.2.length ≤ 20) (hlq : ∀ t ∈ qs, t.1.2.length ≤ 20) (hn : n ≤ 8) (hm : m ≤ 8) (h0 : 0 < n) (h1 : 0 < m) (hb : mayR ps = false) :
    Calls Tryz.prog 12 #[.slice ao n cap, .slice bo m cb, .int .i64 v] w (RetB (.bool true) w) := by
  have _ := v
  have _ := hv64
  have _ := hlq
  have _ := hn
  have _ := hm
  have _ := h0
  have _ := h1
  have hd0 : ((n : Int) == 0) = false := by simpa using (show ¬ (n : Int) = 0 by omega)
  have hd1 : ((m : Int) == 0) = false := by simpa using (show ¬ (m : Int) = 0 by omega)
  have P_0 := hid hp
  have Q_0 := hid hq
  have HB_0 := hid (Below.refl w.heap.size w)
  clear hp hq
  go_enter Tryz.func12, Tryz.ntmps12
  go_wp2_with fail
  refine (great_any8 false 8 P_0.out g0).mono ?_
  rintro e w1 ⟨rfl, hB⟩
  have P_1 := hid (P_0.out.below hB)
  have Q_1 := hid (Q_0.out.below hB)
  have HB_1 := hid (Below.steps HB_0.out hB)
  clear hB  HB_0 P_0 Q_0
  go_wp2_with fail
  refine (great_any8 false 8 Q_1.out g1).mono ?_
  rintro e w2 ⟨rfl, hB⟩
  have P_2 := hid (P_1.out.below hB)
  have Q_2 := hid (Q_1.out.below hB)
  have HB_2 := hid (Below.steps HB_1.out hB)
  clear hB  HB_1 P_1 Q_1
  go_wp2_with fail
  refine (ptimes_bad1 P_2.out (fun t ht => Nat.le_trans (hlp t ht) (by omega)) hb).mono ?_
  rintro e w3 ⟨vco, vcn, vcc, rfl, hX, hB⟩
  clear hX
  have P_3 := hid (P_2.out.below hB)
  have Q_3 := hid (Q_2.out.below hB)
  have HB_3 := hid (Below.steps HB_2.out hB)
  clear hB  HB_2 P_2 Q_2
  go_wp2_with fail
  refine (known9_any _).mono ?_
  rintro e w4 ⟨rfl, hB⟩
  have P_4 := hid (P_3.out.below hB)
  have Q_4 := hid (Q_3.out.below hB)
  have HB_4 := hid (Below.steps HB_3.out hB)
  clear hB  HB_3 P_3 Q_3
  go_wp2_with fail
  go_ret
  exact ⟨rfl, HB_4.out⟩
set_option maxHeartbeats 16000000 in
set_option maxRecDepth 100000 in
theorem viewProd_bad2 {ao bo : Option Addr} {n cap m cb : Nat} {ps qs : List Raw} {w : World} (v : Int) (hv64 : in64 v) (hp : Pr w ao n cap ps) (hq : Pr w bo m cb qs)
    (g0 : greatR ps 8 = false) (g1 : greatR qs 8 = false) (hlp : ∀ t ∈ ps, t.1.2.length ≤ 20) (hlq : ∀ t ∈ qs, t.1.2.length ≤ 20) (hn : n ≤ 8) (hm : m ≤ 8) (h0 : 0 < n) (h1 : 0 < m) (ha : mayR ps = true) (hb : mayR qs = false) :
    Calls Tryz.prog 12 #[.slice ao n cap, .slice bo m cb, .int .i64 v] w (RetB (.bool true) w) := by
  have _ := v
  have _ := hv64
  have _ := hn
  have _ := hm
  have _ := h0
  have _ := h1
  have hd0 : ((n : Int) == 0) = false := by simpa using (show ¬ (n : Int) = 0 by omega)
  have hd1 : ((m : Int) == 0) = false := by simpa using (show ¬ (m : Int) = 0 by omega)
  have P_0 := hid hp
  have Q_0 := hid hq
  have HB_0 := hid (Below.refl w.heap.size w)
  clear hp hq
  go_enter Tryz.func12, Tryz.ntmps12
  go_wp2_with fail
  refine (great_any8 false 8 P_0.out g0).mono ?_
  rintro e w1 ⟨rfl, hB⟩
  have P_1 := hid (P_0.out.below hB)
  have Q_1 := hid (Q_0.out.below hB)
  have HB_1 := hid (Below.steps HB_0.out hB)
  clear hB  HB_0 P_0 Q_0
  go_wp2_with fail
  refine (great_any8 false 8 Q_1.out g1).mono ?_
  rintro e w2 ⟨rfl, hB⟩
  have P_2 := hid (P_1.out.below hB)
  have Q_2 := hid (Q_1.out.below hB)
  have HB_2 := hid (Below.steps HB_1.out hB)
  clear hB  HB_1 P_1 Q_1
  go_wp2_with fail
  refine (ptimes_bad2 P_2.out (fun t ht => Nat.le_trans (hlp t ht) (by omega)) ha Q_2.out (fun t ht => Nat.le_trans (hlq t ht) (by omega)) hb).mono ?_
  rintro e w3 ⟨vco, vcn, vcc, rfl, hX, hB⟩
  clear hX
  have P_3 := hid (P_2.out.below hB)
  have Q_3 := hid (Q_2.out.below hB)
  have HB_3 := hid (Below.steps HB_2.out hB)
  clear hB  HB_2 P_2 Q_2
  go_wp2_with fail
  refine (known9_any _).mono ?_
  rintro e w4 ⟨rfl, hB⟩
  have P_4 := hid (P_3.out.below hB)
  have Q_4 := hid (Q_3.out.below hB)
  have HB_4 := hid (Below.steps HB_3.out hB)
  clear hB  HB_3 P_3 Q_3
  go_wp2_with fail
  go_ret
  exact ⟨rfl, HB_4.out⟩
set_option maxHeartbeats 16000000 in
set_option maxRecDepth 100000 in
theorem viewProd_nofit {ao bo : Option Addr} {n cap m cb : Nat} {p q : List Term} {w : World} (v : Int) (hv64 : in64 v) (hp : Pr w ao n cap (p.map rawC)) (hq : Pr w bo m cb (q.map rawC))
    (g0 : greatR (p.map rawC) 8 = false) (g1 : greatR (q.map rawC) 8 = false) (hlp : ∀ t ∈ (p.map rawC), t.1.2.length ≤ 20) (hlq : ∀ t ∈ (q.map rawC), t.1.2.length ≤ 20) (hn : n ≤ 8) (hm : m ≤ 8) (h0 : 0 < n) (h1 : 0 < m) (hfp : fall p) (hfq : fall q) (hpn : p.length = n) (hqm : q.length = m) (hf : fitB p q = false) :
    Calls Tryz.prog 12 #[.slice ao n cap, .slice bo m cb, .int .i64 v] w (RetB (.bool true) w) := by
  have _ := v
  have _ := hv64
  have _ := h0
  have _ := h1
  have hd0 : ((n : Int) == 0) = false := by simpa using (show ¬ (n : Int) = 0 by omega)
  have hd1 : ((m : Int) == 0) = false := by simpa using (show ¬ (m : Int) = 0 by omega)
  have hnm : n * m ≤ 64 := Nat.mul_le_mul hn hm
  have hpq : p.length * q.length ≤ 64 := by rw [hpn, hqm]; exact hnm
  have P_0 := hid hp
  have Q_0 := hid hq
  have HB_0 := hid (Below.refl w.heap.size w)
  clear hp hq
  go_enter Tryz.func12, Tryz.ntmps12
  go_wp2_with fail
  refine (great_any8 false 8 P_0.out g0).mono ?_
  rintro e w1 ⟨rfl, hB⟩
  have P_1 := hid (P_0.out.below hB)
  have Q_1 := hid (Q_0.out.below hB)
  have HB_1 := hid (Below.steps HB_0.out hB)
  clear hB  HB_0 P_0 Q_0
  go_wp2_with fail
  refine (great_any8 false 8 Q_1.out g1).mono ?_
  rintro e w2 ⟨rfl, hB⟩
  have P_2 := hid (P_1.out.below hB)
  have Q_2 := hid (Q_1.out.below hB)
  have HB_2 := hid (Below.steps HB_1.out hB)
  clear hB  HB_1 P_1 Q_1
  have hl1 : ∀ t ∈ p.map rawC, t.1.2.length ≤ 1000 := fun t ht => Nat.le_trans (hlp t ht) (by omega)
  have hl2 : ∀ t ∈ q.map rawC, t.1.2.length ≤ 1000 := fun t ht => Nat.le_trans (hlq t ht) (by omega)
  have PC_2 := hid (Pr.pc (p := p) P_2.out hlp)
  have QC_2 := hid (Pr.pc (p := q) Q_2.out hlq)
  go_wp2_with fail
  refine (ptimes_no PC_2.out QC_2.out hfp hfq (by omega) (by omega) (by omega) hf).mono ?_
  rintro e w3 ⟨vco, vcn, vcc, rfl, hX, hB⟩
  clear hX
  have P_3 := hid (P_2.out.below hB)
  have Q_3 := hid (Q_2.out.below hB)
  have PC_3 := hid (PC_2.out.below hB)
  have QC_3 := hid (QC_2.out.below hB)
  have HB_3 := hid (Below.steps HB_2.out hB)
  clear hB  HB_2 P_2 Q_2 PC_2 QC_2
  go_wp2_with fail
  refine (known9_any _).mono ?_
  rintro e w4 ⟨rfl, hB⟩
  have P_4 := hid (P_3.out.below hB)
  have Q_4 := hid (Q_3.out.below hB)
  have PC_4 := hid (PC_3.out.below hB)
  have QC_4 := hid (QC_3.out.below hB)
  have HB_4 := hid (Below.steps HB_3.out hB)
  clear hB  HB_3 P_3 Q_3 PC_3 QC_3
  go_wp2_with fail
  go_ret
  exact ⟨rfl, HB_4.out⟩
end Go.Proofs.YtmaanhmdgmjhdaaGreat

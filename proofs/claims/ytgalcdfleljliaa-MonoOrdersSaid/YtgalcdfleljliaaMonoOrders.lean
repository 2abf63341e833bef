/-
  The law MonoOrders.
-/
import Derived.Test.YtgalcdfleljliaaMLawP
set_option maxRecDepth 8192
namespace Go.Proofs.Ytgalcdfleljliaa
open Go.RowKit

set_option maxHeartbeats 2000000 in
set_option maxRecDepth 100000 in
theorem monoOrders_great {a0 : Option Addr} {la ca : Nat} {xs : List (Int × Int)} {b0 : Option Addr} {lb cb : Nat} {ys : List (Int × Int)} {w : World} (ha : Ml w a0 la ca xs) (hb : Ml w b0 lb cb ys) (v : Int) (hg : ([(a0, la, ca), (b0, lb, cb)].any fun s => decide (300 < s.2.1)) = true) :
    Calls Try.prog 4 #[.slice a0 la ca, .slice b0 lb cb, .int .i64 v] w (RetB (.bool true) w) := by
  have HG := Lib.hid hg
  clear hg
  have HL0 : Hid (AllM w _) := Lib.hid (AllM.mk2 ha hb)
  have HB0 := Lib.hid (Below.refl w.heap.size w)
  clear ha hb
  go_enter Try.func4, Try.ntmps4
  go_wp2_with fail
  refine (great7_any [(a0, la, ca), (b0, lb, cb)] true (Cells.new _ _ ([(a0, la, ca), (b0, lb, cb)].map sliceV) _ rfl) rfl (by simp) HG.out).mono ?_
  rintro e w1 ⟨rfl, hB⟩
  have HL1 := Lib.hid (HL0.out.below (step_alloc hB))
  have HB1 := Lib.hid (Below.steps HB0.out (step_alloc hB))
  clear hB HL0 HB0
  go_wp2_with fail
  refine (known7_any _).mono ?_
  rintro e w2 ⟨rfl, hB⟩
  have HL2 := Lib.hid (HL1.out.below hB)
  have HB2 := Lib.hid (Below.steps HB1.out hB)
  clear hB HL1 HB1
  go_wp2_with fail
  go_ret
  exact ⟨rfl, HB2.out⟩

set_option maxHeartbeats 2000000 in
set_option maxRecDepth 100000 in
theorem monoOrders_0 {a0 : Option Addr} {la ca : Nat} {xs : List (Int × Int)} {b0 : Option Addr} {lb cb : Nat} {ys : List (Int × Int)} {w : World} (ha : Ml w a0 la ca xs) (hb : Ml w b0 lb cb ys) (v : Int) (hx : mayM 0 xs = false) (hg : ([(a0, la, ca), (b0, lb, cb)].any fun s => decide (300 < s.2.1)) = false) :
    Calls Try.prog 4 #[.slice a0 la ca, .slice b0 lb cb, .int .i64 v] w (RetB (.bool true) w) := by
  obtain ⟨d, hd⟩ : ∃ d, exE xs v = d := ⟨_, rfl⟩
  obtain ⟨k, hk⟩ : ∃ k, clsM (orM xs) = k := ⟨_, rfl⟩
  have hc : cmpR xs ys = (0, 2) := if_neg (by simp [hx])
  have HG := Lib.hid hg
  have HD := Lib.hid hd
  have HK := Lib.hid hk
  have HX := Lib.hid hx
  have HC := Lib.hid hc
  clear hg hd hk hx hc
  have HL0 : Hid (AllM w _) := Lib.hid (AllM.mk2 ha hb)
  have HB0 := Lib.hid (Below.refl w.heap.size w)
  clear ha hb
  go_enter Try.func4, Try.ntmps4
  go_wp2_with fail
  refine (great7_any [(a0, la, ca), (b0, lb, cb)] false (Cells.new _ _ ([(a0, la, ca), (b0, lb, cb)].map sliceV) _ rfl) rfl (by simp) HG.out).mono ?_
  rintro e w1 ⟨rfl, hB⟩
  have HL1 := Lib.hid (HL0.out.below (step_alloc hB))
  have HB1 := Lib.hid (Below.steps HB0.out (step_alloc hB))
  clear hB HL0 HB0
  go_wp2_with fail
  refine (compare_is _ _ HL1.out.head HL1.out.tail.head HC.out).mono ?_
  rintro e w2 ⟨rfl, hB⟩
  have HL2 := Lib.hid (HL1.out.below hB)
  have HB2 := Lib.hid (Below.steps HB1.out hB)
  clear hB HL1 HB1
  go_wp2_with fail
  refine (degree_any HL2.out.head v d HD.out).mono ?_
  rintro e w3 ⟨rfl, hB⟩
  have HL3 := Lib.hid (HL2.out.below hB)
  have HB3 := Lib.hid (Below.steps HB2.out hB)
  clear hB HL2 HB2
  go_wp2_with fail
  refine (degree7_any HL3.out.head v d HD.out).mono ?_
  rintro e w4 ⟨rfl, hB⟩
  have HL4 := Lib.hid (HL3.out.below hB)
  have HB4 := Lib.hid (Below.steps HB3.out hB)
  clear hB HL3 HB3
  go_wp2_with fail
  refine (class_any HL4.out.head k HK.out).mono ?_
  rintro e w5 ⟨rfl, hB⟩
  have HL5 := Lib.hid (HL4.out.below hB)
  have HB5 := Lib.hid (Below.steps HB4.out hB)
  clear hB HL4 HB4
  go_wp2_with fail
  refine (class7_any HL5.out.head k HK.out).mono ?_
  rintro e w6 ⟨rfl, hB⟩
  have HL6 := Lib.hid (HL5.out.below hB)
  have HB6 := Lib.hid (Below.steps HB5.out hB)
  clear hB HL5 HB5
  go_wp2_with fail
  refine (may7_any false HL6.out.head HX.out).mono ?_
  rintro e w7 ⟨rfl, hB⟩
  have HL7 := Lib.hid (HL6.out.below hB)
  have HB7 := Lib.hid (Below.steps HB6.out hB)
  clear hB HL6 HB6
  go_wp2_with fail
  refine (known7_any _).mono ?_
  rintro e w8 ⟨rfl, hB⟩
  have HL8 := Lib.hid (HL7.out.below hB)
  have HB8 := Lib.hid (Below.steps HB7.out hB)
  clear hB HL7 HB7
  go_wp2_with fail
  go_ret
  exact ⟨rfl, HB8.out⟩

set_option maxHeartbeats 2000000 in
set_option maxRecDepth 100000 in
theorem monoOrders_1 {a0 : Option Addr} {la ca : Nat} {xs : List (Int × Int)} {b0 : Option Addr} {lb cb : Nat} {ys : List (Int × Int)} {w : World} (ha : Ml w a0 la ca xs) (hb : Ml w b0 lb cb ys) (v : Int) (hx : mayM 0 xs = true) (hy : mayM 0 ys = false) (hg : ([(a0, la, ca), (b0, lb, cb)].any fun s => decide (300 < s.2.1)) = false) :
    Calls Try.prog 4 #[.slice a0 la ca, .slice b0 lb cb, .int .i64 v] w (RetB (.bool true) w) := by
  obtain ⟨d, hd⟩ : ∃ d, exE xs v = d := ⟨_, rfl⟩
  obtain ⟨k, hk⟩ : ∃ k, clsM (orM xs) = k := ⟨_, rfl⟩
  have hc : cmpR xs ys = (0, 2) := if_neg (by simp [hy])
  have HG := Lib.hid hg
  have HD := Lib.hid hd
  have HK := Lib.hid hk
  have HX := Lib.hid hx
  have HY := Lib.hid hy
  have HC := Lib.hid hc
  clear hg hd hk hx hy hc
  have HL0 : Hid (AllM w _) := Lib.hid (AllM.mk2 ha hb)
  have HB0 := Lib.hid (Below.refl w.heap.size w)
  clear ha hb
  go_enter Try.func4, Try.ntmps4
  go_wp2_with fail
  refine (great7_any [(a0, la, ca), (b0, lb, cb)] false (Cells.new _ _ ([(a0, la, ca), (b0, lb, cb)].map sliceV) _ rfl) rfl (by simp) HG.out).mono ?_
  rintro e w1 ⟨rfl, hB⟩
  have HL1 := Lib.hid (HL0.out.below (step_alloc hB))
  have HB1 := Lib.hid (Below.steps HB0.out (step_alloc hB))
  clear hB HL0 HB0
  go_wp2_with fail
  refine (compare_is _ _ HL1.out.head HL1.out.tail.head HC.out).mono ?_
  rintro e w2 ⟨rfl, hB⟩
  have HL2 := Lib.hid (HL1.out.below hB)
  have HB2 := Lib.hid (Below.steps HB1.out hB)
  clear hB HL1 HB1
  go_wp2_with fail
  refine (degree_any HL2.out.head v d HD.out).mono ?_
  rintro e w3 ⟨rfl, hB⟩
  have HL3 := Lib.hid (HL2.out.below hB)
  have HB3 := Lib.hid (Below.steps HB2.out hB)
  clear hB HL2 HB2
  go_wp2_with fail
  refine (degree7_any HL3.out.head v d HD.out).mono ?_
  rintro e w4 ⟨rfl, hB⟩
  have HL4 := Lib.hid (HL3.out.below hB)
  have HB4 := Lib.hid (Below.steps HB3.out hB)
  clear hB HL3 HB3
  go_wp2_with fail
  refine (class_any HL4.out.head k HK.out).mono ?_
  rintro e w5 ⟨rfl, hB⟩
  have HL5 := Lib.hid (HL4.out.below hB)
  have HB5 := Lib.hid (Below.steps HB4.out hB)
  clear hB HL4 HB4
  go_wp2_with fail
  refine (class7_any HL5.out.head k HK.out).mono ?_
  rintro e w6 ⟨rfl, hB⟩
  have HL6 := Lib.hid (HL5.out.below hB)
  have HB6 := Lib.hid (Below.steps HB5.out hB)
  clear hB HL5 HB5
  go_wp2_with fail
  refine (may7_any true HL6.out.head HX.out).mono ?_
  rintro e w7 ⟨rfl, hB⟩
  have HL7 := Lib.hid (HL6.out.below hB)
  have HB7 := Lib.hid (Below.steps HB6.out hB)
  clear hB HL6 HB6
  go_wp2_with fail
  refine (may7_any false HL7.out.tail.head HY.out).mono ?_
  rintro e w8 ⟨rfl, hB⟩
  have HL8 := Lib.hid (HL7.out.below hB)
  have HB8 := Lib.hid (Below.steps HB7.out hB)
  clear hB HL7 HB7
  go_wp2_with fail
  refine (known7_any _).mono ?_
  rintro e w9 ⟨rfl, hB⟩
  have HL9 := Lib.hid (HL8.out.below hB)
  have HB9 := Lib.hid (Below.steps HB8.out hB)
  clear hB HL8 HB8
  go_wp2_with fail
  go_ret
  exact ⟨rfl, HB9.out⟩

set_option maxHeartbeats 2000000 in
set_option maxRecDepth 100000 in
theorem monoOrders_2 {a0 : Option Addr} {la ca : Nat} {xs : List (Int × Int)} {b0 : Option Addr} {lb cb : Nat} {ys : List (Int × Int)} {w : World} (ha : Ml w a0 la ca xs) (hb : Ml w b0 lb cb ys) (v : Int) (hx : mayM 0 xs = true) (hy : mayM 0 ys = true) (hg : ([(a0, la, ca), (b0, lb, cb)].any fun s => decide (300 < s.2.1)) = false) :
    Calls Try.prog 4 #[.slice a0 la ca, .slice b0 lb cb, .int .i64 v] w (RetB (.bool true) w) := by
  obtain ⟨d, hd⟩ : ∃ d, exE xs v = d := ⟨_, rfl⟩
  obtain ⟨k, hk⟩ : ∃ k, clsM (orM xs) = k := ⟨_, rfl⟩
  obtain ⟨c, hc, hcc⟩ := cmpR_yes hx hy
  have hcc2 : IsCmp c (exE xs) (exE ys) := by rw [exE_yes hx, exE_yes hy]; exact hcc
  clear hcc
  have HG := Lib.hid hg
  have HD := Lib.hid hd
  have HK := Lib.hid hk
  have HX := Lib.hid hx
  have HCC := Lib.hid hcc2
  have HY := Lib.hid hy
  have HC := Lib.hid hc
  clear hg hd hk hx hcc2 hy hc
  have HL0 : Hid (AllM w _) := Lib.hid (AllM.mk2 ha hb)
  have HB0 := Lib.hid (Below.refl w.heap.size w)
  clear ha hb
  go_enter Try.func4, Try.ntmps4
  go_wp2_with fail
  refine (great7_any [(a0, la, ca), (b0, lb, cb)] false (Cells.new _ _ ([(a0, la, ca), (b0, lb, cb)].map sliceV) _ rfl) rfl (by simp) HG.out).mono ?_
  rintro e w1 ⟨rfl, hB⟩
  have HL1 := Lib.hid (HL0.out.below (step_alloc hB))
  have HB1 := Lib.hid (Below.steps HB0.out (step_alloc hB))
  clear hB HL0 HB0
  go_wp2_with fail
  refine (compare_is _ _ HL1.out.head HL1.out.tail.head HC.out).mono ?_
  rintro e w2 ⟨rfl, hB⟩
  have HL2 := Lib.hid (HL1.out.below hB)
  have HB2 := Lib.hid (Below.steps HB1.out hB)
  clear hB HL1 HB1
  go_wp2_with fail
  refine (degree_any HL2.out.head v d HD.out).mono ?_
  rintro e w3 ⟨rfl, hB⟩
  have HL3 := Lib.hid (HL2.out.below hB)
  have HB3 := Lib.hid (Below.steps HB2.out hB)
  clear hB HL2 HB2
  go_wp2_with fail
  refine (degree7_any HL3.out.head v d HD.out).mono ?_
  rintro e w4 ⟨rfl, hB⟩
  have HL4 := Lib.hid (HL3.out.below hB)
  have HB4 := Lib.hid (Below.steps HB3.out hB)
  clear hB HL3 HB3
  go_wp2_with fail
  refine (class_any HL4.out.head k HK.out).mono ?_
  rintro e w5 ⟨rfl, hB⟩
  have HL5 := Lib.hid (HL4.out.below hB)
  have HB5 := Lib.hid (Below.steps HB4.out hB)
  clear hB HL4 HB4
  go_wp2_with fail
  refine (class7_any HL5.out.head k HK.out).mono ?_
  rintro e w6 ⟨rfl, hB⟩
  have HL6 := Lib.hid (HL5.out.below hB)
  have HB6 := Lib.hid (Below.steps HB5.out hB)
  clear hB HL5 HB5
  go_wp2_with fail
  refine (may7_any true HL6.out.head HX.out).mono ?_
  rintro e w7 ⟨rfl, hB⟩
  have HL7 := Lib.hid (HL6.out.below hB)
  have HB7 := Lib.hid (Below.steps HB6.out hB)
  clear hB HL6 HB6
  go_wp2_with fail
  refine (may7_any true HL7.out.tail.head HY.out).mono ?_
  rintro e w8 ⟨rfl, hB⟩
  have HL8 := Lib.hid (HL7.out.below hB)
  have HB8 := Lib.hid (Below.steps HB7.out hB)
  clear hB HL7 HB7
  go_wp2_with fail
  refine (compare7_any HL8.out.head HL8.out.tail.head c HCC.out).mono ?_
  rintro e w9 ⟨rfl, hB⟩
  have HL9 := Lib.hid (HL8.out.below hB)
  have HB9 := Lib.hid (Below.steps HB8.out hB)
  clear hB HL8 HB8
  go_wp2_with fail
  refine (known7_any _).mono ?_
  rintro e w10 ⟨rfl, hB⟩
  have HL10 := Lib.hid (HL9.out.below hB)
  have HB10 := Lib.hid (Below.steps HB9.out hB)
  clear hB HL9 HB9
  go_wp2_with fail
  go_ret
  exact ⟨rfl, HB10.out⟩

set_option maxHeartbeats 2000000 in
set_option maxRecDepth 100000 in
theorem monoOrders_small {a0 : Option Addr} {la ca : Nat} {xs : List (Int × Int)} {b0 : Option Addr} {lb cb : Nat} {ys : List (Int × Int)} {w : World} (ha : Ml w a0 la ca xs) (hb : Ml w b0 lb cb ys) (v : Int) (hg : ([(a0, la, ca), (b0, lb, cb)].any fun s => decide (300 < s.2.1)) = false) :
    Calls Try.prog 4 #[.slice a0 la ca, .slice b0 lb cb, .int .i64 v] w (RetB (.bool true) w) := by
  cases hx : mayM 0 xs with
  | false => exact monoOrders_0 ha hb v hx hg
  | true =>
    cases hy : mayM 0 ys with
    | false => exact monoOrders_1 ha hb v hx hy hg
    | true => exact monoOrders_2 ha hb v hx hy hg

set_option maxHeartbeats 2000000 in
set_option maxRecDepth 100000 in
theorem monoOrders_row {a0 : Option Addr} {la ca : Nat} {xs : List (Int × Int)} {b0 : Option Addr} {lb cb : Nat} {ys : List (Int × Int)} {w : World} (ha : Ml w a0 la ca xs) (hb : Ml w b0 lb cb ys) (v : Int) :
    Calls Try.prog 4 #[.slice a0 la ca, .slice b0 lb cb, .int .i64 v] w (RetB (.bool true) w) := by
  cases hg : ([(a0, la, ca), (b0, lb, cb)].any fun s => decide (300 < s.2.1)) with
  | true => exact monoOrders_great ha hb v hg
  | false => exact monoOrders_small ha hb v hg

end Go.Proofs.Ytgalcdfleljliaa

/-
  The law MonoCommon.
-/
import Derived.Test.YtgalcdfleljliaaMLawP
set_option maxRecDepth 8192
namespace Go.Proofs.Ytgalcdfleljliaa
open Go.RowKit

set_option maxHeartbeats 2000000 in
set_option maxRecDepth 100000 in
theorem monoCommon_great {a0 : Option Addr} {la ca : Nat} {xs : List (Int × Int)} {b0 : Option Addr} {lb cb : Nat} {ys : List (Int × Int)} {w : World} (ha : Ml w a0 la ca xs) (hb : Ml w b0 lb cb ys) (v : Int) (hg : ([(a0, la, ca), (b0, lb, cb)].any fun s => decide (300 < s.2.1)) = true) :
    Calls Try.prog 5 #[.slice a0 la ca, .slice b0 lb cb, .int .i64 v] w (RetB (.bool true) w) := by
  have HG := Lib.hid hg
  clear hg
  have HL0 : Hid (AllM w _) := Lib.hid (AllM.mk2 ha hb)
  have HB0 := Lib.hid (Below.refl w.heap.size w)
  clear ha hb
  go_enter Try.func5, Try.ntmps5
  go_wp2_with fail
  refine (great7_any [(a0, la, ca), (b0, lb, cb)] true (Cells.new _ _ ([(a0, la, ca), (b0, lb, cb)].map sliceV) _ rfl) rfl (by simp) HG.out).mono ?_
  rintro e w1 ⟨rfl, hB⟩
  have HL1 := Lib.hid (HL0.out.below (step_alloc hB))
  have HB1 := Lib.hid (Below.steps HB0.out (step_alloc hB))
  clear hB HL0 HB0
  go_wp2_with fail
  refine (known7_any _).mono ?_
  rintro e w2 ⟨rfl, hB⟩
  have HL2 := Lib.hid (HL1.out.below hB)
  have HB2 := Lib.hid (Below.steps HB1.out hB)
  clear hB HL1 HB1
  go_wp2_with fail
  go_ret
  exact ⟨rfl, HB2.out⟩

set_option maxHeartbeats 2000000 in
set_option maxRecDepth 100000 in
theorem monoCommon_small {a0 : Option Addr} {la ca : Nat} {xs : List (Int × Int)} {b0 : Option Addr} {lb cb : Nat} {ys : List (Int × Int)} {w : World} (ha : Ml w a0 la ca xs) (hb : Ml w b0 lb cb ys) (v : Int) (hg : ([(a0, la, ca), (b0, lb, cb)].any fun s => decide (300 < s.2.1)) = false) :
    Calls Try.prog 5 #[.slice a0 la ca, .slice b0 lb cb, .int .i64 v] w (RetB (.bool true) w) := by
  obtain ⟨cs, hc⟩ : ∃ R, joinL (fun x y => min x y) (orM xs) (orM ys) = R := ⟨_, rfl⟩
  obtain ⟨ls, hl⟩ : ∃ R, joinL (fun x y => max x y) (orM xs) (orM ys) = R := ⟨_, rfl⟩
  obtain ⟨os, ho⟩ : ∃ R, outM v (orM xs) = R := ⟨_, rfl⟩
  have HG := Lib.hid hg
  have HC := Lib.hid hc
  have HLL := Lib.hid hl
  have HO := Lib.hid ho
  clear hg hc hl ho
  have HL0 : Hid (AllM w _) := Lib.hid (AllM.mk2 ha hb)
  have HB0 := Lib.hid (Below.refl w.heap.size w)
  clear ha hb
  go_enter Try.func5, Try.ntmps5
  go_wp2_with fail
  refine (great7_any [(a0, la, ca), (b0, lb, cb)] false (Cells.new _ _ ([(a0, la, ca), (b0, lb, cb)].map sliceV) _ rfl) rfl (by simp) HG.out).mono ?_
  rintro e w1 ⟨rfl, hB⟩
  have HL1 := Lib.hid (HL0.out.below (step_alloc hB))
  have HB1 := Lib.hid (Below.steps HB0.out (step_alloc hB))
  clear hB HL0 HB0
  go_wp2_with fail
  refine (common_is cs HL1.out.head HL1.out.tail.head HC.out).mono ?_
  rintro e w2 ⟨p0, pn, pc, rfl, hX, hB⟩
  have HL2 := Lib.hid (AllM.cons hX (HL1.out.below hB))
  have HB2 := Lib.hid (Below.steps HB1.out hB)
  clear hX hB HL1 HB1
  go_wp2_with fail
  refine (common7_is cs HL2.out.tail.head HL2.out.tail.tail.head HC.out).mono ?_
  rintro e w3 ⟨q0, qn, qc, rfl, hX, hB⟩
  have HL3 := Lib.hid (AllM.cons hX (HL2.out.below hB))
  have HB3 := Lib.hid (Below.steps HB2.out hB)
  clear hX hB HL2 HB2
  go_wp2_with fail
  refine (same7_yes HL3.out.tail.head HL3.out.head rfl).mono ?_
  rintro e w4 ⟨rfl, hB⟩
  have HL4 := Lib.hid (HL3.out.below hB)
  have HB4 := Lib.hid (Below.steps HB3.out hB)
  clear hB HL3 HB3
  go_wp2_with fail
  refine (least_is ls HL4.out.tail.tail.head HL4.out.tail.tail.tail.head HLL.out).mono ?_
  rintro e w5 ⟨r0, rn, rc, rfl, hX, hB⟩
  have HL5 := Lib.hid (AllM.cons hX (HL4.out.below hB))
  have HB5 := Lib.hid (Below.steps HB4.out hB)
  clear hX hB HL4 HB4
  go_wp2_with fail
  refine (least7_is ls HL5.out.tail.tail.tail.head HL5.out.tail.tail.tail.tail.head HLL.out).mono ?_
  rintro e w6 ⟨s0, sn, sc, rfl, hX, hB⟩
  have HL6 := Lib.hid (AllM.cons hX (HL5.out.below hB))
  have HB6 := Lib.hid (Below.steps HB5.out hB)
  clear hX hB HL5 HB5
  go_wp2_with fail
  refine (same7_yes HL6.out.tail.head HL6.out.head rfl).mono ?_
  rintro e w7 ⟨rfl, hB⟩
  have HL7 := Lib.hid (HL6.out.below hB)
  have HB7 := Lib.hid (Below.steps HB6.out hB)
  clear hB HL6 HB6
  go_wp2_with fail
  refine (without_is os v HL7.out.tail.tail.tail.tail.head HO.out).mono ?_
  rintro e w8 ⟨t0, tn, tc, rfl, hX, hB⟩
  have HL8 := Lib.hid (AllM.cons hX (HL7.out.below hB))
  have HB8 := Lib.hid (Below.steps HB7.out hB)
  clear hX hB HL7 HB7
  go_wp2_with fail
  refine (without7_is os v HL8.out.tail.tail.tail.tail.tail.head HO.out).mono ?_
  rintro e w9 ⟨u0, un, uc, rfl, hX, hB⟩
  have HL9 := Lib.hid (AllM.cons hX (HL8.out.below hB))
  have HB9 := Lib.hid (Below.steps HB8.out hB)
  clear hX hB HL8 HB8
  go_wp2_with fail
  refine (same7_yes HL9.out.tail.head HL9.out.head rfl).mono ?_
  rintro e w10 ⟨rfl, hB⟩
  have HL10 := Lib.hid (HL9.out.below hB)
  have HB10 := Lib.hid (Below.steps HB9.out hB)
  clear hB HL9 HB9
  go_wp2_with fail
  refine (known7_any _).mono ?_
  rintro e w11 ⟨rfl, hB⟩
  have HL11 := Lib.hid (HL10.out.below hB)
  have HB11 := Lib.hid (Below.steps HB10.out hB)
  clear hB HL10 HB10
  go_wp2_with fail
  go_ret
  exact ⟨rfl, HB11.out⟩

set_option maxHeartbeats 2000000 in
set_option maxRecDepth 100000 in
theorem monoCommon_row {a0 : Option Addr} {la ca : Nat} {xs : List (Int × Int)} {b0 : Option Addr} {lb cb : Nat} {ys : List (Int × Int)} {w : World} (ha : Ml w a0 la ca xs) (hb : Ml w b0 lb cb ys) (v : Int) :
    Calls Try.prog 5 #[.slice a0 la ca, .slice b0 lb cb, .int .i64 v] w (RetB (.bool true) w) := by
  cases hg : ([(a0, la, ca), (b0, lb, cb)].any fun s => decide (300 < s.2.1)) with
  | true => exact monoCommon_great ha hb v hg
  | false => exact monoCommon_small ha hb v hg

end Go.Proofs.Ytgalcdfleljliaa

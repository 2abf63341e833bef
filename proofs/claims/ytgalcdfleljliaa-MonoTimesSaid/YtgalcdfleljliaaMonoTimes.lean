/-
  The law MonoTimes.
-/
import Derived.Test.YtgalcdfleljliaaMLawP
set_option maxRecDepth 8192
namespace Go.Proofs.Ytgalcdfleljliaa
open Go.RowKit

set_option maxHeartbeats 2000000 in
set_option maxRecDepth 100000 in
theorem monoTimes_great {a0 : Option Addr} {la ca : Nat} {xs : List (Int × Int)} {b0 : Option Addr} {lb cb : Nat} {ys : List (Int × Int)} {w : World} (ha : Ml w a0 la ca xs) (hb : Ml w b0 lb cb ys) (hg : ([(a0, la, ca), (b0, lb, cb)].any fun s => decide (300 < s.2.1)) = true) :
    Calls Try.prog 3 #[.slice a0 la ca, .slice b0 lb cb] w (RetB (.bool true) w) := by
  have HG := Lib.hid hg
  clear hg
  have HL0 : Hid (AllM w _) := Lib.hid (AllM.mk2 ha hb)
  have HB0 := Lib.hid (Below.refl w.heap.size w)
  clear ha hb
  go_enter Try.func3, Try.ntmps3
  go_wp2_with fail
  refine (great7_any [(a0, la, ca), (b0, lb, cb)] true (Cells.new _ _ ([(a0, la, ca), (b0, lb, cb)].map sliceV) _ rfl) rfl (by simp) HG.out).mono ?_
  rintro e w1 ⟨rfl, hB⟩
  have HL1 := Lib.hid (HL0.out.below (step_alloc hB))
  have HB1 := Lib.hid (Below.steps HB0.out (step_alloc hB))
  clear hB HL0 HB0
  go_wp2_with fail
  refine (known7_any _).mono ?_
  rintro e w2 ⟨rfl, hB⟩
  have HL2 := Lib.hid (HL1.out.below hB)
  have HB2 := Lib.hid (Below.steps HB1.out hB)
  clear hB HL1 HB1
  go_wp2_with fail
  go_ret
  exact ⟨rfl, HB2.out⟩

set_option maxHeartbeats 2000000 in
set_option maxRecDepth 100000 in
theorem monoTimes_small {a0 : Option Addr} {la ca : Nat} {xs : List (Int × Int)} {b0 : Option Addr} {lb cb : Nat} {ys : List (Int × Int)} {w : World} (ha : Ml w a0 la ca xs) (hb : Ml w b0 lb cb ys) (hg : ([(a0, la, ca), (b0, lb, cb)].any fun s => decide (300 < s.2.1)) = false) :
    Calls Try.prog 3 #[.slice a0 la ca, .slice b0 lb cb] w (RetB (.bool true) w) := by
  obtain ⟨⟨ps, e⟩, hp⟩ : ∃ R, joinR (fun x y => x + y) 8 xs ys = R := ⟨_, rfl⟩
  obtain ⟨⟨qs, f⟩, hq⟩ : ∃ R, joinR (fun x y => x - y) 5 xs ys = R := ⟨_, rfl⟩
  obtain ⟨m, hm⟩ : ∃ m, mayM 0 xs = m := ⟨_, rfl⟩
  obtain ⟨i0, hi, hz0, hz1, hz2⟩ := info_parts Try.info_pow
  have HG := Lib.hid hg
  have HP := Lib.hid hp
  have HQ := Lib.hid hq
  have HM := Lib.hid hm
  clear hg hp hq hm
  have HL0 : Hid (AllM w _) := Lib.hid (AllM.mk2 ha hb)
  have HB0 := Lib.hid (Below.refl w.heap.size w)
  clear ha hb
  go_enter Try.func3, Try.ntmps3
  go_wp2_with fail
  refine (great7_any [(a0, la, ca), (b0, lb, cb)] false (Cells.new _ _ ([(a0, la, ca), (b0, lb, cb)].map sliceV) _ rfl) rfl (by simp) HG.out).mono ?_
  rintro e w1 ⟨rfl, hB⟩
  have HL1 := Lib.hid (HL0.out.below (step_alloc hB))
  have HB1 := Lib.hid (Below.steps HB0.out (step_alloc hB))
  clear hB HL0 HB0
  go_wp2_with (first | (at_builtin; refine wpList_dup2 w1 w rfl (.tmp 20) (.tmp 21) 23 rfl w.heap.size i0 (.agg #[.int .i64 0, .int .i64 0]) Try.underlying23 hi hz0 hz1 hz2 rfl rfl _ _ _ _ rfl HL1.out.head HB1.out HB1.out.size ?_; intro x0 xc w2 hX _ hB; have HL2 := Lib.hid (AllM.cons hX.ml (HL1.out.below hB)); have HB2 := Lib.hid (Below.steps HB1.out hB); clear hX hB HL1 HB1) | (at_builtin; refine wpList_dup2 w2 w rfl (.tmp 23) (.tmp 24) 23 rfl w.heap.size i0 (.agg #[.int .i64 0, .int .i64 0]) Try.underlying23 hi hz0 hz1 hz2 rfl rfl _ _ _ _ rfl HL2.out.tail.tail.head HB2.out HB2.out.size ?_; intro y0 yc w3 hX _ hB; have HL3 := Lib.hid (AllM.cons hX.ml (HL2.out.below hB)); have HB3 := Lib.hid (Below.steps HB2.out hB); clear hX hB HL2 HB2))
  refine (times_is ps e HL3.out.tail.head HL3.out.head HP.out).mono ?_
  rintro e w4 ⟨p0, pn, pc, rfl, hX, hB⟩
  have HL4 := Lib.hid (AllM.cons hX (HL3.out.below hB))
  have HB4 := Lib.hid (Below.steps HB3.out hB)
  clear hX hB HL3 HB3
  go_wp2_with fail
  refine (times7_is ps e HL4.out.tail.tail.tail.head HL4.out.tail.tail.tail.tail.head HP.out).mono ?_
  rintro e w5 ⟨q0, qn, qc, rfl, hX, hB⟩
  have HL5 := Lib.hid (AllM.cons hX (HL4.out.below hB))
  have HB5 := Lib.hid (Below.steps HB4.out hB)
  clear hX hB HL4 HB4
  go_wp2_with fail
  refine (over_is qs f HL5.out.tail.tail.tail.head HL5.out.tail.tail.head HQ.out).mono ?_
  rintro e w6 ⟨r0, rn, rc, rfl, hX, hB⟩
  have HL6 := Lib.hid (AllM.cons hX (HL5.out.below hB))
  have HB6 := Lib.hid (Below.steps HB5.out hB)
  clear hX hB HL5 HB5
  go_wp2_with fail
  refine (over7_is qs f HL6.out.tail.tail.tail.tail.tail.head HL6.out.tail.tail.tail.tail.tail.tail.head HQ.out).mono ?_
  rintro e w7 ⟨s0, sn, sc, rfl, hX, hB⟩
  have HL7 := Lib.hid (AllM.cons hX (HL6.out.below hB))
  have HB7 := Lib.hid (Below.steps HB6.out hB)
  clear hX hB HL6 HB6
  go_wp2_with fail
  refine (same7_yes HL7.out.tail.tail.tail.head HL7.out.tail.tail.head rfl).mono ?_
  rintro e w8 ⟨rfl, hB⟩
  have HL8 := Lib.hid (HL7.out.below hB)
  have HB8 := Lib.hid (Below.steps HB7.out hB)
  clear hB HL7 HB7
  go_wp2_with fail
  refine (same7_yes HL8.out.tail.head HL8.out.head rfl).mono ?_
  rintro e w9 ⟨rfl, hB⟩
  have HL9 := Lib.hid (HL8.out.below hB)
  have HB9 := Lib.hid (Below.steps HB8.out hB)
  clear hB HL8 HB8
  go_wp2_with fail
  refine (may_any m HL9.out.tail.tail.tail.tail.tail.head HM.out).mono ?_
  rintro e w10 ⟨rfl, hB⟩
  have HL10 := Lib.hid (HL9.out.below hB)
  have HB10 := Lib.hid (Below.steps HB9.out hB)
  clear hB HL9 HB9
  go_wp2_with fail
  refine (may7_any m HL10.out.tail.tail.tail.tail.tail.tail.head HM.out).mono ?_
  rintro e w11 ⟨rfl, hB⟩
  have HL11 := Lib.hid (HL10.out.below hB)
  have HB11 := Lib.hid (Below.steps HB10.out hB)
  clear hB HL10 HB10
  go_wp2_with fail
  refine (same7_yes HL11.out.tail.tail.tail.tail.tail.head HL11.out.tail.tail.tail.tail.tail.tail.head rfl).mono ?_
  rintro e w12 ⟨rfl, hB⟩
  have HL12 := Lib.hid (HL11.out.below hB)
  have HB12 := Lib.hid (Below.steps HB11.out hB)
  clear hB HL11 HB11
  go_wp2_with fail
  refine (same7_yes HL12.out.tail.tail.tail.tail.head HL12.out.tail.tail.tail.tail.tail.tail.tail.head rfl).mono ?_
  rintro e w13 ⟨rfl, hB⟩
  have HL13 := Lib.hid (HL12.out.below hB)
  have HB13 := Lib.hid (Below.steps HB12.out hB)
  clear hB HL12 HB12
  go_wp2_with fail
  refine (known7_any _).mono ?_
  rintro e w14 ⟨rfl, hB⟩
  have HL14 := Lib.hid (HL13.out.below hB)
  have HB14 := Lib.hid (Below.steps HB13.out hB)
  clear hB HL13 HB13
  go_wp2_with fail
  go_ret
  exact ⟨rfl, HB14.out⟩

set_option maxHeartbeats 2000000 in
set_option maxRecDepth 100000 in
theorem monoTimes_row {a0 : Option Addr} {la ca : Nat} {xs : List (Int × Int)} {b0 : Option Addr} {lb cb : Nat} {ys : List (Int × Int)} {w : World} (ha : Ml w a0 la ca xs) (hb : Ml w b0 lb cb ys) :
    Calls Try.prog 3 #[.slice a0 la ca, .slice b0 lb cb] w (RetB (.bool true) w) := by
  cases hg : ([(a0, la, ca), (b0, lb, cb)].any fun s => decide (300 < s.2.1)) with
  | true => exact monoTimes_great ha hb hg
  | false => exact monoTimes_small ha hb hg

end Go.Proofs.Ytgalcdfleljliaa

/-
  The law MonoBack.
-/
import Derived.Test.YtgalcdfleljliaaMLawP
set_option maxRecDepth 8192
namespace Go.Proofs.Ytgalcdfleljliaa
open Go.RowKit

set_option maxHeartbeats 2000000 in
set_option maxRecDepth 100000 in
theorem monoBack_great {a0 : Option Addr} {la ca : Nat} {xs : List (Int × Int)} {b0 : Option Addr} {lb cb : Nat} {ys : List (Int × Int)} {w : World} (ha : Ml w a0 la ca xs) (hb : Ml w b0 lb cb ys) (hg : ([(a0, la, ca), (b0, lb, cb)].any fun s => decide (300 < s.2.1)) = true) :
    Calls Try.prog 6 #[.slice a0 la ca, .slice b0 lb cb] w (RetB (.bool true) w) := by
  have HG := Lib.hid hg
  clear hg
  have HL0 : Hid (AllM w _) := Lib.hid (AllM.mk2 ha hb)
  have HB0 := Lib.hid (Below.refl w.heap.size w)
  clear ha hb
  go_enter Try.func6, Try.ntmps6
  go_wp2_with fail
  refine (great7_any [(a0, la, ca), (b0, lb, cb)] true (Cells.new _ _ ([(a0, la, ca), (b0, lb, cb)].map sliceV) _ rfl) rfl (by simp) HG.out).mono ?_
  rintro e w1 ⟨rfl, hB⟩
  have HL1 := Lib.hid (HL0.out.below (step_alloc hB))
  have HB1 := Lib.hid (Below.steps HB0.out (step_alloc hB))
  clear hB HL0 HB0
  go_wp2_with fail
  refine (known7_any _).mono ?_
  rintro e w2 ⟨rfl, hB⟩
  have HL2 := Lib.hid (HL1.out.below hB)
  have HB2 := Lib.hid (Below.steps HB1.out hB)
  clear hB HL1 HB1
  go_wp2_with fail
  go_ret
  exact ⟨rfl, HB2.out⟩

set_option maxHeartbeats 2000000 in
set_option maxRecDepth 100000 in
theorem monoBack_bad0 {a0 : Option Addr} {la ca : Nat} {xs : List (Int × Int)} {b0 : Option Addr} {lb cb : Nat} {ys : List (Int × Int)} {w : World} (ha : Ml w a0 la ca xs) (hb : Ml w b0 lb cb ys) (hx : mayM 0 xs = false) (hg : ([(a0, la, ca), (b0, lb, cb)].any fun s => decide (300 < s.2.1)) = false) :
    Calls Try.prog 6 #[.slice a0 la ca, .slice b0 lb cb] w (RetB (.bool true) w) := by
  have HG := Lib.hid hg
  have HX := Lib.hid hx
  clear hg hx
  have HL0 : Hid (AllM w _) := Lib.hid (AllM.mk2 ha hb)
  have HB0 := Lib.hid (Below.refl w.heap.size w)
  clear ha hb
  go_enter Try.func6, Try.ntmps6
  go_wp2_with fail
  refine (great7_any [(a0, la, ca), (b0, lb, cb)] false (Cells.new _ _ ([(a0, la, ca), (b0, lb, cb)].map sliceV) _ rfl) rfl (by simp) HG.out).mono ?_
  rintro e w1 ⟨rfl, hB⟩
  have HL1 := Lib.hid (HL0.out.below (step_alloc hB))
  have HB1 := Lib.hid (Below.steps HB0.out (step_alloc hB))
  clear hB HL0 HB0
  go_wp2_with fail
  refine (may_any false HL1.out.head HX.out).mono ?_
  rintro e w2 ⟨rfl, hB⟩
  have HL2 := Lib.hid (HL1.out.below hB)
  have HB2 := Lib.hid (Below.steps HB1.out hB)
  clear hB HL1 HB1
  go_wp2_with fail
  refine (known7_any _).mono ?_
  rintro e w3 ⟨rfl, hB⟩
  have HL3 := Lib.hid (HL2.out.below hB)
  have HB3 := Lib.hid (Below.steps HB2.out hB)
  clear hB HL2 HB2
  go_wp2_with fail
  go_ret
  exact ⟨rfl, HB3.out⟩

set_option maxHeartbeats 2000000 in
set_option maxRecDepth 100000 in
theorem monoBack_bad1 {a0 : Option Addr} {la ca : Nat} {xs : List (Int × Int)} {b0 : Option Addr} {lb cb : Nat} {ys : List (Int × Int)} {w : World} (ha : Ml w a0 la ca xs) (hb : Ml w b0 lb cb ys) (hx : mayM 0 xs = true) (hy : mayM 0 ys = false) (hg : ([(a0, la, ca), (b0, lb, cb)].any fun s => decide (300 < s.2.1)) = false) :
    Calls Try.prog 6 #[.slice a0 la ca, .slice b0 lb cb] w (RetB (.bool true) w) := by
  have HG := Lib.hid hg
  have HX := Lib.hid hx
  have HY := Lib.hid hy
  clear hg hx hy
  have HL0 : Hid (AllM w _) := Lib.hid (AllM.mk2 ha hb)
  have HB0 := Lib.hid (Below.refl w.heap.size w)
  clear ha hb
  go_enter Try.func6, Try.ntmps6
  go_wp2_with fail
  refine (great7_any [(a0, la, ca), (b0, lb, cb)] false (Cells.new _ _ ([(a0, la, ca), (b0, lb, cb)].map sliceV) _ rfl) rfl (by simp) HG.out).mono ?_
  rintro e w1 ⟨rfl, hB⟩
  have HL1 := Lib.hid (HL0.out.below (step_alloc hB))
  have HB1 := Lib.hid (Below.steps HB0.out (step_alloc hB))
  clear hB HL0 HB0
  go_wp2_with fail
  refine (may_any true HL1.out.head HX.out).mono ?_
  rintro e w2 ⟨rfl, hB⟩
  have HL2 := Lib.hid (HL1.out.below hB)
  have HB2 := Lib.hid (Below.steps HB1.out hB)
  clear hB HL1 HB1
  go_wp2_with fail
  refine (may_any false HL2.out.tail.head HY.out).mono ?_
  rintro e w3 ⟨rfl, hB⟩
  have HL3 := Lib.hid (HL2.out.below hB)
  have HB3 := Lib.hid (Below.steps HB2.out hB)
  clear hB HL2 HB2
  go_wp2_with fail
  refine (known7_any _).mono ?_
  rintro e w4 ⟨rfl, hB⟩
  have HL4 := Lib.hid (HL3.out.below hB)
  have HB4 := Lib.hid (Below.steps HB3.out hB)
  clear hB HL3 HB3
  go_wp2_with fail
  go_ret
  exact ⟨rfl, HB4.out⟩

set_option maxHeartbeats 2000000 in
set_option maxRecDepth 100000 in
theorem monoBack_0 {a0 : Option Addr} {la ca : Nat} {xs : List (Int × Int)} {b0 : Option Addr} {lb cb : Nat} {ys : List (Int × Int)} {w : World} (ha : Ml w a0 la ca xs) (hb : Ml w b0 lb cb ys) (hx : mayM 0 xs = true) (hy : mayM 0 ys = true) (hp : joinR (fun x y => x + y) 8 xs ys = ([], 8)) (hg : ([(a0, la, ca), (b0, lb, cb)].any fun s => decide (300 < s.2.1)) = false) :
    Calls Try.prog 6 #[.slice a0 la ca, .slice b0 lb cb] w (RetB (.bool true) w) := by
  
  have HG := Lib.hid hg
  have HX := Lib.hid hx
  have HY := Lib.hid hy
  have HP := Lib.hid hp
  clear hg hx hy hp
  have HL0 : Hid (AllM w _) := Lib.hid (AllM.mk2 ha hb)
  have HB0 := Lib.hid (Below.refl w.heap.size w)
  clear ha hb
  go_enter Try.func6, Try.ntmps6
  go_wp2_with fail
  refine (great7_any [(a0, la, ca), (b0, lb, cb)] false (Cells.new _ _ ([(a0, la, ca), (b0, lb, cb)].map sliceV) _ rfl) rfl (by simp) HG.out).mono ?_
  rintro e w1 ⟨rfl, hB⟩
  have HL1 := Lib.hid (HL0.out.below (step_alloc hB))
  have HB1 := Lib.hid (Below.steps HB0.out (step_alloc hB))
  clear hB HL0 HB0
  go_wp2_with fail
  refine (may_any true HL1.out.head HX.out).mono ?_
  rintro e w2 ⟨rfl, hB⟩
  have HL2 := Lib.hid (HL1.out.below hB)
  have HB2 := Lib.hid (Below.steps HB1.out hB)
  clear hB HL1 HB1
  go_wp2_with fail
  refine (may_any true HL2.out.tail.head HY.out).mono ?_
  rintro e w3 ⟨rfl, hB⟩
  have HL3 := Lib.hid (HL2.out.below hB)
  have HB3 := Lib.hid (Below.steps HB2.out hB)
  clear hB HL2 HB2
  go_wp2_with fail
  refine (times_is [] 8 HL3.out.head HL3.out.tail.head HP.out).mono ?_
  rintro e w4 ⟨p0, pn, pc, rfl, hX, hB⟩
  have HL4 := Lib.hid (AllM.cons hX (HL3.out.below hB))
  have HB4 := Lib.hid (Below.steps HB3.out hB)
  clear hX hB HL3 HB3
  obtain rfl : pn = 0 := HL4.out.head.len.symm
  go_wp2_with fail
  refine (known7_any _).mono ?_
  rintro e w5 ⟨rfl, hB⟩
  have HL5 := Lib.hid (HL4.out.below hB)
  have HB5 := Lib.hid (Below.steps HB4.out hB)
  clear hB HL4 HB4
  go_wp2_with fail
  go_ret
  exact ⟨rfl, HB5.out⟩

set_option maxHeartbeats 2000000 in
set_option maxRecDepth 100000 in
theorem monoBack_1 {a0 : Option Addr} {la ca : Nat} {xs : List (Int × Int)} {b0 : Option Addr} {lb cb : Nat} {ys : List (Int × Int)} {w : World} (ha : Ml w a0 la ca xs) (hb : Ml w b0 lb cb ys) (hx : mayM 0 xs = true) (hy : mayM 0 ys = true) {ps : List (Int × Int)} (hp : joinR (fun x y => x + y) 8 xs ys = (ps, 0)) (h1 : joinR (fun x y => x - y) 5 ps ys = (xs, 0)) (h2 : joinR (fun x y => x + y) 8 (joinL (fun x y => min x y) (orM xs) (orM ys)) (joinL (fun x y => max x y) (orM xs) (orM ys)) = (ps, 0)) (h3 : joinR (fun x y => x - y) 5 xs ys = ([], 5)) (h4 : joinL (fun x y => min x y) (orM xs) (orM ys) ≠ ys) (hg : ([(a0, la, ca), (b0, lb, cb)].any fun s => decide (300 < s.2.1)) = false) :
    Calls Try.prog 6 #[.slice a0 la ca, .slice b0 lb cb] w (RetB (.bool true) w) := by
  obtain ⟨cs, hc⟩ : ∃ R, joinL (fun x y => min x y) (orM xs) (orM ys) = R := ⟨_, rfl⟩
  obtain ⟨ls, hl⟩ : ∃ R, joinL (fun x y => max x y) (orM xs) (orM ys) = R := ⟨_, rfl⟩
  rw [hc, hl] at h2
  rw [hc] at h4
  have HG := Lib.hid hg
  have HX := Lib.hid hx
  have HY := Lib.hid hy
  have HP := Lib.hid hp
  have HC := Lib.hid hc
  have HLL := Lib.hid hl
  have H1 := Lib.hid h1
  have H2 := Lib.hid h2
  have H3 := Lib.hid h3
  have H4 := Lib.hid h4
  clear hg hx hy hp hc hl h1 h2 h3 h4
  have HL0 : Hid (AllM w _) := Lib.hid (AllM.mk2 ha hb)
  have HB0 := Lib.hid (Below.refl w.heap.size w)
  clear ha hb
  go_enter Try.func6, Try.ntmps6
  go_wp2_with fail
  refine (great7_any [(a0, la, ca), (b0, lb, cb)] false (Cells.new _ _ ([(a0, la, ca), (b0, lb, cb)].map sliceV) _ rfl) rfl (by simp) HG.out).mono ?_
  rintro e w1 ⟨rfl, hB⟩
  have HL1 := Lib.hid (HL0.out.below (step_alloc hB))
  have HB1 := Lib.hid (Below.steps HB0.out (step_alloc hB))
  clear hB HL0 HB0
  go_wp2_with fail
  refine (may_any true HL1.out.head HX.out).mono ?_
  rintro e w2 ⟨rfl, hB⟩
  have HL2 := Lib.hid (HL1.out.below hB)
  have HB2 := Lib.hid (Below.steps HB1.out hB)
  clear hB HL1 HB1
  go_wp2_with fail
  refine (may_any true HL2.out.tail.head HY.out).mono ?_
  rintro e w3 ⟨rfl, hB⟩
  have HL3 := Lib.hid (HL2.out.below hB)
  have HB3 := Lib.hid (Below.steps HB2.out hB)
  clear hB HL2 HB2
  go_wp2_with fail
  refine (times_is ps 0 HL3.out.head HL3.out.tail.head HP.out).mono ?_
  rintro e w4 ⟨p0, pn, pc, rfl, hX, hB⟩
  have HL4 := Lib.hid (AllM.cons hX (HL3.out.below hB))
  have HB4 := Lib.hid (Below.steps HB3.out hB)
  clear hX hB HL3 HB3
  go_wp2_with fail
  refine (over_is xs 0 HL4.out.head HL4.out.tail.tail.head H1.out).mono ?_
  rintro e w5 ⟨q0, qn, qc, rfl, hX, hB⟩
  have HL5 := Lib.hid (AllM.cons hX (HL4.out.below hB))
  have HB5 := Lib.hid (Below.steps HB4.out hB)
  clear hX hB HL4 HB4
  go_wp2_with fail
  refine (common_is cs HL5.out.tail.tail.head HL5.out.tail.tail.tail.head HC.out).mono ?_
  rintro e w6 ⟨c0, cn, cc, rfl, hX, hB⟩
  have HL6 := Lib.hid (AllM.cons hX (HL5.out.below hB))
  have HB6 := Lib.hid (Below.steps HB5.out hB)
  clear hX hB HL5 HB5
  go_wp2_with fail
  refine (least_is ls HL6.out.tail.tail.tail.head HL6.out.tail.tail.tail.tail.head HLL.out).mono ?_
  rintro e w7 ⟨l0, ln, lc, rfl, hX, hB⟩
  have HL7 := Lib.hid (AllM.cons hX (HL6.out.below hB))
  have HB7 := Lib.hid (Below.steps HB6.out hB)
  clear hX hB HL6 HB6
  go_wp2_with fail
  refine (times_is ps 0 HL7.out.tail.head HL7.out.head H2.out).mono ?_
  rintro e w8 ⟨r0, rn, rc, rfl, hX, hB⟩
  have HL8 := Lib.hid (AllM.cons hX (HL7.out.below hB))
  have HB8 := Lib.hid (Below.steps HB7.out hB)
  clear hX hB HL7 HB7
  go_wp2_with fail
  refine (same7_yes HL8.out.tail.tail.tail.head HL8.out.tail.tail.tail.tail.tail.head rfl).mono ?_
  rintro e w9 ⟨rfl, hB⟩
  have HL9 := Lib.hid (HL8.out.below hB)
  have HB9 := Lib.hid (Below.steps HB8.out hB)
  clear hB HL8 HB8
  go_wp2_with fail
  refine (same7_yes HL9.out.head HL9.out.tail.tail.tail.tail.head rfl).mono ?_
  rintro e w10 ⟨rfl, hB⟩
  have HL10 := Lib.hid (HL9.out.below hB)
  have HB10 := Lib.hid (Below.steps HB9.out hB)
  clear hB HL9 HB9
  go_wp2_with fail
  refine (over_is [] 5 HL10.out.tail.tail.tail.tail.tail.head HL10.out.tail.tail.tail.tail.tail.tail.head H3.out).mono ?_
  rintro e w11 ⟨s0, sn, sc, rfl, hX, hB⟩
  have HL11 := Lib.hid (AllM.cons hX (HL10.out.below hB))
  have HB11 := Lib.hid (Below.steps HB10.out hB)
  clear hX hB HL10 HB10
  go_wp2_with fail
  refine (same7_no HL11.out.tail.tail.tail.head HL11.out.tail.tail.tail.tail.tail.tail.tail.head H4.out).mono ?_
  rintro e w12 ⟨rfl, hB⟩
  have HL12 := Lib.hid (HL11.out.below hB)
  have HB12 := Lib.hid (Below.steps HB11.out hB)
  clear hB HL11 HB11
  go_wp2_with fail
  refine (known7_any _).mono ?_
  rintro e w13 ⟨rfl, hB⟩
  have HL13 := Lib.hid (HL12.out.below hB)
  have HB13 := Lib.hid (Below.steps HB12.out hB)
  clear hB HL12 HB12
  go_wp2_with fail
  go_ret
  exact ⟨rfl, HB13.out⟩

set_option maxHeartbeats 2000000 in
set_option maxRecDepth 100000 in
theorem monoBack_2 {a0 : Option Addr} {la ca : Nat} {xs : List (Int × Int)} {b0 : Option Addr} {lb cb : Nat} {ys : List (Int × Int)} {w : World} (ha : Ml w a0 la ca xs) (hb : Ml w b0 lb cb ys) (hx : mayM 0 xs = true) (hy : mayM 0 ys = true) {ps ss : List (Int × Int)} (hp : joinR (fun x y => x + y) 8 xs ys = (ps, 0)) (h1 : joinR (fun x y => x - y) 5 ps ys = (xs, 0)) (h2 : joinR (fun x y => x + y) 8 (joinL (fun x y => min x y) (orM xs) (orM ys)) (joinL (fun x y => max x y) (orM xs) (orM ys)) = (ps, 0)) (h3 : joinR (fun x y => x - y) 5 xs ys = (ss, 0)) (h5 : joinR (fun x y => x + y) 8 ss ys = (xs, 0)) (h4 : joinL (fun x y => min x y) (orM xs) (orM ys) = ys) (hg : ([(a0, la, ca), (b0, lb, cb)].any fun s => decide (300 < s.2.1)) = false) :
    Calls Try.prog 6 #[.slice a0 la ca, .slice b0 lb cb] w (RetB (.bool true) w) := by
  obtain ⟨cs, hc⟩ : ∃ R, joinL (fun x y => min x y) (orM xs) (orM ys) = R := ⟨_, rfl⟩
  obtain ⟨ls, hl⟩ : ∃ R, joinL (fun x y => max x y) (orM xs) (orM ys) = R := ⟨_, rfl⟩
  rw [hc, hl] at h2
  rw [hc] at h4
  have HG := Lib.hid hg
  have HX := Lib.hid hx
  have HY := Lib.hid hy
  have HP := Lib.hid hp
  have HC := Lib.hid hc
  have HLL := Lib.hid hl
  have H1 := Lib.hid h1
  have H2 := Lib.hid h2
  have H3 := Lib.hid h3
  have H4 := Lib.hid h4
  have H5 := Lib.hid h5
  clear hg hx hy hp hc hl h1 h2 h3 h4 h5
  have HL0 : Hid (AllM w _) := Lib.hid (AllM.mk2 ha hb)
  have HB0 := Lib.hid (Below.refl w.heap.size w)
  clear ha hb
  go_enter Try.func6, Try.ntmps6
  go_wp2_with fail
  refine (great7_any [(a0, la, ca), (b0, lb, cb)] false (Cells.new _ _ ([(a0, la, ca), (b0, lb, cb)].map sliceV) _ rfl) rfl (by simp) HG.out).mono ?_
  rintro e w1 ⟨rfl, hB⟩
  have HL1 := Lib.hid (HL0.out.below (step_alloc hB))
  have HB1 := Lib.hid (Below.steps HB0.out (step_alloc hB))
  clear hB HL0 HB0
  go_wp2_with fail
  refine (may_any true HL1.out.head HX.out).mono ?_
  rintro e w2 ⟨rfl, hB⟩
  have HL2 := Lib.hid (HL1.out.below hB)
  have HB2 := Lib.hid (Below.steps HB1.out hB)
  clear hB HL1 HB1
  go_wp2_with fail
  refine (may_any true HL2.out.tail.head HY.out).mono ?_
  rintro e w3 ⟨rfl, hB⟩
  have HL3 := Lib.hid (HL2.out.below hB)
  have HB3 := Lib.hid (Below.steps HB2.out hB)
  clear hB HL2 HB2
  go_wp2_with fail
  refine (times_is ps 0 HL3.out.head HL3.out.tail.head HP.out).mono ?_
  rintro e w4 ⟨p0, pn, pc, rfl, hX, hB⟩
  have HL4 := Lib.hid (AllM.cons hX (HL3.out.below hB))
  have HB4 := Lib.hid (Below.steps HB3.out hB)
  clear hX hB HL3 HB3
  go_wp2_with fail
  refine (over_is xs 0 HL4.out.head HL4.out.tail.tail.head H1.out).mono ?_
  rintro e w5 ⟨q0, qn, qc, rfl, hX, hB⟩
  have HL5 := Lib.hid (AllM.cons hX (HL4.out.below hB))
  have HB5 := Lib.hid (Below.steps HB4.out hB)
  clear hX hB HL4 HB4
  go_wp2_with fail
  refine (common_is cs HL5.out.tail.tail.head HL5.out.tail.tail.tail.head HC.out).mono ?_
  rintro e w6 ⟨c0, cn, cc, rfl, hX, hB⟩
  have HL6 := Lib.hid (AllM.cons hX (HL5.out.below hB))
  have HB6 := Lib.hid (Below.steps HB5.out hB)
  clear hX hB HL5 HB5
  go_wp2_with fail
  refine (least_is ls HL6.out.tail.tail.tail.head HL6.out.tail.tail.tail.tail.head HLL.out).mono ?_
  rintro e w7 ⟨l0, ln, lc, rfl, hX, hB⟩
  have HL7 := Lib.hid (AllM.cons hX (HL6.out.below hB))
  have HB7 := Lib.hid (Below.steps HB6.out hB)
  clear hX hB HL6 HB6
  go_wp2_with fail
  refine (times_is ps 0 HL7.out.tail.head HL7.out.head H2.out).mono ?_
  rintro e w8 ⟨r0, rn, rc, rfl, hX, hB⟩
  have HL8 := Lib.hid (AllM.cons hX (HL7.out.below hB))
  have HB8 := Lib.hid (Below.steps HB7.out hB)
  clear hX hB HL7 HB7
  go_wp2_with fail
  refine (same7_yes HL8.out.tail.tail.tail.head HL8.out.tail.tail.tail.tail.tail.head rfl).mono ?_
  rintro e w9 ⟨rfl, hB⟩
  have HL9 := Lib.hid (HL8.out.below hB)
  have HB9 := Lib.hid (Below.steps HB8.out hB)
  clear hB HL8 HB8
  go_wp2_with fail
  refine (same7_yes HL9.out.head HL9.out.tail.tail.tail.tail.head rfl).mono ?_
  rintro e w10 ⟨rfl, hB⟩
  have HL10 := Lib.hid (HL9.out.below hB)
  have HB10 := Lib.hid (Below.steps HB9.out hB)
  clear hB HL9 HB9
  go_wp2_with fail
  refine (over_is ss 0 HL10.out.tail.tail.tail.tail.tail.head HL10.out.tail.tail.tail.tail.tail.tail.head H3.out).mono ?_
  rintro e w11 ⟨s0, sn, sc, rfl, hX, hB⟩
  have HL11 := Lib.hid (AllM.cons hX (HL10.out.below hB))
  have HB11 := Lib.hid (Below.steps HB10.out hB)
  clear hX hB HL10 HB10
  go_wp2_with fail
  refine (times_is xs 0 HL11.out.head HL11.out.tail.tail.tail.tail.tail.tail.tail.head H5.out).mono ?_
  rintro e w12 ⟨t0, tn, tc, rfl, hX, hB⟩
  have HL12 := Lib.hid (AllM.cons hX (HL11.out.below hB))
  have HB12 := Lib.hid (Below.steps HB11.out hB)
  clear hX hB HL11 HB11
  go_wp2_with fail
  refine (same7_yes HL12.out.head HL12.out.tail.tail.tail.tail.tail.tail.tail.head rfl).mono ?_
  rintro e w13 ⟨rfl, hB⟩
  have HL13 := Lib.hid (HL12.out.below hB)
  have HB13 := Lib.hid (Below.steps HB12.out hB)
  clear hB HL12 HB12
  go_wp2_with fail
  refine (same7_yes HL13.out.tail.tail.tail.tail.head HL13.out.tail.tail.tail.tail.tail.tail.tail.tail.head H4.out).mono ?_
  rintro e w14 ⟨rfl, hB⟩
  have HL14 := Lib.hid (HL13.out.below hB)
  have HB14 := Lib.hid (Below.steps HB13.out hB)
  clear hB HL13 HB13
  go_wp2_with fail
  refine (known7_any _).mono ?_
  rintro e w15 ⟨rfl, hB⟩
  have HL15 := Lib.hid (HL14.out.below hB)
  have HB15 := Lib.hid (Below.steps HB14.out hB)
  clear hB HL14 HB14
  go_wp2_with fail
  go_ret
  exact ⟨rfl, HB15.out⟩

set_option maxHeartbeats 2000000 in
set_option maxRecDepth 100000 in
theorem monoBack_small {a0 : Option Addr} {la ca : Nat} {xs : List (Int × Int)} {b0 : Option Addr} {lb cb : Nat} {ys : List (Int × Int)} {w : World} (ha : Ml w a0 la ca xs) (hb : Ml w b0 lb cb ys) (hg : ([(a0, la, ca), (b0, lb, cb)].any fun s => decide (300 < s.2.1)) = false) :
    Calls Try.prog 6 #[.slice a0 la ca, .slice b0 lb cb] w (RetB (.bool true) w) := by
  cases hx : mayM 0 xs with
  | false => exact monoBack_bad0 ha hb hx hg
  | true =>
    cases hy : mayM 0 ys with
    | false => exact monoBack_bad1 ha hb hx hy hg
    | true =>
      rcases joinR_cases (f := fun x y => x + y) rfl 8 hx hy with ⟨ps, hp, hm, he⟩ | ⟨hp, _⟩
      · obtain ⟨h1, h2⟩ := back_plain hx hy hm he
        rcases quot_plain hx hy with ⟨ss, h3, h5, h4⟩ | ⟨h3, h4⟩
        · exact monoBack_2 ha hb hx hy hp h1 h2 h3 h5 h4 hg
        · exact monoBack_1 ha hb hx hy hp h1 h2 h3 h4 hg
      · exact monoBack_0 ha hb hx hy hp hg

set_option maxHeartbeats 2000000 in
set_option maxRecDepth 100000 in
theorem monoBack_row {a0 : Option Addr} {la ca : Nat} {xs : List (Int × Int)} {b0 : Option Addr} {lb cb : Nat} {ys : List (Int × Int)} {w : World} (ha : Ml w a0 la ca xs) (hb : Ml w b0 lb cb ys) :
    Calls Try.prog 6 #[.slice a0 la ca, .slice b0 lb cb] w (RetB (.bool true) w) := by
  cases hg : ([(a0, la, ca), (b0, lb, cb)].any fun s => decide (300 < s.2.1)) with
  | true => exact monoBack_great ha hb hg
  | false => exact monoBack_small ha hb hg

end Go.Proofs.Ytgalcdfleljliaa

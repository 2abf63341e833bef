/-
  The law MonoTotal.
-/
import Derived.Test.YtgalcdfleljliaaMLawP
set_option maxRecDepth 8192
namespace Go.Proofs.Ytgalcdfleljliaa
open Go.RowKit

set_option maxHeartbeats 2000000 in
set_option maxRecDepth 100000 in
theorem monoTotal_great {a0 : Option Addr} {la ca : Nat} {xs : List (Int × Int)} {b0 : Option Addr} {lb cb : Nat} {ys : List (Int × Int)} {c0 : Option Addr} {lc cc : Nat} {zs : List (Int × Int)} {w : World} (ha : Ml w a0 la ca xs) (hb : Ml w b0 lb cb ys) (hc : Ml w c0 lc cc zs) (hg : ([(a0, la, ca), (b0, lb, cb), (c0, lc, cc)].any fun s => decide (300 < s.2.1)) = true) :
    Calls Try.prog 7 #[.slice a0 la ca, .slice b0 lb cb, .slice c0 lc cc] w (RetB (.bool true) w) := by
  have HG := Lib.hid hg
  clear hg
  have HL0 : Hid (AllM w _) := Lib.hid (AllM.mk3 ha hb hc)
  have HB0 := Lib.hid (Below.refl w.heap.size w)
  clear ha hb hc
  go_enter Try.func7, Try.ntmps7
  go_wp2_with fail
  refine (great7_any [(a0, la, ca), (b0, lb, cb), (c0, lc, cc)] true (Cells.new _ _ ([(a0, la, ca), (b0, lb, cb), (c0, lc, cc)].map sliceV) _ rfl) rfl (by simp) HG.out).mono ?_
  rintro e w1 ⟨rfl, hB⟩
  have HL1 := Lib.hid (HL0.out.below (step_alloc hB))
  have HB1 := Lib.hid (Below.steps HB0.out (step_alloc hB))
  clear hB HL0 HB0
  go_wp2_with fail
  refine (known7_any _).mono ?_
  rintro e w2 ⟨rfl, hB⟩
  have HL2 := Lib.hid (HL1.out.below hB)
  have HB2 := Lib.hid (Below.steps HB1.out hB)
  clear hB HL1 HB1
  go_wp2_with fail
  go_ret
  exact ⟨rfl, HB2.out⟩

set_option maxHeartbeats 2000000 in
set_option maxRecDepth 100000 in
theorem monoTotal_bad0 {a0 : Option Addr} {la ca : Nat} {xs : List (Int × Int)} {b0 : Option Addr} {lb cb : Nat} {ys : List (Int × Int)} {c0 : Option Addr} {lc cc : Nat} {zs : List (Int × Int)} {w : World} (ha : Ml w a0 la ca xs) (hb : Ml w b0 lb cb ys) (hc : Ml w c0 lc cc zs) (hx : mayM 0 xs = false) (hg : ([(a0, la, ca), (b0, lb, cb), (c0, lc, cc)].any fun s => decide (300 < s.2.1)) = false) :
    Calls Try.prog 7 #[.slice a0 la ca, .slice b0 lb cb, .slice c0 lc cc] w (RetB (.bool true) w) := by
  have HG := Lib.hid hg
  have HX := Lib.hid hx
  clear hg hx
  have HL0 : Hid (AllM w _) := Lib.hid (AllM.mk3 ha hb hc)
  have HB0 := Lib.hid (Below.refl w.heap.size w)
  clear ha hb hc
  go_enter Try.func7, Try.ntmps7
  go_wp2_with fail
  refine (great7_any [(a0, la, ca), (b0, lb, cb), (c0, lc, cc)] false (Cells.new _ _ ([(a0, la, ca), (b0, lb, cb), (c0, lc, cc)].map sliceV) _ rfl) rfl (by simp) HG.out).mono ?_
  rintro e w1 ⟨rfl, hB⟩
  have HL1 := Lib.hid (HL0.out.below (step_alloc hB))
  have HB1 := Lib.hid (Below.steps HB0.out (step_alloc hB))
  clear hB HL0 HB0
  go_wp2_with fail
  refine (may_any false HL1.out.head HX.out).mono ?_
  rintro e w2 ⟨rfl, hB⟩
  have HL2 := Lib.hid (HL1.out.below hB)
  have HB2 := Lib.hid (Below.steps HB1.out hB)
  clear hB HL1 HB1
  go_wp2_with fail
  refine (known7_any _).mono ?_
  rintro e w3 ⟨rfl, hB⟩
  have HL3 := Lib.hid (HL2.out.below hB)
  have HB3 := Lib.hid (Below.steps HB2.out hB)
  clear hB HL2 HB2
  go_wp2_with fail
  go_ret
  exact ⟨rfl, HB3.out⟩

set_option maxHeartbeats 2000000 in
set_option maxRecDepth 100000 in
theorem monoTotal_bad1 {a0 : Option Addr} {la ca : Nat} {xs : List (Int × Int)} {b0 : Option Addr} {lb cb : Nat} {ys : List (Int × Int)} {c0 : Option Addr} {lc cc : Nat} {zs : List (Int × Int)} {w : World} (ha : Ml w a0 la ca xs) (hb : Ml w b0 lb cb ys) (hc : Ml w c0 lc cc zs) (hx : mayM 0 xs = true) (hy : mayM 0 ys = false) (hg : ([(a0, la, ca), (b0, lb, cb), (c0, lc, cc)].any fun s => decide (300 < s.2.1)) = false) :
    Calls Try.prog 7 #[.slice a0 la ca, .slice b0 lb cb, .slice c0 lc cc] w (RetB (.bool true) w) := by
  have HG := Lib.hid hg
  have HX := Lib.hid hx
  have HY := Lib.hid hy
  clear hg hx hy
  have HL0 : Hid (AllM w _) := Lib.hid (AllM.mk3 ha hb hc)
  have HB0 := Lib.hid (Below.refl w.heap.size w)
  clear ha hb hc
  go_enter Try.func7, Try.ntmps7
  go_wp2_with fail
  refine (great7_any [(a0, la, ca), (b0, lb, cb), (c0, lc, cc)] false (Cells.new _ _ ([(a0, la, ca), (b0, lb, cb), (c0, lc, cc)].map sliceV) _ rfl) rfl (by simp) HG.out).mono ?_
  rintro e w1 ⟨rfl, hB⟩
  have HL1 := Lib.hid (HL0.out.below (step_alloc hB))
  have HB1 := Lib.hid (Below.steps HB0.out (step_alloc hB))
  clear hB HL0 HB0
  go_wp2_with fail
  refine (may_any true HL1.out.head HX.out).mono ?_
  rintro e w2 ⟨rfl, hB⟩
  have HL2 := Lib.hid (HL1.out.below hB)
  have HB2 := Lib.hid (Below.steps HB1.out hB)
  clear hB HL1 HB1
  go_wp2_with fail
  refine (may_any false HL2.out.tail.head HY.out).mono ?_
  rintro e w3 ⟨rfl, hB⟩
  have HL3 := Lib.hid (HL2.out.below hB)
  have HB3 := Lib.hid (Below.steps HB2.out hB)
  clear hB HL2 HB2
  go_wp2_with fail
  refine (known7_any _).mono ?_
  rintro e w4 ⟨rfl, hB⟩
  have HL4 := Lib.hid (HL3.out.below hB)
  have HB4 := Lib.hid (Below.steps HB3.out hB)
  clear hB HL3 HB3
  go_wp2_with fail
  go_ret
  exact ⟨rfl, HB4.out⟩

set_option maxHeartbeats 2000000 in
set_option maxRecDepth 100000 in
theorem monoTotal_bad2 {a0 : Option Addr} {la ca : Nat} {xs : List (Int × Int)} {b0 : Option Addr} {lb cb : Nat} {ys : List (Int × Int)} {c0 : Option Addr} {lc cc : Nat} {zs : List (Int × Int)} {w : World} (ha : Ml w a0 la ca xs) (hb : Ml w b0 lb cb ys) (hc : Ml w c0 lc cc zs) (hx : mayM 0 xs = true) (hy : mayM 0 ys = true) (hz : mayM 0 zs = false) (hg : ([(a0, la, ca), (b0, lb, cb), (c0, lc, cc)].any fun s => decide (300 < s.2.1)) = false) :
    Calls Try.prog 7 #[.slice a0 la ca, .slice b0 lb cb, .slice c0 lc cc] w (RetB (.bool true) w) := by
  have HG := Lib.hid hg
  have HX := Lib.hid hx
  have HY := Lib.hid hy
  have HZ := Lib.hid hz
  clear hg hx hy hz
  have HL0 : Hid (AllM w _) := Lib.hid (AllM.mk3 ha hb hc)
  have HB0 := Lib.hid (Below.refl w.heap.size w)
  clear ha hb hc
  go_enter Try.func7, Try.ntmps7
  go_wp2_with fail
  refine (great7_any [(a0, la, ca), (b0, lb, cb), (c0, lc, cc)] false (Cells.new _ _ ([(a0, la, ca), (b0, lb, cb), (c0, lc, cc)].map sliceV) _ rfl) rfl (by simp) HG.out).mono ?_
  rintro e w1 ⟨rfl, hB⟩
  have HL1 := Lib.hid (HL0.out.below (step_alloc hB))
  have HB1 := Lib.hid (Below.steps HB0.out (step_alloc hB))
  clear hB HL0 HB0
  go_wp2_with fail
  refine (may_any true HL1.out.head HX.out).mono ?_
  rintro e w2 ⟨rfl, hB⟩
  have HL2 := Lib.hid (HL1.out.below hB)
  have HB2 := Lib.hid (Below.steps HB1.out hB)
  clear hB HL1 HB1
  go_wp2_with fail
  refine (may_any true HL2.out.tail.head HY.out).mono ?_
  rintro e w3 ⟨rfl, hB⟩
  have HL3 := Lib.hid (HL2.out.below hB)
  have HB3 := Lib.hid (Below.steps HB2.out hB)
  clear hB HL2 HB2
  go_wp2_with fail
  refine (may_any false HL3.out.tail.tail.head HZ.out).mono ?_
  rintro e w4 ⟨rfl, hB⟩
  have HL4 := Lib.hid (HL3.out.below hB)
  have HB4 := Lib.hid (Below.steps HB3.out hB)
  clear hB HL3 HB3
  go_wp2_with fail
  refine (known7_any _).mono ?_
  rintro e w5 ⟨rfl, hB⟩
  have HL5 := Lib.hid (HL4.out.below hB)
  have HB5 := Lib.hid (Below.steps HB4.out hB)
  clear hB HL4 HB4
  go_wp2_with fail
  go_ret
  exact ⟨rfl, HB5.out⟩

set_option maxHeartbeats 8000000 in
set_option maxRecDepth 100000 in
theorem monoTotal_t0 {a0 : Option Addr} {la ca : Nat} {xs : List (Int × Int)} {b0 : Option Addr} {lb cb : Nat} {ys : List (Int × Int)} {c0 : Option Addr} {lc cc : Nat} {zs : List (Int × Int)} {w : World} (ha : Ml w a0 la ca xs) (hb : Ml w b0 lb cb ys) (hc : Ml w c0 lc cc zs) (hx : mayM 0 xs = true) (hy : mayM 0 ys = true) (hz : mayM 0 zs = true) {x z v o : Int} (h1 : cmpR xs ys = (x, 0)) (h2 : cmpR ys xs = (-x, 0)) (h3 : cmpR ys zs = (z, 0)) (h4 : cmpR xs zs = (v, 0)) (h5 : cmpR xs [] = (o, 0)) (hr : x = -1 ∨ x = 0 ∨ x = 1) (hz0 : x = 0 ↔ xs = ys) (ht : (x ≤ 0 → z ≤ 0 → v ≤ 0) ∧ (0 ≤ x → 0 ≤ z → 0 ≤ v)) (ho : 0 ≤ o ∧ (o = 0 ↔ la = 0)) {qs : List (Int × Int)} {f : Int} (he : joinR (fun x y => x + y) 8 xs zs = ([], 8)) (hf : joinR (fun x y => x + y) 8 ys zs = (qs, f)) (hg : ([(a0, la, ca), (b0, lb, cb), (c0, lc, cc)].any fun s => decide (300 < s.2.1)) = false) :
    Calls Try.prog 7 #[.slice a0 la ca, .slice b0 lb cb, .slice c0 lc cc] w (RetB (.bool true) w) := by
  have hob : ∃ β, (o == 0) = β ∧ ((la : Int) == 0) = β := ⟨(o == 0), rfl, by rw [Bool.eq_iff_iff]; simp; omega⟩
  obtain ⟨β, o1, o2⟩ := hob
  have o3 : decide (o < 0) = false := decide_eq_false (by omega)
  have hn0 := hz0
  have HG := Lib.hid hg
  have HX := Lib.hid hx
  have HY := Lib.hid hy
  have HZ := Lib.hid hz
  have H1 := Lib.hid h1
  have H2 := Lib.hid h2
  have H3 := Lib.hid h3
  have H4 := Lib.hid h4
  have H5 := Lib.hid h5
  have HT := Lib.hid ht
  have HN := Lib.hid hn0
  have HR := Lib.hid hr
  have HE := Lib.hid he
  have HF := Lib.hid hf
  clear hg hx hy hz h1 h2 h3 h4 h5 ht hn0 hr he hf
  clear ho hz0
  have HL0 : Hid (AllM w _) := Lib.hid (AllM.mk3 ha hb hc)
  have HB0 := Lib.hid (Below.refl w.heap.size w)
  clear ha hb hc
  go_enter Try.func7, Try.ntmps7
  go_wp2_with fail
  refine (great7_any [(a0, la, ca), (b0, lb, cb), (c0, lc, cc)] false (Cells.new _ _ ([(a0, la, ca), (b0, lb, cb), (c0, lc, cc)].map sliceV) _ rfl) rfl (by simp) HG.out).mono ?_
  rintro e w1 ⟨rfl, hB⟩
  have HL1 := Lib.hid (HL0.out.below (step_alloc hB))
  have HB1 := Lib.hid (Below.steps HB0.out (step_alloc hB))
  clear hB HL0 HB0
  go_wp2_with fail
  refine (may_any true HL1.out.head HX.out).mono ?_
  rintro e w2 ⟨rfl, hB⟩
  have HL2 := Lib.hid (HL1.out.below hB)
  have HB2 := Lib.hid (Below.steps HB1.out hB)
  clear hB HL1 HB1
  go_wp2_with fail
  refine (may_any true HL2.out.tail.head HY.out).mono ?_
  rintro e w3 ⟨rfl, hB⟩
  have HL3 := Lib.hid (HL2.out.below hB)
  have HB3 := Lib.hid (Below.steps HB2.out hB)
  clear hB HL2 HB2
  go_wp2_with fail
  refine (may_any true HL3.out.tail.tail.head HZ.out).mono ?_
  rintro e w4 ⟨rfl, hB⟩
  have HL4 := Lib.hid (HL3.out.below hB)
  have HB4 := Lib.hid (Below.steps HB3.out hB)
  clear hB HL3 HB3
  go_wp2_with fail
  refine (compare_is x 0 HL4.out.head HL4.out.tail.head H1.out).mono ?_
  rintro e w5 ⟨rfl, hB⟩
  have HL5 := Lib.hid (HL4.out.below hB)
  have HB5 := Lib.hid (Below.steps HB4.out hB)
  clear hB HL4 HB4
  go_wp2_with fail
  refine (compare_is (-x) 0 HL5.out.tail.head HL5.out.head H2.out).mono ?_
  rintro e w6 ⟨rfl, hB⟩
  have HL6 := Lib.hid (HL5.out.below hB)
  have HB6 := Lib.hid (Below.steps HB5.out hB)
  clear hB HL5 HB5
  go_wp2_with fail
  refine (compare_is z 0 HL6.out.tail.head HL6.out.tail.tail.head H3.out).mono ?_
  rintro e w7 ⟨rfl, hB⟩
  have HL7 := Lib.hid (HL6.out.below hB)
  have HB7 := Lib.hid (Below.steps HB6.out hB)
  clear hB HL6 HB6
  go_wp2_with fail
  refine (compare_is v 0 HL7.out.head HL7.out.tail.tail.head H4.out).mono ?_
  rintro e w8 ⟨rfl, hB⟩
  have HL8 := Lib.hid (HL7.out.below hB)
  have HB8 := Lib.hid (Below.steps HB7.out hB)
  clear hB HL7 HB7
  go_wp2_with fail
  refine (compare_is o 0 HL8.out.head (Ml.zero _) H5.out).mono ?_
  rintro e w9 ⟨rfl, hB⟩
  have HL9 := Lib.hid (HL8.out.below hB)
  have HB9 := Lib.hid (Below.steps HB8.out hB)
  clear hB HL8 HB8
  rcases HR.out with rfl | rfl | rfl
  · have HS : Hid (xs ≠ ys) := fun h => by have := HN.out.2 h; omega
    go_wp2_with fail
    refine (same7_no HL9.out.head HL9.out.tail.head HS.out).mono ?_
    rintro e w10 ⟨rfl, hB⟩
    have HL10 := Lib.hid (HL9.out.below hB)
    have HB10 := Lib.hid (Below.steps HB9.out hB)
    clear hB HL9 HB9
    by_cases g : z ≤ 0
    · have f0 : decide (z ≤ 0) = true := decide_eq_true (by omega)
      have v0 : decide (0 < v) = false := decide_eq_false (by have := HT.out; omega)
      clear g
      go_wp2_with fail
      refine (times_is [] 8 HL10.out.head HL10.out.tail.tail.head HE.out).mono ?_
      rintro e w11 ⟨p0, pn, pc, rfl, hX, hB⟩
      have HL11 := Lib.hid (AllM.cons hX (HL10.out.below hB))
      have HB11 := Lib.hid (Below.steps HB10.out hB)
      clear hX hB HL10 HB10
      go_wp2_with fail
      refine (times_is qs f HL11.out.tail.tail.head HL11.out.tail.tail.tail.head HF.out).mono ?_
      rintro e w12 ⟨q0, qn, qc, rfl, hX, hB⟩
      have HL12 := Lib.hid (AllM.cons hX (HL11.out.below hB))
      have HB12 := Lib.hid (Below.steps HB11.out hB)
      clear hX hB HL11 HB11
      go_wp2_with fail
      refine (known7_any _).mono ?_
      rintro e w13 ⟨rfl, hB⟩
      have HL13 := Lib.hid (HL12.out.below hB)
      have HB13 := Lib.hid (Below.steps HB12.out hB)
      clear hB HL12 HB12
      go_wp2_with fail
      go_ret
      exact ⟨rfl, HB13.out⟩
    · have f0 : decide (z ≤ 0) = false := decide_eq_false (by omega)
      clear g
      go_wp2_with fail
      refine (times_is [] 8 HL10.out.head HL10.out.tail.tail.head HE.out).mono ?_
      rintro e w11 ⟨p0, pn, pc, rfl, hX, hB⟩
      have HL11 := Lib.hid (AllM.cons hX (HL10.out.below hB))
      have HB11 := Lib.hid (Below.steps HB10.out hB)
      clear hX hB HL10 HB10
      go_wp2_with fail
      refine (times_is qs f HL11.out.tail.tail.head HL11.out.tail.tail.tail.head HF.out).mono ?_
      rintro e w12 ⟨q0, qn, qc, rfl, hX, hB⟩
      have HL12 := Lib.hid (AllM.cons hX (HL11.out.below hB))
      have HB12 := Lib.hid (Below.steps HB11.out hB)
      clear hX hB HL11 HB11
      go_wp2_with fail
      refine (known7_any _).mono ?_
      rintro e w13 ⟨rfl, hB⟩
      have HL13 := Lib.hid (HL12.out.below hB)
      have HB13 := Lib.hid (Below.steps HB12.out hB)
      clear hB HL12 HB12
      go_wp2_with fail
      go_ret
      exact ⟨rfl, HB13.out⟩
  · have HS : Hid (xs = ys) := HN.out.1 rfl
    go_wp2_with fail
    refine (same7_yes HL9.out.head HL9.out.tail.head HS.out).mono ?_
    rintro e w10 ⟨rfl, hB⟩
    have HL10 := Lib.hid (HL9.out.below hB)
    have HB10 := Lib.hid (Below.steps HB9.out hB)
    clear hB HL9 HB9
    rcases Int.lt_trichotomy z 0 with g | g | g
    · have f0 : decide (z ≤ 0) = true := decide_eq_true (by omega)
      have f1 : decide (0 ≤ z) = false := decide_eq_false (by omega)
      have v0 : decide (0 < v) = false := decide_eq_false (by have := HT.out; omega)
      clear g
      go_wp2_with fail
      refine (times_is [] 8 HL10.out.head HL10.out.tail.tail.head HE.out).mono ?_
      rintro e w11 ⟨p0, pn, pc, rfl, hX, hB⟩
      have HL11 := Lib.hid (AllM.cons hX (HL10.out.below hB))
      have HB11 := Lib.hid (Below.steps HB10.out hB)
      clear hX hB HL10 HB10
      go_wp2_with fail
      refine (times_is qs f HL11.out.tail.tail.head HL11.out.tail.tail.tail.head HF.out).mono ?_
      rintro e w12 ⟨q0, qn, qc, rfl, hX, hB⟩
      have HL12 := Lib.hid (AllM.cons hX (HL11.out.below hB))
      have HB12 := Lib.hid (Below.steps HB11.out hB)
      clear hX hB HL11 HB11
      go_wp2_with fail
      refine (known7_any _).mono ?_
      rintro e w13 ⟨rfl, hB⟩
      have HL13 := Lib.hid (HL12.out.below hB)
      have HB13 := Lib.hid (Below.steps HB12.out hB)
      clear hB HL12 HB12
      go_wp2_with fail
      go_ret
      exact ⟨rfl, HB13.out⟩
    · have f0 : decide (z ≤ 0) = true := decide_eq_true (by omega)
      have f1 : decide (0 ≤ z) = true := decide_eq_true (by omega)
      have v0 : decide (0 < v) = false := decide_eq_false (by have := HT.out; omega)
      have v1 : decide (v < 0) = false := decide_eq_false (by have := HT.out; omega)
      clear g
      go_wp2_with fail
      refine (times_is [] 8 HL10.out.head HL10.out.tail.tail.head HE.out).mono ?_
      rintro e w11 ⟨p0, pn, pc, rfl, hX, hB⟩
      have HL11 := Lib.hid (AllM.cons hX (HL10.out.below hB))
      have HB11 := Lib.hid (Below.steps HB10.out hB)
      clear hX hB HL10 HB10
      go_wp2_with fail
      refine (times_is qs f HL11.out.tail.tail.head HL11.out.tail.tail.tail.head HF.out).mono ?_
      rintro e w12 ⟨q0, qn, qc, rfl, hX, hB⟩
      have HL12 := Lib.hid (AllM.cons hX (HL11.out.below hB))
      have HB12 := Lib.hid (Below.steps HB11.out hB)
      clear hX hB HL11 HB11
      go_wp2_with fail
      refine (known7_any _).mono ?_
      rintro e w13 ⟨rfl, hB⟩
      have HL13 := Lib.hid (HL12.out.below hB)
      have HB13 := Lib.hid (Below.steps HB12.out hB)
      clear hB HL12 HB12
      go_wp2_with fail
      go_ret
      exact ⟨rfl, HB13.out⟩
    · have f0 : decide (z ≤ 0) = false := decide_eq_false (by omega)
      have f1 : decide (0 ≤ z) = true := decide_eq_true (by omega)
      have v0 : decide (v < 0) = false := decide_eq_false (by have := HT.out; omega)
      clear g
      go_wp2_with fail
      refine (times_is [] 8 HL10.out.head HL10.out.tail.tail.head HE.out).mono ?_
      rintro e w11 ⟨p0, pn, pc, rfl, hX, hB⟩
      have HL11 := Lib.hid (AllM.cons hX (HL10.out.below hB))
      have HB11 := Lib.hid (Below.steps HB10.out hB)
      clear hX hB HL10 HB10
      go_wp2_with fail
      refine (times_is qs f HL11.out.tail.tail.head HL11.out.tail.tail.tail.head HF.out).mono ?_
      rintro e w12 ⟨q0, qn, qc, rfl, hX, hB⟩
      have HL12 := Lib.hid (AllM.cons hX (HL11.out.below hB))
      have HB12 := Lib.hid (Below.steps HB11.out hB)
      clear hX hB HL11 HB11
      go_wp2_with fail
      refine (known7_any _).mono ?_
      rintro e w13 ⟨rfl, hB⟩
      have HL13 := Lib.hid (HL12.out.below hB)
      have HB13 := Lib.hid (Below.steps HB12.out hB)
      clear hB HL12 HB12
      go_wp2_with fail
      go_ret
      exact ⟨rfl, HB13.out⟩
  · have HS : Hid (xs ≠ ys) := fun h => by have := HN.out.2 h; omega
    go_wp2_with fail
    refine (same7_no HL9.out.head HL9.out.tail.head HS.out).mono ?_
    rintro e w10 ⟨rfl, hB⟩
    have HL10 := Lib.hid (HL9.out.below hB)
    have HB10 := Lib.hid (Below.steps HB9.out hB)
    clear hB HL9 HB9
    by_cases g : 0 ≤ z
    · have f0 : decide (0 ≤ z) = true := decide_eq_true (by omega)
      have v0 : decide (v < 0) = false := decide_eq_false (by have := HT.out; omega)
      clear g
      go_wp2_with fail
      refine (times_is [] 8 HL10.out.head HL10.out.tail.tail.head HE.out).mono ?_
      rintro e w11 ⟨p0, pn, pc, rfl, hX, hB⟩
      have HL11 := Lib.hid (AllM.cons hX (HL10.out.below hB))
      have HB11 := Lib.hid (Below.steps HB10.out hB)
      clear hX hB HL10 HB10
      go_wp2_with fail
      refine (times_is qs f HL11.out.tail.tail.head HL11.out.tail.tail.tail.head HF.out).mono ?_
      rintro e w12 ⟨q0, qn, qc, rfl, hX, hB⟩
      have HL12 := Lib.hid (AllM.cons hX (HL11.out.below hB))
      have HB12 := Lib.hid (Below.steps HB11.out hB)
      clear hX hB HL11 HB11
      go_wp2_with fail
      refine (known7_any _).mono ?_
      rintro e w13 ⟨rfl, hB⟩
      have HL13 := Lib.hid (HL12.out.below hB)
      have HB13 := Lib.hid (Below.steps HB12.out hB)
      clear hB HL12 HB12
      go_wp2_with fail
      go_ret
      exact ⟨rfl, HB13.out⟩
    · have f0 : decide (0 ≤ z) = false := decide_eq_false (by omega)
      clear g
      go_wp2_with fail
      refine (times_is [] 8 HL10.out.head HL10.out.tail.tail.head HE.out).mono ?_
      rintro e w11 ⟨p0, pn, pc, rfl, hX, hB⟩
      have HL11 := Lib.hid (AllM.cons hX (HL10.out.below hB))
      have HB11 := Lib.hid (Below.steps HB10.out hB)
      clear hX hB HL10 HB10
      go_wp2_with fail
      refine (times_is qs f HL11.out.tail.tail.head HL11.out.tail.tail.tail.head HF.out).mono ?_
      rintro e w12 ⟨q0, qn, qc, rfl, hX, hB⟩
      have HL12 := Lib.hid (AllM.cons hX (HL11.out.below hB))
      have HB12 := Lib.hid (Below.steps HB11.out hB)
      clear hX hB HL11 HB11
      go_wp2_with fail
      refine (known7_any _).mono ?_
      rintro e w13 ⟨rfl, hB⟩
      have HL13 := Lib.hid (HL12.out.below hB)
      have HB13 := Lib.hid (Below.steps HB12.out hB)
      clear hB HL12 HB12
      go_wp2_with fail
      go_ret
      exact ⟨rfl, HB13.out⟩

set_option maxHeartbeats 8000000 in
set_option maxRecDepth 100000 in
theorem monoTotal_t1 {a0 : Option Addr} {la ca : Nat} {xs : List (Int × Int)} {b0 : Option Addr} {lb cb : Nat} {ys : List (Int × Int)} {c0 : Option Addr} {lc cc : Nat} {zs : List (Int × Int)} {w : World} (ha : Ml w a0 la ca xs) (hb : Ml w b0 lb cb ys) (hc : Ml w c0 lc cc zs) (hx : mayM 0 xs = true) (hy : mayM 0 ys = true) (hz : mayM 0 zs = true) {x z v o : Int} (h1 : cmpR xs ys = (x, 0)) (h2 : cmpR ys xs = (-x, 0)) (h3 : cmpR ys zs = (z, 0)) (h4 : cmpR xs zs = (v, 0)) (h5 : cmpR xs [] = (o, 0)) (hr : x = -1 ∨ x = 0 ∨ x = 1) (hz0 : x = 0 ↔ xs = ys) (ht : (x ≤ 0 → z ≤ 0 → v ≤ 0) ∧ (0 ≤ x → 0 ≤ z → 0 ≤ v)) (ho : 0 ≤ o ∧ (o = 0 ↔ la = 0)) {ps : List (Int × Int)} (he : joinR (fun x y => x + y) 8 xs zs = (ps, 0)) (hf : joinR (fun x y => x + y) 8 ys zs = ([], 8)) (hg : ([(a0, la, ca), (b0, lb, cb), (c0, lc, cc)].any fun s => decide (300 < s.2.1)) = false) :
    Calls Try.prog 7 #[.slice a0 la ca, .slice b0 lb cb, .slice c0 lc cc] w (RetB (.bool true) w) := by
  have hob : ∃ β, (o == 0) = β ∧ ((la : Int) == 0) = β := ⟨(o == 0), rfl, by rw [Bool.eq_iff_iff]; simp; omega⟩
  obtain ⟨β, o1, o2⟩ := hob
  have o3 : decide (o < 0) = false := decide_eq_false (by omega)
  have hn0 := hz0
  have HG := Lib.hid hg
  have HX := Lib.hid hx
  have HY := Lib.hid hy
  have HZ := Lib.hid hz
  have H1 := Lib.hid h1
  have H2 := Lib.hid h2
  have H3 := Lib.hid h3
  have H4 := Lib.hid h4
  have H5 := Lib.hid h5
  have HT := Lib.hid ht
  have HN := Lib.hid hn0
  have HR := Lib.hid hr
  have HE := Lib.hid he
  have HF := Lib.hid hf
  clear hg hx hy hz h1 h2 h3 h4 h5 ht hn0 hr he hf
  clear ho hz0
  have HL0 : Hid (AllM w _) := Lib.hid (AllM.mk3 ha hb hc)
  have HB0 := Lib.hid (Below.refl w.heap.size w)
  clear ha hb hc
  go_enter Try.func7, Try.ntmps7
  go_wp2_with fail
  refine (great7_any [(a0, la, ca), (b0, lb, cb), (c0, lc, cc)] false (Cells.new _ _ ([(a0, la, ca), (b0, lb, cb), (c0, lc, cc)].map sliceV) _ rfl) rfl (by simp) HG.out).mono ?_
  rintro e w1 ⟨rfl, hB⟩
  have HL1 := Lib.hid (HL0.out.below (step_alloc hB))
  have HB1 := Lib.hid (Below.steps HB0.out (step_alloc hB))
  clear hB HL0 HB0
  go_wp2_with fail
  refine (may_any true HL1.out.head HX.out).mono ?_
  rintro e w2 ⟨rfl, hB⟩
  have HL2 := Lib.hid (HL1.out.below hB)
  have HB2 := Lib.hid (Below.steps HB1.out hB)
  clear hB HL1 HB1
  go_wp2_with fail
  refine (may_any true HL2.out.tail.head HY.out).mono ?_
  rintro e w3 ⟨rfl, hB⟩
  have HL3 := Lib.hid (HL2.out.below hB)
  have HB3 := Lib.hid (Below.steps HB2.out hB)
  clear hB HL2 HB2
  go_wp2_with fail
  refine (may_any true HL3.out.tail.tail.head HZ.out).mono ?_
  rintro e w4 ⟨rfl, hB⟩
  have HL4 := Lib.hid (HL3.out.below hB)
  have HB4 := Lib.hid (Below.steps HB3.out hB)
  clear hB HL3 HB3
  go_wp2_with fail
  refine (compare_is x 0 HL4.out.head HL4.out.tail.head H1.out).mono ?_
  rintro e w5 ⟨rfl, hB⟩
  have HL5 := Lib.hid (HL4.out.below hB)
  have HB5 := Lib.hid (Below.steps HB4.out hB)
  clear hB HL4 HB4
  go_wp2_with fail
  refine (compare_is (-x) 0 HL5.out.tail.head HL5.out.head H2.out).mono ?_
  rintro e w6 ⟨rfl, hB⟩
  have HL6 := Lib.hid (HL5.out.below hB)
  have HB6 := Lib.hid (Below.steps HB5.out hB)
  clear hB HL5 HB5
  go_wp2_with fail
  refine (compare_is z 0 HL6.out.tail.head HL6.out.tail.tail.head H3.out).mono ?_
  rintro e w7 ⟨rfl, hB⟩
  have HL7 := Lib.hid (HL6.out.below hB)
  have HB7 := Lib.hid (Below.steps HB6.out hB)
  clear hB HL6 HB6
  go_wp2_with fail
  refine (compare_is v 0 HL7.out.head HL7.out.tail.tail.head H4.out).mono ?_
  rintro e w8 ⟨rfl, hB⟩
  have HL8 := Lib.hid (HL7.out.below hB)
  have HB8 := Lib.hid (Below.steps HB7.out hB)
  clear hB HL7 HB7
  go_wp2_with fail
  refine (compare_is o 0 HL8.out.head (Ml.zero _) H5.out).mono ?_
  rintro e w9 ⟨rfl, hB⟩
  have HL9 := Lib.hid (HL8.out.below hB)
  have HB9 := Lib.hid (Below.steps HB8.out hB)
  clear hB HL8 HB8
  rcases HR.out with rfl | rfl | rfl
  · have HS : Hid (xs ≠ ys) := fun h => by have := HN.out.2 h; omega
    go_wp2_with fail
    refine (same7_no HL9.out.head HL9.out.tail.head HS.out).mono ?_
    rintro e w10 ⟨rfl, hB⟩
    have HL10 := Lib.hid (HL9.out.below hB)
    have HB10 := Lib.hid (Below.steps HB9.out hB)
    clear hB HL9 HB9
    by_cases g : z ≤ 0
    · have f0 : decide (z ≤ 0) = true := decide_eq_true (by omega)
      have v0 : decide (0 < v) = false := decide_eq_false (by have := HT.out; omega)
      clear g
      go_wp2_with fail
      refine (times_is ps 0 HL10.out.head HL10.out.tail.tail.head HE.out).mono ?_
      rintro e w11 ⟨p0, pn, pc, rfl, hX, hB⟩
      have HL11 := Lib.hid (AllM.cons hX (HL10.out.below hB))
      have HB11 := Lib.hid (Below.steps HB10.out hB)
      clear hX hB HL10 HB10
      go_wp2_with fail
      refine (times_is [] 8 HL11.out.tail.tail.head HL11.out.tail.tail.tail.head HF.out).mono ?_
      rintro e w12 ⟨q0, qn, qc, rfl, hX, hB⟩
      have HL12 := Lib.hid (AllM.cons hX (HL11.out.below hB))
      have HB12 := Lib.hid (Below.steps HB11.out hB)
      clear hX hB HL11 HB11
      go_wp2_with fail
      refine (known7_any _).mono ?_
      rintro e w13 ⟨rfl, hB⟩
      have HL13 := Lib.hid (HL12.out.below hB)
      have HB13 := Lib.hid (Below.steps HB12.out hB)
      clear hB HL12 HB12
      go_wp2_with fail
      go_ret
      exact ⟨rfl, HB13.out⟩
    · have f0 : decide (z ≤ 0) = false := decide_eq_false (by omega)
      clear g
      go_wp2_with fail
      refine (times_is ps 0 HL10.out.head HL10.out.tail.tail.head HE.out).mono ?_
      rintro e w11 ⟨p0, pn, pc, rfl, hX, hB⟩
      have HL11 := Lib.hid (AllM.cons hX (HL10.out.below hB))
      have HB11 := Lib.hid (Below.steps HB10.out hB)
      clear hX hB HL10 HB10
      go_wp2_with fail
      refine (times_is [] 8 HL11.out.tail.tail.head HL11.out.tail.tail.tail.head HF.out).mono ?_
      rintro e w12 ⟨q0, qn, qc, rfl, hX, hB⟩
      have HL12 := Lib.hid (AllM.cons hX (HL11.out.below hB))
      have HB12 := Lib.hid (Below.steps HB11.out hB)
      clear hX hB HL11 HB11
      go_wp2_with fail
      refine (known7_any _).mono ?_
      rintro e w13 ⟨rfl, hB⟩
      have HL13 := Lib.hid (HL12.out.below hB)
      have HB13 := Lib.hid (Below.steps HB12.out hB)
      clear hB HL12 HB12
      go_wp2_with fail
      go_ret
      exact ⟨rfl, HB13.out⟩
  · have HS : Hid (xs = ys) := HN.out.1 rfl
    go_wp2_with fail
    refine (same7_yes HL9.out.head HL9.out.tail.head HS.out).mono ?_
    rintro e w10 ⟨rfl, hB⟩
    have HL10 := Lib.hid (HL9.out.below hB)
    have HB10 := Lib.hid (Below.steps HB9.out hB)
    clear hB HL9 HB9
    rcases Int.lt_trichotomy z 0 with g | g | g
    · have f0 : decide (z ≤ 0) = true := decide_eq_true (by omega)
      have f1 : decide (0 ≤ z) = false := decide_eq_false (by omega)
      have v0 : decide (0 < v) = false := decide_eq_false (by have := HT.out; omega)
      clear g
      go_wp2_with fail
      refine (times_is ps 0 HL10.out.head HL10.out.tail.tail.head HE.out).mono ?_
      rintro e w11 ⟨p0, pn, pc, rfl, hX, hB⟩
      have HL11 := Lib.hid (AllM.cons hX (HL10.out.below hB))
      have HB11 := Lib.hid (Below.steps HB10.out hB)
      clear hX hB HL10 HB10
      go_wp2_with fail
      refine (times_is [] 8 HL11.out.tail.tail.head HL11.out.tail.tail.tail.head HF.out).mono ?_
      rintro e w12 ⟨q0, qn, qc, rfl, hX, hB⟩
      have HL12 := Lib.hid (AllM.cons hX (HL11.out.below hB))
      have HB12 := Lib.hid (Below.steps HB11.out hB)
      clear hX hB HL11 HB11
      go_wp2_with fail
      refine (known7_any _).mono ?_
      rintro e w13 ⟨rfl, hB⟩
      have HL13 := Lib.hid (HL12.out.below hB)
      have HB13 := Lib.hid (Below.steps HB12.out hB)
      clear hB HL12 HB12
      go_wp2_with fail
      go_ret
      exact ⟨rfl, HB13.out⟩
    · have f0 : decide (z ≤ 0) = true := decide_eq_true (by omega)
      have f1 : decide (0 ≤ z) = true := decide_eq_true (by omega)
      have v0 : decide (0 < v) = false := decide_eq_false (by have := HT.out; omega)
      have v1 : decide (v < 0) = false := decide_eq_false (by have := HT.out; omega)
      clear g
      go_wp2_with fail
      refine (times_is ps 0 HL10.out.head HL10.out.tail.tail.head HE.out).mono ?_
      rintro e w11 ⟨p0, pn, pc, rfl, hX, hB⟩
      have HL11 := Lib.hid (AllM.cons hX (HL10.out.below hB))
      have HB11 := Lib.hid (Below.steps HB10.out hB)
      clear hX hB HL10 HB10
      go_wp2_with fail
      refine (times_is [] 8 HL11.out.tail.tail.head HL11.out.tail.tail.tail.head HF.out).mono ?_
      rintro e w12 ⟨q0, qn, qc, rfl, hX, hB⟩
      have HL12 := Lib.hid (AllM.cons hX (HL11.out.below hB))
      have HB12 := Lib.hid (Below.steps HB11.out hB)
      clear hX hB HL11 HB11
      go_wp2_with fail
      refine (known7_any _).mono ?_
      rintro e w13 ⟨rfl, hB⟩
      have HL13 := Lib.hid (HL12.out.below hB)
      have HB13 := Lib.hid (Below.steps HB12.out hB)
      clear hB HL12 HB12
      go_wp2_with fail
      go_ret
      exact ⟨rfl, HB13.out⟩
    · have f0 : decide (z ≤ 0) = false := decide_eq_false (by omega)
      have f1 : decide (0 ≤ z) = true := decide_eq_true (by omega)
      have v0 : decide (v < 0) = false := decide_eq_false (by have := HT.out; omega)
      clear g
      go_wp2_with fail
      refine (times_is ps 0 HL10.out.head HL10.out.tail.tail.head HE.out).mono ?_
      rintro e w11 ⟨p0, pn, pc, rfl, hX, hB⟩
      have HL11 := Lib.hid (AllM.cons hX (HL10.out.below hB))
      have HB11 := Lib.hid (Below.steps HB10.out hB)
      clear hX hB HL10 HB10
      go_wp2_with fail
      refine (times_is [] 8 HL11.out.tail.tail.head HL11.out.tail.tail.tail.head HF.out).mono ?_
      rintro e w12 ⟨q0, qn, qc, rfl, hX, hB⟩
      have HL12 := Lib.hid (AllM.cons hX (HL11.out.below hB))
      have HB12 := Lib.hid (Below.steps HB11.out hB)
      clear hX hB HL11 HB11
      go_wp2_with fail
      refine (known7_any _).mono ?_
      rintro e w13 ⟨rfl, hB⟩
      have HL13 := Lib.hid (HL12.out.below hB)
      have HB13 := Lib.hid (Below.steps HB12.out hB)
      clear hB HL12 HB12
      go_wp2_with fail
      go_ret
      exact ⟨rfl, HB13.out⟩
  · have HS : Hid (xs ≠ ys) := fun h => by have := HN.out.2 h; omega
    go_wp2_with fail
    refine (same7_no HL9.out.head HL9.out.tail.head HS.out).mono ?_
    rintro e w10 ⟨rfl, hB⟩
    have HL10 := Lib.hid (HL9.out.below hB)
    have HB10 := Lib.hid (Below.steps HB9.out hB)
    clear hB HL9 HB9
    by_cases g : 0 ≤ z
    · have f0 : decide (0 ≤ z) = true := decide_eq_true (by omega)
      have v0 : decide (v < 0) = false := decide_eq_false (by have := HT.out; omega)
      clear g
      go_wp2_with fail
      refine (times_is ps 0 HL10.out.head HL10.out.tail.tail.head HE.out).mono ?_
      rintro e w11 ⟨p0, pn, pc, rfl, hX, hB⟩
      have HL11 := Lib.hid (AllM.cons hX (HL10.out.below hB))
      have HB11 := Lib.hid (Below.steps HB10.out hB)
      clear hX hB HL10 HB10
      go_wp2_with fail
      refine (times_is [] 8 HL11.out.tail.tail.head HL11.out.tail.tail.tail.head HF.out).mono ?_
      rintro e w12 ⟨q0, qn, qc, rfl, hX, hB⟩
      have HL12 := Lib.hid (AllM.cons hX (HL11.out.below hB))
      have HB12 := Lib.hid (Below.steps HB11.out hB)
      clear hX hB HL11 HB11
      go_wp2_with fail
      refine (known7_any _).mono ?_
      rintro e w13 ⟨rfl, hB⟩
      have HL13 := Lib.hid (HL12.out.below hB)
      have HB13 := Lib.hid (Below.steps HB12.out hB)
      clear hB HL12 HB12
      go_wp2_with fail
      go_ret
      exact ⟨rfl, HB13.out⟩
    · have f0 : decide (0 ≤ z) = false := decide_eq_false (by omega)
      clear g
      go_wp2_with fail
      refine (times_is ps 0 HL10.out.head HL10.out.tail.tail.head HE.out).mono ?_
      rintro e w11 ⟨p0, pn, pc, rfl, hX, hB⟩
      have HL11 := Lib.hid (AllM.cons hX (HL10.out.below hB))
      have HB11 := Lib.hid (Below.steps HB10.out hB)
      clear hX hB HL10 HB10
      go_wp2_with fail
      refine (times_is [] 8 HL11.out.tail.tail.head HL11.out.tail.tail.tail.head HF.out).mono ?_
      rintro e w12 ⟨q0, qn, qc, rfl, hX, hB⟩
      have HL12 := Lib.hid (AllM.cons hX (HL11.out.below hB))
      have HB12 := Lib.hid (Below.steps HB11.out hB)
      clear hX hB HL11 HB11
      go_wp2_with fail
      refine (known7_any _).mono ?_
      rintro e w13 ⟨rfl, hB⟩
      have HL13 := Lib.hid (HL12.out.below hB)
      have HB13 := Lib.hid (Below.steps HB12.out hB)
      clear hB HL12 HB12
      go_wp2_with fail
      go_ret
      exact ⟨rfl, HB13.out⟩

set_option maxHeartbeats 8000000 in
set_option maxRecDepth 100000 in
theorem monoTotal_t2 {a0 : Option Addr} {la ca : Nat} {xs : List (Int × Int)} {b0 : Option Addr} {lb cb : Nat} {ys : List (Int × Int)} {c0 : Option Addr} {lc cc : Nat} {zs : List (Int × Int)} {w : World} (ha : Ml w a0 la ca xs) (hb : Ml w b0 lb cb ys) (hc : Ml w c0 lc cc zs) (hx : mayM 0 xs = true) (hy : mayM 0 ys = true) (hz : mayM 0 zs = true) {x z v o : Int} (h1 : cmpR xs ys = (x, 0)) (h2 : cmpR ys xs = (-x, 0)) (h3 : cmpR ys zs = (z, 0)) (h4 : cmpR xs zs = (v, 0)) (h5 : cmpR xs [] = (o, 0)) (hr : x = -1 ∨ x = 0 ∨ x = 1) (hz0 : x = 0 ↔ xs = ys) (ht : (x ≤ 0 → z ≤ 0 → v ≤ 0) ∧ (0 ≤ x → 0 ≤ z → 0 ≤ v)) (ho : 0 ≤ o ∧ (o = 0 ↔ la = 0)) {ps qs : List (Int × Int)} (he : joinR (fun x y => x + y) 8 xs zs = (ps, 0)) (hf : joinR (fun x y => x + y) 8 ys zs = (qs, 0)) (hv : cmpR ps qs = (x, 0)) (hg : ([(a0, la, ca), (b0, lb, cb), (c0, lc, cc)].any fun s => decide (300 < s.2.1)) = false) :
    Calls Try.prog 7 #[.slice a0 la ca, .slice b0 lb cb, .slice c0 lc cc] w (RetB (.bool true) w) := by
  have hob : ∃ β, (o == 0) = β ∧ ((la : Int) == 0) = β := ⟨(o == 0), rfl, by rw [Bool.eq_iff_iff]; simp; omega⟩
  obtain ⟨β, o1, o2⟩ := hob
  have o3 : decide (o < 0) = false := decide_eq_false (by omega)
  have hn0 := hz0
  have HG := Lib.hid hg
  have HX := Lib.hid hx
  have HY := Lib.hid hy
  have HZ := Lib.hid hz
  have H1 := Lib.hid h1
  have H2 := Lib.hid h2
  have H3 := Lib.hid h3
  have H4 := Lib.hid h4
  have H5 := Lib.hid h5
  have HT := Lib.hid ht
  have HN := Lib.hid hn0
  have HR := Lib.hid hr
  have HE := Lib.hid he
  have HF := Lib.hid hf
  clear hg hx hy hz h1 h2 h3 h4 h5 ht hn0 hr he hf
  have HV := Lib.hid hv
  clear hv
  clear ho hz0
  have HL0 : Hid (AllM w _) := Lib.hid (AllM.mk3 ha hb hc)
  have HB0 := Lib.hid (Below.refl w.heap.size w)
  clear ha hb hc
  go_enter Try.func7, Try.ntmps7
  go_wp2_with fail
  refine (great7_any [(a0, la, ca), (b0, lb, cb), (c0, lc, cc)] false (Cells.new _ _ ([(a0, la, ca), (b0, lb, cb), (c0, lc, cc)].map sliceV) _ rfl) rfl (by simp) HG.out).mono ?_
  rintro e w1 ⟨rfl, hB⟩
  have HL1 := Lib.hid (HL0.out.below (step_alloc hB))
  have HB1 := Lib.hid (Below.steps HB0.out (step_alloc hB))
  clear hB HL0 HB0
  go_wp2_with fail
  refine (may_any true HL1.out.head HX.out).mono ?_
  rintro e w2 ⟨rfl, hB⟩
  have HL2 := Lib.hid (HL1.out.below hB)
  have HB2 := Lib.hid (Below.steps HB1.out hB)
  clear hB HL1 HB1
  go_wp2_with fail
  refine (may_any true HL2.out.tail.head HY.out).mono ?_
  rintro e w3 ⟨rfl, hB⟩
  have HL3 := Lib.hid (HL2.out.below hB)
  have HB3 := Lib.hid (Below.steps HB2.out hB)
  clear hB HL2 HB2
  go_wp2_with fail
  refine (may_any true HL3.out.tail.tail.head HZ.out).mono ?_
  rintro e w4 ⟨rfl, hB⟩
  have HL4 := Lib.hid (HL3.out.below hB)
  have HB4 := Lib.hid (Below.steps HB3.out hB)
  clear hB HL3 HB3
  go_wp2_with fail
  refine (compare_is x 0 HL4.out.head HL4.out.tail.head H1.out).mono ?_
  rintro e w5 ⟨rfl, hB⟩
  have HL5 := Lib.hid (HL4.out.below hB)
  have HB5 := Lib.hid (Below.steps HB4.out hB)
  clear hB HL4 HB4
  go_wp2_with fail
  refine (compare_is (-x) 0 HL5.out.tail.head HL5.out.head H2.out).mono ?_
  rintro e w6 ⟨rfl, hB⟩
  have HL6 := Lib.hid (HL5.out.below hB)
  have HB6 := Lib.hid (Below.steps HB5.out hB)
  clear hB HL5 HB5
  go_wp2_with fail
  refine (compare_is z 0 HL6.out.tail.head HL6.out.tail.tail.head H3.out).mono ?_
  rintro e w7 ⟨rfl, hB⟩
  have HL7 := Lib.hid (HL6.out.below hB)
  have HB7 := Lib.hid (Below.steps HB6.out hB)
  clear hB HL6 HB6
  go_wp2_with fail
  refine (compare_is v 0 HL7.out.head HL7.out.tail.tail.head H4.out).mono ?_
  rintro e w8 ⟨rfl, hB⟩
  have HL8 := Lib.hid (HL7.out.below hB)
  have HB8 := Lib.hid (Below.steps HB7.out hB)
  clear hB HL7 HB7
  go_wp2_with fail
  refine (compare_is o 0 HL8.out.head (Ml.zero _) H5.out).mono ?_
  rintro e w9 ⟨rfl, hB⟩
  have HL9 := Lib.hid (HL8.out.below hB)
  have HB9 := Lib.hid (Below.steps HB8.out hB)
  clear hB HL8 HB8
  rcases HR.out with rfl | rfl | rfl
  · have HS : Hid (xs ≠ ys) := fun h => by have := HN.out.2 h; omega
    go_wp2_with fail
    refine (same7_no HL9.out.head HL9.out.tail.head HS.out).mono ?_
    rintro e w10 ⟨rfl, hB⟩
    have HL10 := Lib.hid (HL9.out.below hB)
    have HB10 := Lib.hid (Below.steps HB9.out hB)
    clear hB HL9 HB9
    by_cases g : z ≤ 0
    · have f0 : decide (z ≤ 0) = true := decide_eq_true (by omega)
      have v0 : decide (0 < v) = false := decide_eq_false (by have := HT.out; omega)
      clear g
      go_wp2_with fail
      refine (times_is ps 0 HL10.out.head HL10.out.tail.tail.head HE.out).mono ?_
      rintro e w11 ⟨p0, pn, pc, rfl, hX, hB⟩
      have HL11 := Lib.hid (AllM.cons hX (HL10.out.below hB))
      have HB11 := Lib.hid (Below.steps HB10.out hB)
      clear hX hB HL10 HB10
      go_wp2_with fail
      refine (times_is qs 0 HL11.out.tail.tail.head HL11.out.tail.tail.tail.head HF.out).mono ?_
      rintro e w12 ⟨q0, qn, qc, rfl, hX, hB⟩
      have HL12 := Lib.hid (AllM.cons hX (HL11.out.below hB))
      have HB12 := Lib.hid (Below.steps HB11.out hB)
      clear hX hB HL11 HB11
      go_wp2_with fail
      refine (compare_is _ 0 HL12.out.tail.head HL12.out.head HV.out).mono ?_
      rintro e w13 ⟨rfl, hB⟩
      have HL13 := Lib.hid (HL12.out.below hB)
      have HB13 := Lib.hid (Below.steps HB12.out hB)
      clear hB HL12 HB12
      go_wp2_with fail
      refine (known7_any _).mono ?_
      rintro e w14 ⟨rfl, hB⟩
      have HL14 := Lib.hid (HL13.out.below hB)
      have HB14 := Lib.hid (Below.steps HB13.out hB)
      clear hB HL13 HB13
      go_wp2_with fail
      go_ret
      exact ⟨rfl, HB14.out⟩
    · have f0 : decide (z ≤ 0) = false := decide_eq_false (by omega)
      clear g
      go_wp2_with fail
      refine (times_is ps 0 HL10.out.head HL10.out.tail.tail.head HE.out).mono ?_
      rintro e w11 ⟨p0, pn, pc, rfl, hX, hB⟩
      have HL11 := Lib.hid (AllM.cons hX (HL10.out.below hB))
      have HB11 := Lib.hid (Below.steps HB10.out hB)
      clear hX hB HL10 HB10
      go_wp2_with fail
      refine (times_is qs 0 HL11.out.tail.tail.head HL11.out.tail.tail.tail.head HF.out).mono ?_
      rintro e w12 ⟨q0, qn, qc, rfl, hX, hB⟩
      have HL12 := Lib.hid (AllM.cons hX (HL11.out.below hB))
      have HB12 := Lib.hid (Below.steps HB11.out hB)
      clear hX hB HL11 HB11
      go_wp2_with fail
      refine (compare_is _ 0 HL12.out.tail.head HL12.out.head HV.out).mono ?_
      rintro e w13 ⟨rfl, hB⟩
      have HL13 := Lib.hid (HL12.out.below hB)
      have HB13 := Lib.hid (Below.steps HB12.out hB)
      clear hB HL12 HB12
      go_wp2_with fail
      refine (known7_any _).mono ?_
      rintro e w14 ⟨rfl, hB⟩
      have HL14 := Lib.hid (HL13.out.below hB)
      have HB14 := Lib.hid (Below.steps HB13.out hB)
      clear hB HL13 HB13
      go_wp2_with fail
      go_ret
      exact ⟨rfl, HB14.out⟩
  · have HS : Hid (xs = ys) := HN.out.1 rfl
    go_wp2_with fail
    refine (same7_yes HL9.out.head HL9.out.tail.head HS.out).mono ?_
    rintro e w10 ⟨rfl, hB⟩
    have HL10 := Lib.hid (HL9.out.below hB)
    have HB10 := Lib.hid (Below.steps HB9.out hB)
    clear hB HL9 HB9
    rcases Int.lt_trichotomy z 0 with g | g | g
    · have f0 : decide (z ≤ 0) = true := decide_eq_true (by omega)
      have f1 : decide (0 ≤ z) = false := decide_eq_false (by omega)
      have v0 : decide (0 < v) = false := decide_eq_false (by have := HT.out; omega)
      clear g
      go_wp2_with fail
      refine (times_is ps 0 HL10.out.head HL10.out.tail.tail.head HE.out).mono ?_
      rintro e w11 ⟨p0, pn, pc, rfl, hX, hB⟩
      have HL11 := Lib.hid (AllM.cons hX (HL10.out.below hB))
      have HB11 := Lib.hid (Below.steps HB10.out hB)
      clear hX hB HL10 HB10
      go_wp2_with fail
      refine (times_is qs 0 HL11.out.tail.tail.head HL11.out.tail.tail.tail.head HF.out).mono ?_
      rintro e w12 ⟨q0, qn, qc, rfl, hX, hB⟩
      have HL12 := Lib.hid (AllM.cons hX (HL11.out.below hB))
      have HB12 := Lib.hid (Below.steps HB11.out hB)
      clear hX hB HL11 HB11
      go_wp2_with fail
      refine (compare_is _ 0 HL12.out.tail.head HL12.out.head HV.out).mono ?_
      rintro e w13 ⟨rfl, hB⟩
      have HL13 := Lib.hid (HL12.out.below hB)
      have HB13 := Lib.hid (Below.steps HB12.out hB)
      clear hB HL12 HB12
      go_wp2_with fail
      refine (known7_any _).mono ?_
      rintro e w14 ⟨rfl, hB⟩
      have HL14 := Lib.hid (HL13.out.below hB)
      have HB14 := Lib.hid (Below.steps HB13.out hB)
      clear hB HL13 HB13
      go_wp2_with fail
      go_ret
      exact ⟨rfl, HB14.out⟩
    · have f0 : decide (z ≤ 0) = true := decide_eq_true (by omega)
      have f1 : decide (0 ≤ z) = true := decide_eq_true (by omega)
      have v0 : decide (0 < v) = false := decide_eq_false (by have := HT.out; omega)
      have v1 : decide (v < 0) = false := decide_eq_false (by have := HT.out; omega)
      clear g
      go_wp2_with fail
      refine (times_is ps 0 HL10.out.head HL10.out.tail.tail.head HE.out).mono ?_
      rintro e w11 ⟨p0, pn, pc, rfl, hX, hB⟩
      have HL11 := Lib.hid (AllM.cons hX (HL10.out.below hB))
      have HB11 := Lib.hid (Below.steps HB10.out hB)
      clear hX hB HL10 HB10
      go_wp2_with fail
      refine (times_is qs 0 HL11.out.tail.tail.head HL11.out.tail.tail.tail.head HF.out).mono ?_
      rintro e w12 ⟨q0, qn, qc, rfl, hX, hB⟩
      have HL12 := Lib.hid (AllM.cons hX (HL11.out.below hB))
      have HB12 := Lib.hid (Below.steps HB11.out hB)
      clear hX hB HL11 HB11
      go_wp2_with fail
      refine (compare_is _ 0 HL12.out.tail.head HL12.out.head HV.out).mono ?_
      rintro e w13 ⟨rfl, hB⟩
      have HL13 := Lib.hid (HL12.out.below hB)
      have HB13 := Lib.hid (Below.steps HB12.out hB)
      clear hB HL12 HB12
      go_wp2_with fail
      refine (known7_any _).mono ?_
      rintro e w14 ⟨rfl, hB⟩
      have HL14 := Lib.hid (HL13.out.below hB)
      have HB14 := Lib.hid (Below.steps HB13.out hB)
      clear hB HL13 HB13
      go_wp2_with fail
      go_ret
      exact ⟨rfl, HB14.out⟩
    · have f0 : decide (z ≤ 0) = false := decide_eq_false (by omega)
      have f1 : decide (0 ≤ z) = true := decide_eq_true (by omega)
      have v0 : decide (v < 0) = false := decide_eq_false (by have := HT.out; omega)
      clear g
      go_wp2_with fail
      refine (times_is ps 0 HL10.out.head HL10.out.tail.tail.head HE.out).mono ?_
      rintro e w11 ⟨p0, pn, pc, rfl, hX, hB⟩
      have HL11 := Lib.hid (AllM.cons hX (HL10.out.below hB))
      have HB11 := Lib.hid (Below.steps HB10.out hB)
      clear hX hB HL10 HB10
      go_wp2_with fail
      refine (times_is qs 0 HL11.out.tail.tail.head HL11.out.tail.tail.tail.head HF.out).mono ?_
      rintro e w12 ⟨q0, qn, qc, rfl, hX, hB⟩
      have HL12 := Lib.hid (AllM.cons hX (HL11.out.below hB))
      have HB12 := Lib.hid (Below.steps HB11.out hB)
      clear hX hB HL11 HB11
      go_wp2_with fail
      refine (compare_is _ 0 HL12.out.tail.head HL12.out.head HV.out).mono ?_
      rintro e w13 ⟨rfl, hB⟩
      have HL13 := Lib.hid (HL12.out.below hB)
      have HB13 := Lib.hid (Below.steps HB12.out hB)
      clear hB HL12 HB12
      go_wp2_with fail
      refine (known7_any _).mono ?_
      rintro e w14 ⟨rfl, hB⟩
      have HL14 := Lib.hid (HL13.out.below hB)
      have HB14 := Lib.hid (Below.steps HB13.out hB)
      clear hB HL13 HB13
      go_wp2_with fail
      go_ret
      exact ⟨rfl, HB14.out⟩
  · have HS : Hid (xs ≠ ys) := fun h => by have := HN.out.2 h; omega
    go_wp2_with fail
    refine (same7_no HL9.out.head HL9.out.tail.head HS.out).mono ?_
    rintro e w10 ⟨rfl, hB⟩
    have HL10 := Lib.hid (HL9.out.below hB)
    have HB10 := Lib.hid (Below.steps HB9.out hB)
    clear hB HL9 HB9
    by_cases g : 0 ≤ z
    · have f0 : decide (0 ≤ z) = true := decide_eq_true (by omega)
      have v0 : decide (v < 0) = false := decide_eq_false (by have := HT.out; omega)
      clear g
      go_wp2_with fail
      refine (times_is ps 0 HL10.out.head HL10.out.tail.tail.head HE.out).mono ?_
      rintro e w11 ⟨p0, pn, pc, rfl, hX, hB⟩
      have HL11 := Lib.hid (AllM.cons hX (HL10.out.below hB))
      have HB11 := Lib.hid (Below.steps HB10.out hB)
      clear hX hB HL10 HB10
      go_wp2_with fail
      refine (times_is qs 0 HL11.out.tail.tail.head HL11.out.tail.tail.tail.head HF.out).mono ?_
      rintro e w12 ⟨q0, qn, qc, rfl, hX, hB⟩
      have HL12 := Lib.hid (AllM.cons hX (HL11.out.below hB))
      have HB12 := Lib.hid (Below.steps HB11.out hB)
      clear hX hB HL11 HB11
      go_wp2_with fail
      refine (compare_is _ 0 HL12.out.tail.head HL12.out.head HV.out).mono ?_
      rintro e w13 ⟨rfl, hB⟩
      have HL13 := Lib.hid (HL12.out.below hB)
      have HB13 := Lib.hid (Below.steps HB12.out hB)
      clear hB HL12 HB12
      go_wp2_with fail
      refine (known7_any _).mono ?_
      rintro e w14 ⟨rfl, hB⟩
      have HL14 := Lib.hid (HL13.out.below hB)
      have HB14 := Lib.hid (Below.steps HB13.out hB)
      clear hB HL13 HB13
      go_wp2_with fail
      go_ret
      exact ⟨rfl, HB14.out⟩
    · have f0 : decide (0 ≤ z) = false := decide_eq_false (by omega)
      clear g
      go_wp2_with fail
      refine (times_is ps 0 HL10.out.head HL10.out.tail.tail.head HE.out).mono ?_
      rintro e w11 ⟨p0, pn, pc, rfl, hX, hB⟩
      have HL11 := Lib.hid (AllM.cons hX (HL10.out.below hB))
      have HB11 := Lib.hid (Below.steps HB10.out hB)
      clear hX hB HL10 HB10
      go_wp2_with fail
      refine (times_is qs 0 HL11.out.tail.tail.head HL11.out.tail.tail.tail.head HF.out).mono ?_
      rintro e w12 ⟨q0, qn, qc, rfl, hX, hB⟩
      have HL12 := Lib.hid (AllM.cons hX (HL11.out.below hB))
      have HB12 := Lib.hid (Below.steps HB11.out hB)
      clear hX hB HL11 HB11
      go_wp2_with fail
      refine (compare_is _ 0 HL12.out.tail.head HL12.out.head HV.out).mono ?_
      rintro e w13 ⟨rfl, hB⟩
      have HL13 := Lib.hid (HL12.out.below hB)
      have HB13 := Lib.hid (Below.steps HB12.out hB)
      clear hB HL12 HB12
      go_wp2_with fail
      refine (known7_any _).mono ?_
      rintro e w14 ⟨rfl, hB⟩
      have HL14 := Lib.hid (HL13.out.below hB)
      have HB14 := Lib.hid (Below.steps HB13.out hB)
      clear hB HL13 HB13
      go_wp2_with fail
      go_ret
      exact ⟨rfl, HB14.out⟩

set_option maxHeartbeats 2000000 in
set_option maxRecDepth 100000 in
theorem monoTotal_small {a0 : Option Addr} {la ca : Nat} {xs : List (Int × Int)} {b0 : Option Addr} {lb cb : Nat} {ys : List (Int × Int)} {c0 : Option Addr} {lc cc : Nat} {zs : List (Int × Int)} {w : World} (ha : Ml w a0 la ca xs) (hb : Ml w b0 lb cb ys) (hc : Ml w c0 lc cc zs) (hg : ([(a0, la, ca), (b0, lb, cb), (c0, lc, cc)].any fun s => decide (300 < s.2.1)) = false) :
    Calls Try.prog 7 #[.slice a0 la ca, .slice b0 lb cb, .slice c0 lc cc] w (RetB (.bool true) w) := by
  cases hx : mayM 0 xs with
  | false => exact monoTotal_bad0 ha hb hc hx hg
  | true =>
    cases hy : mayM 0 ys with
    | false => exact monoTotal_bad1 ha hb hc hx hy hg
    | true =>
      cases hz : mayM 0 zs with
      | false => exact monoTotal_bad2 ha hb hc hx hy hz hg
      | true =>
        obtain ⟨x, h1, k1⟩ := cmpR_yes hx hy
        obtain ⟨z, h3, k3⟩ := cmpR_yes hy hz
        obtain ⟨v, h4, k4⟩ := cmpR_yes hx hz
        obtain ⟨o, h5, k5⟩ := cmpR_yes hx (show mayM 0 [] = true from rfl)
        have h2 := cmpR_is hy hx k1.neg
        have hz0 := cmp_zero hx hy k1
        obtain ⟨o1, o2⟩ := cmp_one hx k5
        have ho : 0 ≤ o ∧ (o = 0 ↔ la = 0) := ⟨o1, by rw [o2, ← ha.len, List.length_eq_zero_iff]⟩
        have ht : (x ≤ 0 → z ≤ 0 → v ≤ 0) ∧ (0 ≤ x → 0 ≤ z → 0 ≤ v) := ⟨k1.le_trans k3 k4, k1.ge_trans k3 k4⟩
        rcases joinR_cases (f := fun x y => x + y) rfl 8 hx hz with ⟨ps, he, em, ee⟩ | ⟨he, _⟩
        · rcases joinR_cases (f := fun x y => x + y) rfl 8 hy hz with ⟨qs, hf, fm, fe⟩ | ⟨hf, _⟩
          · have hv : cmpR ps qs = (x, 0) := cmpR_is em fm (by rw [funext ee, funext fe]; exact k1.add (expo zs))
            exact monoTotal_t2 ha hb hc hx hy hz h1 h2 h3 h4 h5 k1.range hz0 ht ho he hf hv hg
          · exact monoTotal_t1 ha hb hc hx hy hz h1 h2 h3 h4 h5 k1.range hz0 ht ho he hf hg
        · exact monoTotal_t0 ha hb hc hx hy hz h1 h2 h3 h4 h5 k1.range hz0 ht ho he rfl hg

set_option maxHeartbeats 2000000 in
set_option maxRecDepth 100000 in
theorem monoTotal_row {a0 : Option Addr} {la ca : Nat} {xs : List (Int × Int)} {b0 : Option Addr} {lb cb : Nat} {ys : List (Int × Int)} {c0 : Option Addr} {lc cc : Nat} {zs : List (Int × Int)} {w : World} (ha : Ml w a0 la ca xs) (hb : Ml w b0 lb cb ys) (hc : Ml w c0 lc cc zs) :
    Calls Try.prog 7 #[.slice a0 la ca, .slice b0 lb cb, .slice c0 lc cc] w (RetB (.bool true) w) := by
  cases hg : ([(a0, la, ca), (b0, lb, cb), (c0, lc, cc)].any fun s => decide (300 < s.2.1)) with
  | true => exact monoTotal_great ha hb hc hg
  | false => exact monoTotal_small ha hb hc hg

end Go.Proofs.Ytgalcdfleljliaa

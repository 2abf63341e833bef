/-
  What the walks of layer 7's laws share: all live lists under one name; porismlaw07.known.
-/
import Derived.Test.YtgalcdfleljliaaMOne
import Derived.Test.YtgalcdfleljliaaMRDeg
import Derived.Test.YtgalcdfleljliaaMROver
import Derived.Test.YtgalcdfleljliaaMRCom
import Derived.Test.YtgalcdfleljliaaMRCmp
import Derived.Test.YtgalcdfleljliaaMRWo
set_option maxRecDepth 8192
namespace Go.Proofs.Ytgalcdfleljliaa
open Go.RowKit

abbrev LiveM := Option Addr × Nat × Nat × List (Int × Int)
/-- All these lists of powers can be read. -/
def AllM (w : World) : List (Option Addr × Nat × Nat × List (Int × Int)) → Prop
  | [] => True
  | s :: r => Ml w s.1 s.2.1 s.2.2.1 s.2.2.2 ∧ AllM w r
theorem AllM.nil (w : World) : AllM w [] := trivial
theorem AllM.cons {w : World} {ao : Option Addr} {n cap : Nat} {xs : List (Int × Int)} {r : List (Option Addr × Nat × Nat × List (Int × Int))} (h : Ml w ao n cap xs) (hr : AllM w r) : AllM w ((ao, n, cap, xs) :: r) := ⟨h, hr⟩
theorem AllM.head {w : World} {ao : Option Addr} {n cap : Nat} {xs : List (Int × Int)} {r : List (Option Addr × Nat × Nat × List (Int × Int))} (h : AllM w ((ao, n, cap, xs) :: r)) : Ml w ao n cap xs := h.1
theorem AllM.tail {w : World} {s : Option Addr × Nat × Nat × List (Int × Int)} {r : List (Option Addr × Nat × Nat × List (Int × Int))} (h : AllM w (s :: r)) : AllM w r := h.2
theorem AllM.below {w w' : World} (hb : Below w.heap.size w w') : ∀ {r : List (Option Addr × Nat × Nat × List (Int × Int))}, AllM w r → AllM w' r
  | [], _ => trivial
  | _ :: _, h => ⟨h.1.below hb, AllM.below hb h.2⟩
theorem AllM.mk1 {w : World} {a0 : Option Addr} {l0 c0 : Nat} {xs : List (Int × Int)} (h0 : Ml w a0 l0 c0 xs) : AllM w [(a0, l0, c0, xs)] := .cons h0 (.nil w)
theorem AllM.mk2 {w : World} {a0 a1 : Option Addr} {l0 c0 l1 c1 : Nat} {xs ys : List (Int × Int)} (h0 : Ml w a0 l0 c0 xs) (h1 : Ml w a1 l1 c1 ys) : AllM w [(a0, l0, c0, xs), (a1, l1, c1, ys)] := .cons h0 (.mk1 h1)
theorem AllM.mk3 {w : World} {a0 a1 a2 : Option Addr} {l0 c0 l1 c1 l2 c2 : Nat} {xs ys zs : List (Int × Int)} (h0 : Ml w a0 l0 c0 xs) (h1 : Ml w a1 l1 c1 ys) (h2 : Ml w a2 l2 c2 zs) : AllM w [(a0, l0, c0, xs), (a1, l1, c1, ys), (a2, l2, c2, zs)] := .cons h0 (.mk2 h1 h2)

section
variable {a0 b0 : Option Addr} {la ca lc cc : Nat} {xs ys : List (Int × Int)} {w : World}
theorem times_is (qs : List (Int × Int)) (z : Int) (ha : Ml w a0 la ca xs) (hb : Ml w b0 lc cc ys) (h : joinR (fun x y => x + y) 8 xs ys = (qs, z)) :
    Calls Try.prog 11 #[.slice a0 la ca, .slice b0 lc cc] w (NewME w qs z) := by have := times_any ha hb; rw [h] at this; exact this
theorem over_is (qs : List (Int × Int)) (z : Int) (ha : Ml w a0 la ca xs) (hb : Ml w b0 lc cc ys) (h : joinR (fun x y => x - y) 5 xs ys = (qs, z)) :
    Calls Try.prog 13 #[.slice a0 la ca, .slice b0 lc cc] w (NewME w qs z) := by have := over_any ha hb; rw [h] at this; exact this
theorem times7_is (qs : List (Int × Int)) (z : Int) (ha : Ml w a0 la ca xs) (hb : Ml w b0 lc cc ys) (h : joinR (fun x y => x + y) 8 xs ys = (qs, z)) :
    Calls Try.prog 12 #[.slice a0 la ca, .slice b0 lc cc] w (NewME w qs z) := by have := times7_any ha hb; rw [h] at this; exact this
theorem over7_is (qs : List (Int × Int)) (z : Int) (ha : Ml w a0 la ca xs) (hb : Ml w b0 lc cc ys) (h : joinR (fun x y => x - y) 5 xs ys = (qs, z)) :
    Calls Try.prog 14 #[.slice a0 la ca, .slice b0 lc cc] w (NewME w qs z) := by have := over7_any ha hb; rw [h] at this; exact this
theorem compare_is (c z : Int) (ha : Ml w a0 la ca xs) (hb : Ml w b0 lc cc ys) (h : cmpR xs ys = (c, z)) :
    Calls Try.prog 18 #[.slice a0 la ca, .slice b0 lc cc] w (RetB (.tuple #[.int .i64 c, .int .i64 z]) w) := by have := compare_any ha hb; rw [h] at this; exact this
end

theorem kn1 : joinR (fun x y => x + y) 8 [(1, 2), (3, 1)] [(1, 1)] = ([(1, 3), (3, 1)], 0) := by simp [joinR, joinL, tri, keepL, mayM, okP]
theorem kn2 : joinR (fun x y => x - y) 5 [(1, 2), (3, 1)] [(1, 1)] = ([(1, 1), (3, 1)], 0) := by simp [joinR, joinL, tri, keepL, mayM, okP]
theorem kn3 : joinR (fun x y => x - y) 5 [(1, 5)] [(2, 1)] = ([], 5) := by simp [joinR, joinL, tri, keepL, mayM, okP]
theorem kn4 : cmpR [(1, 5)] [(2, 1)] = (-1, 0) := by simp [cmpR, cmpM, tri, ordT, mayM, okP]
theorem kn5 : mayM 0 [(2, 1), (2, 1)] = false := by simp [mayM, okP]

set_option maxHeartbeats 2000000 in
theorem known7_any (w : World) : Calls Try.prog 10 #[] w (RetB (.bool true) w) := by
  go_enter Try.func10, Try.ntmps10
  have HL0 : Hid (AllM w _) := Lib.hid (AllM.nil _)
  have HB0 := Lib.hid (Below.refl w.heap.size w)
  go_wp2_with fail
  refine (one_any (ps := [(1, 2), (3, 1)]) (Cells.new _ _ (pcells [(1, 2), (3, 1)]) _ rfl) rfl (by simp) (by simp [in64])).mono ?_
  rintro e w1 ⟨a0, an, ac, rfl, hX, hB⟩
  have HL1 := Lib.hid (AllM.cons hX (HL0.out.below (step_alloc hB)))
  have HB1 := Lib.hid (Below.steps HB0.out (step_alloc hB))
  clear hX hB HL0 HB0
  go_wp2_with fail
  refine (one_any (ps := [(1, 1)]) (Cells.new _ _ (pcells [(1, 1)]) _ rfl) rfl (by simp) (by simp [in64])).mono ?_
  rintro e w2 ⟨b0, bn, bc, rfl, hX, hB⟩
  have HL2 := Lib.hid (AllM.cons hX (HL1.out.below (step_alloc hB)))
  have HB2 := Lib.hid (Below.steps HB1.out (step_alloc hB))
  clear hX hB HL1 HB1
  go_wp2_with fail
  refine (times_is _ _ HL2.out.tail.head HL2.out.head kn1).mono ?_
  rintro e w3 ⟨p0, pn, pc, rfl, hX, hB⟩
  have HL3 := Lib.hid (AllM.cons hX (HL2.out.below hB))
  have HB3 := Lib.hid (Below.steps HB2.out hB)
  clear hX hB HL2 HB2
  go_wp2_with fail
  refine (one_any (ps := [(1, 2), (3, 1)]) (Cells.new _ _ (pcells [(1, 2), (3, 1)]) _ rfl) rfl (by simp) (by simp [in64])).mono ?_
  rintro e w4 ⟨c0, cn, cc, rfl, hX, hB⟩
  have HL4 := Lib.hid (AllM.cons hX (HL3.out.below (step_alloc hB)))
  have HB4 := Lib.hid (Below.steps HB3.out (step_alloc hB))
  clear hX hB HL3 HB3
  go_wp2_with fail
  refine (one_any (ps := [(1, 1)]) (Cells.new _ _ (pcells [(1, 1)]) _ rfl) rfl (by simp) (by simp [in64])).mono ?_
  rintro e w5 ⟨d0, dn, dc, rfl, hX, hB⟩
  have HL5 := Lib.hid (AllM.cons hX (HL4.out.below (step_alloc hB)))
  have HB5 := Lib.hid (Below.steps HB4.out (step_alloc hB))
  clear hX hB HL4 HB4
  go_wp2_with fail
  refine (over_is _ _ HL5.out.tail.head HL5.out.head kn2).mono ?_
  rintro e w6 ⟨q0, qn, qc, rfl, hX, hB⟩
  have HL6 := Lib.hid (AllM.cons hX (HL5.out.below hB))
  have HB6 := Lib.hid (Below.steps HB5.out hB)
  clear hX hB HL5 HB5
  go_wp2_with fail
  refine (one_any (ps := [(1, 5)]) (Cells.new _ _ (pcells [(1, 5)]) _ rfl) rfl (by simp) (by simp [in64])).mono ?_
  rintro e w7 ⟨f0, fn, fc, rfl, hX, hB⟩
  have HL7 := Lib.hid (AllM.cons hX (HL6.out.below (step_alloc hB)))
  have HB7 := Lib.hid (Below.steps HB6.out (step_alloc hB))
  clear hX hB HL6 HB6
  go_wp2_with fail
  refine (one_any (ps := [(2, 1)]) (Cells.new _ _ (pcells [(2, 1)]) _ rfl) rfl (by simp) (by simp [in64])).mono ?_
  rintro e w8 ⟨g0, gn, gc, rfl, hX, hB⟩
  have HL8 := Lib.hid (AllM.cons hX (HL7.out.below (step_alloc hB)))
  have HB8 := Lib.hid (Below.steps HB7.out (step_alloc hB))
  clear hX hB HL7 HB7
  go_wp2_with fail
  refine (over_is _ _ HL8.out.tail.head HL8.out.head kn3).mono ?_
  rintro e w9 ⟨r0, rn, rc, rfl, hX, hB⟩
  have HL9 := Lib.hid (AllM.cons hX (HL8.out.below hB))
  have HB9 := Lib.hid (Below.steps HB8.out hB)
  clear hX hB HL8 HB8
  go_wp2_with fail
  refine (one_any (ps := [(1, 5)]) (Cells.new _ _ (pcells [(1, 5)]) _ rfl) rfl (by simp) (by simp [in64])).mono ?_
  rintro e w10 ⟨h0, hn, hc, rfl, hX, hB⟩
  have HL10 := Lib.hid (AllM.cons hX (HL9.out.below (step_alloc hB)))
  have HB10 := Lib.hid (Below.steps HB9.out (step_alloc hB))
  clear hX hB HL9 HB9
  go_wp2_with fail
  refine (one_any (ps := [(2, 1)]) (Cells.new _ _ (pcells [(2, 1)]) _ rfl) rfl (by simp) (by simp [in64])).mono ?_
  rintro e w11 ⟨m0, mn, mc, rfl, hX, hB⟩
  have HL11 := Lib.hid (AllM.cons hX (HL10.out.below (step_alloc hB)))
  have HB11 := Lib.hid (Below.steps HB10.out (step_alloc hB))
  clear hX hB HL10 HB10
  go_wp2_with fail
  refine (compare_is _ _ HL11.out.tail.head HL11.out.head kn4).mono ?_
  rintro e w12 ⟨rfl, hB⟩
  have HL12 := Lib.hid (HL11.out.below hB)
  have HB12 := Lib.hid (Below.steps HB11.out hB)
  clear hB HL11 HB11
  go_wp2_with fail
  refine (one_any (ps := [(1, 3), (3, 1)]) (Cells.new _ _ (pcells [(1, 3), (3, 1)]) _ rfl) rfl (by simp) (by simp [in64])).mono ?_
  rintro e w13 ⟨s0, sn, sc, rfl, hX, hB⟩
  have HL13 := Lib.hid (AllM.cons hX (HL12.out.below (step_alloc hB)))
  have HB13 := Lib.hid (Below.steps HB12.out (step_alloc hB))
  clear hX hB HL12 HB12
  go_wp2_with fail
  refine (same7_yes HL13.out.tail.tail.tail.tail.tail.tail.tail.tail.tail.head HL13.out.head rfl).mono ?_
  rintro e w14 ⟨rfl, hB⟩
  have HL14 := Lib.hid (HL13.out.below hB)
  have HB14 := Lib.hid (Below.steps HB13.out hB)
  clear hB HL13 HB13
  go_wp2_with fail
  refine (one_any (ps := [(1, 1), (3, 1)]) (Cells.new _ _ (pcells [(1, 1), (3, 1)]) _ rfl) rfl (by simp) (by simp [in64])).mono ?_
  rintro e w15 ⟨t0, tn, tc, rfl, hX, hB⟩
  have HL15 := Lib.hid (AllM.cons hX (HL14.out.below (step_alloc hB)))
  have HB15 := Lib.hid (Below.steps HB14.out (step_alloc hB))
  clear hX hB HL14 HB14
  go_wp2_with fail
  refine (same7_yes HL15.out.tail.tail.tail.tail.tail.tail.tail.head HL15.out.head rfl).mono ?_
  rintro e w16 ⟨rfl, hB⟩
  have HL16 := Lib.hid (HL15.out.below hB)
  have HB16 := Lib.hid (Below.steps HB15.out hB)
  clear hB HL15 HB15
  go_wp2_with fail
  refine (may_any true (Ml.zero _) rfl).mono ?_
  rintro e w17 ⟨rfl, hB⟩
  have HL17 := Lib.hid (HL16.out.below hB)
  have HB17 := Lib.hid (Below.steps HB16.out hB)
  clear hB HL16 HB16
  go_wp2_with fail
  refine (one_any (ps := [(2, 1), (2, 1)]) (Cells.new _ _ (pcells [(2, 1), (2, 1)]) _ rfl) rfl (by simp) (by simp [in64])).mono ?_
  rintro e w18 ⟨u0, un, uc, rfl, hX, hB⟩
  have HL18 := Lib.hid (AllM.cons hX (HL17.out.below (step_alloc hB)))
  have HB18 := Lib.hid (Below.steps HB17.out (step_alloc hB))
  clear hX hB HL17 HB17
  go_wp2_with fail
  refine (may_any false HL18.out.head kn5).mono ?_
  rintro e w19 ⟨rfl, hB⟩
  have HL19 := Lib.hid (HL18.out.below hB)
  have HB19 := Lib.hid (Below.steps HB18.out hB)
  clear hB HL18 HB18
  go_wp2_with fail
  go_ret
  exact ⟨rfl, HB19.out⟩

end Go.Proofs.Ytgalcdfleljliaa

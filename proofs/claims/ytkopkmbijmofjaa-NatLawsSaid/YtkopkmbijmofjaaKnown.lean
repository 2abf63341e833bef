/-
  The contract of porismlaw01.known: true.
-/
import Derived.Test.YtkopkmbijmofjaaGNatA
import Derived.Test.YtkopkmbijmofjaaGNatB
import Derived.Test.YtkopkmbijmofjaaGRef
import Derived.Test.YtkopkmbijmofjaaGMem
namespace Go.Proofs.Ytkopkmbijmofjaa
open Go.RowKit

set_option maxHeartbeats 2000000 in
theorem known_any (w : World) : Calls Try.prog 9 #[] w fun e w' => e = .returned (.bool true) ∧ Below w.heap.size w w' := by
  have HB0 := Lib.hid (Below.refl w.heap.size w)
  go_enter Try.func9, Try.ntmps9
  go_wp2_with fail
  -- a := Add([2^32 - 1], [1])
  refine (add_any _ _ _ _ _ _ [4294967295] [1] _ ((lit_sl w _ 1 _ rfl rfl _ rfl (wf1 (by omega)) (by simp)).alloc _) (lit_sl _ _ 1 _ (by simp) rfl _ rfl (wf1 (by omega)) (by simp)) (by omega) (by omega)).mono ?_
  rintro e w1 ⟨a0, an, ac, rfl, hA, hB1⟩
  rw [limbs_of _ [0, 1] (wf2 (by omega) (by omega)) (by rfl) (by decide)] at hA
  have HA := Lib.hid hA.sl
  have HB1 : Hid (Below w.heap.size w w1) := (((HB0.out.alloc (Nat.le_refl _) _).alloc (by simp) _).trans (hB1.mono (by simp; omega)))
  have hs1 := HB1.out.size
  clear hA hB1 HB0
  go_wp2_with fail
  -- b, e := Sub([0, 1], [1, 0])
  refine (sub_any _ _ _ _ _ _ [0, 1] [1, 0] _ ((lit_sl w1 _ 2 _ rfl rfl _ rfl (wf2 (by omega) (by omega)) (by simp)).alloc _) (lit_sl _ _ 2 _ (by simp) rfl _ rfl (wf2 (by omega) (by omega)) (by simp)) (by decide)).mono ?_
  rintro e w2 ⟨b0, bn, bc, rfl, hS, hB2⟩
  rw [limbs_of _ [4294967295] (wf1 (by omega)) (by rfl) (by decide)] at hS
  have HS := Lib.hid hS.sl
  have hb12 : Below w1.heap.size w1 w2 := (((Below.refl _ _).alloc (Nat.le_refl _) _).alloc (by simp) _).trans (hB2.mono (by simp; omega))
  have HB2 : Hid (Below w.heap.size w w2) := HB1.out.trans (hb12.mono hs1)
  have HA2 := Lib.hid (HA.out.below hb12)
  have hs2 := HB2.out.size
  clear hS hB2 HB1 HA hb12
  go_wp2_with fail
  -- c, f := Shl([5], 33)
  refine (shl_any _ _ _ [5] 33 _ (lit_sl w2 _ 1 _ rfl rfl _ rfl (wf1 (by omega)) (by simp)) (by omega) (by omega)).mono ?_
  rintro e w3 ⟨c0, cn, cc, rfl, hC, hB3⟩
  rw [limbs_of _ [0, 10] (wf2 (by omega) (by omega)) (by decide) (by decide)] at hC
  have HC := Lib.hid hC.sl
  have hb23 : Below w2.heap.size w2 w3 := ((Below.refl _ _).alloc (Nat.le_refl _) _).trans (hB3.mono (by simp))
  have HB3 : Hid (Below w.heap.size w w3) := HB2.out.trans (hb23.mono hs2)
  have HA3 := Lib.hid (HA2.out.below hb23)
  have HS3 := Lib.hid (HS.out.below hb23)
  have hs3 := HB3.out.size
  clear hC hB3 HB2 HA2 HS hb23
  go_wp2_with fail
  -- d, g := Shr(c, 34)
  refine (shr_any _ _ _ [0, 10] 34 _ HC.out (by omega)).mono ?_
  rintro e w4 ⟨d0, dn, dc, rfl, hD, hB4⟩
  rw [limbs_of _ [2] (wf1 (by omega)) (by decide) (by decide)] at hD
  have HD := Lib.hid hD.sl
  have HB4 : Hid (Below w.heap.size w w4) := HB3.out.trans (hB4.mono hs3)
  have HA4 := Lib.hid (HA3.out.below hB4)
  have HS4 := Lib.hid (HS3.out.below hB4)
  have HC4 := Lib.hid (HC.out.below hB4)
  have hs4 := HB4.out.size
  clear hD hB4 HB3 HA3 HS3 HC
  go_wp2_with fail
  -- Same(a, [0, 1])
  refine (same_b _ _ _ _ _ _ [0, 1] [0, 1] _ (HA4.out.alloc _) (lit_sl w4 _ 2 _ rfl rfl _ rfl (wf2 (by omega) (by omega)) (by simp)) rfl).mono ?_
  rintro e w5 ⟨rfl, hB5⟩
  have hb5 := Lib.hid (step_alloc hB5)
  have HS5 := Lib.hid (HS4.out.below hb5.out)
  have HC5 := Lib.hid (HC4.out.below hb5.out)
  have HD5 := Lib.hid (HD.out.below hb5.out)
  have HB5 := Lib.hid (Below.steps HB4.out hb5.out)
  clear hB5 hb5 HB4 HS4 HC4 HD
  go_wp2_with fail
  refine (same_b _ _ _ _ _ _ [4294967295] [4294967295] _ (HS5.out.alloc _) (lit_sl w5 _ 1 _ rfl rfl _ rfl (wf1 (by omega)) (by simp)) rfl).mono ?_
  rintro e w6 ⟨rfl, hB6⟩
  have hb6 := Lib.hid (step_alloc hB6)
  have HC6 := Lib.hid (HC5.out.below hb6.out)
  have HD6 := Lib.hid (HD5.out.below hb6.out)
  have HB6 := Lib.hid (Below.steps HB5.out hb6.out)
  clear hB6 hb6 HB5 HS5 HC5 HD5
  go_wp2_with fail
  refine (same_b _ _ _ _ _ _ [0, 10] [0, 10] _ (HC6.out.alloc _) (lit_sl w6 _ 2 _ rfl rfl _ rfl (wf2 (by omega) (by omega)) (by simp)) rfl).mono ?_
  rintro e w7 ⟨rfl, hB7⟩
  have hb7 := Lib.hid (step_alloc hB7)
  have HD7 := Lib.hid (HD6.out.below hb7.out)
  have HB7 := Lib.hid (Below.steps HB6.out hb7.out)
  clear hB7 hb7 HB6 HC6 HD6
  go_wp2_with fail
  refine (same_b _ _ _ _ _ _ [2] [2] _ (HD7.out.alloc _) (lit_sl w7 _ 1 _ rfl rfl _ rfl (wf1 (by omega)) (by simp)) rfl).mono ?_
  rintro e w8 ⟨rfl, hB8⟩
  have hb8 := Lib.hid (step_alloc hB8)
  have HB8 := Lib.hid (Below.steps HB7.out hb8.out)
  clear hB8 hb8 HB7 HD7
  go_wp2_with fail
  refine (cmp_b 0 _ _ _ _ _ _ [1, 0] [1] _ ((lit_sl w8 _ 2 _ rfl rfl _ rfl (wf2 (by omega) (by omega)) (by simp)).alloc _) (lit_sl _ _ 1 _ (by simp) rfl _ rfl (wf1 (by omega)) (by simp)) (show _ = _ by decide)).mono ?_
  rintro e w9 ⟨rfl, hB9⟩
  have HB9 := Lib.hid (Below.steps HB8.out (step_alloc (step_alloc hB9)))
  clear hB9 HB8
  go_wp2_with fail
  go_ret
  exact ⟨rfl, HB9.out⟩

end Go.Proofs.Ytkopkmbijmofjaa

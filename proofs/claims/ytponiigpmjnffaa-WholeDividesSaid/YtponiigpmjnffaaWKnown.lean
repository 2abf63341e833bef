/-
  The contract of porismlaw04.known: true.
-/
import Derived.Test.YtponiigpmjnffaaWOfI
import Derived.Test.YtponiigpmjnffaaWDiv
import Derived.Test.YtponiigpmjnffaaWGcd
import Derived.Test.YtponiigpmjnffaaWPow
import Derived.Test.YtponiigpmjnffaaWZSame
import Derived.Test.YtponiigpmjnffaaWCmp
import Derived.Deep.Cut
set_option maxRecDepth 8192
namespace Go.Proofs.Ytponiigpmjnffaa
open Go.RowKit

theorem wpow_at {Ni : Int} (N : Nat) (hNi : Ni = (N : Int)) {m : Bool} {ao : Option Addr} {n cap : Nat} {x : Int} {w : World} (hx : Nx w m ao n cap x) (hN : N ≤ 1000) :
    Calls Try.prog 35 #[.agg #[.bool m, .slice ao n cap], .int .i64 Ni] w (NewIE w (x ^ N) 0) := by
  subst hNi; exact wpow_any N hx hN

set_option maxHeartbeats 40000000 in
set_option maxRecDepth 100000 in
theorem known4_any (w : World) : Calls Try.prog 10 #[] w (RetB (.bool true) w) := by
  have HB0 := Lib.hid (Below.refl w.heap.size w)
  have HK0 := Lib.hid (Live.nil w)
  go_enter Try.func10, Try.ntmps10
  go_wp2_with fail
  have bd_a : Bd ((-7 : Int)) 1 := by unfold Bd; decide
  refine (wof_any (-7) _ ⟨by omega, by omega⟩).mono ?_
  rintro e w1 ⟨a_m, a_0, a_n, a_c, rfl, hX, hB⟩
  have HK1 := Lib.hid (Live.add_can (hX.cx bd_a (by omega)) (HK0.out.below hB))
  have HB1 := Lib.hid (Below.steps HB0.out hB)
  clear HK0 HB0 hX hB
  go_wp2_with fail
  have bd_b : Bd ((2 : Int)) 1 := by unfold Bd; decide
  refine (wof_any (2) _ ⟨by omega, by omega⟩).mono ?_
  rintro e w2 ⟨b_m, b_0, b_n, b_c, rfl, hX, hB⟩
  have HK2 := Lib.hid (Live.add_can (hX.cx bd_b (by omega)) (HK1.out.below hB))
  have HB2 := Lib.hid (Below.steps HB1.out hB)
  clear HK1 HB1 hX hB
  go_wp2_with fail
  have bd_q : Bd ((-3 : Int)) 1 := by unfold Bd; decide
  have bd_r : Bd ((-1 : Int)) 1 := by unfold Bd; decide
  refine (wdivmod_any HK2.out.tail.can.nx HK2.out.can.nx (by decide)).mono ?_
  rintro e w3 ⟨qm, q0, qn, qc, rm, r0, rn, rc, rfl, hQ, hR, hB⟩
  rw [show (-7 : Int).tdiv 2 = -3 from by decide] at hQ
  rw [show (-7 : Int).tmod 2 = -1 from by decide] at hR
  have HK3 := Lib.hid (Live.add_can (hQ.cx bd_q (by omega)) (Live.add_can (hR.cx bd_r (by omega)) (HK2.out.below hB)))
  have HB3 := Lib.hid (Below.steps HB2.out hB)
  clear HK2 HB2 hQ hR hB
  go_wp2_with fail
  have bd_c : Bd ((-2 : Int)) 1 := by unfold Bd; decide
  refine (wof_any (-2) _ ⟨by omega, by omega⟩).mono ?_
  rintro e w4 ⟨c_m, c_0, c_n, c_c, rfl, hX, hB⟩
  have HK4 := Lib.hid (Live.add_can (hX.cx bd_c (by omega)) (Live.add_box (((Box.new w3 w3.heap.size qm q0 qn qc _ rfl).below (below_alloc _ _)).below hB) (Live.add_box ((Box.new _ (w3.heap.size + 1) rm r0 rn rc _ (by simp)).below hB) (HK3.out.below (step_alloc (step_alloc hB))))))
  have HB4 := Lib.hid (Below.steps HB3.out (step_alloc (step_alloc hB)))
  clear HK3 HB3 hX hB
  go_wp2_with fail
  have bd_p : Bd ((-8 : Int)) 1 := by unfold Bd; decide
  refine (wpow_at (Ni := 3) 3 rfl HK4.out.can.nx (by omega)).mono ?_
  rintro e w5 ⟨pm, p0, pn, pc, rfl, hP, hB⟩
  rw [show (-2 : Int) ^ 3 = -8 from by decide] at hP
  have HK5 := Lib.hid (Live.add_can (hP.cx bd_p (by omega)) (HK4.out.below hB))
  have HB5 := Lib.hid (Below.steps HB4.out hB)
  clear HK4 HB4 hP hB
  go_upto_region 3 with (fail)
  refine wp_world (fun W hW => ?_)
  have HK6 := Lib.hid (Live.add_box (Box.new w5 w5.heap.size pm p0 pn pc 24 rfl) (HK5.out.below (below_alloc w5 (.cells #[.bool pm, .slice p0 pn pc] 24))))
  rw [← hW] at HK6
  have HB6 : Hid (Below w.heap.size w W) := by rw [hW]; exact Below.steps HB5.out (below_alloc _ _)
  clear hW HK5 HB5
  have bq_c0 := HK6.out.tail.tail.tail.box.c0
  have bq_c1 := HK6.out.tail.tail.tail.box.c1
  have bq_f0 := HK6.out.tail.tail.tail.box.f0
  have bq_f1 := HK6.out.tail.tail.tail.box.f1
  have br_c0 := HK6.out.tail.tail.tail.tail.box.c0
  have br_c1 := HK6.out.tail.tail.tail.tail.box.c1
  have br_f0 := HK6.out.tail.tail.tail.tail.box.f0
  have br_f1 := HK6.out.tail.tail.tail.tail.box.f1
  have bp_c0 := HK6.out.box.c0
  have bp_c1 := HK6.out.box.c1
  have bp_f0 := HK6.out.box.f0
  have bp_f1 := HK6.out.box.f1
  have bd_d : Bd ((-7 : Int)) 1 := by unfold Bd; decide
  have EQ1 := Lib.hid (show ((-7 : Int) : Int).sign = -1 from by decide)
  have bd_e : Bd ((-3 : Int)) 1 := by unfold Bd; decide
  have bd_f : Bd ((-1 : Int)) 1 := by unfold Bd; decide
  have bd_g : Bd ((-8 : Int)) 1 := by unfold Bd; decide
  have bd_h : Bd ((-12 : Int)) 1 := by unfold Bd; decide
  have bd_i : Bd ((18 : Int)) 1 := by unfold Bd; decide
  have bd_j : Bd ((6 : Int)) 1 := by unfold Bd; decide
  have bd_l : Bd ((6 : Int)) 1 := by unfold Bd; decide
  have bd_m : Bd ((0 : Int)) 1 := by unfold Bd; decide
  have bd_n : Bd ((-5 : Int)) 1 := by unfold Bd; decide
  have bd_u : Bd ((5 : Int)) 1 := by unfold Bd; decide
  have bd_v : Bd ((5 : Int)) 1 := by unfold Bd; decide
  have HK6d := Lib.hid (HK6.out.below ((Below.refl _ _).drew))
  have HB6d := Lib.hid HB6.out.drew
  clear bq_c0 bq_c1 bq_f0 bq_f1 br_c0 br_c1 br_f0 br_f1 bp_c0 bp_c1 bp_f0 bp_f1
  clear HK6 HB6
  have HK6 := Lib.hid HK6d.out
  have HB6 := Lib.hid HB6d.out
  clear HK6d HB6d
  have bq_c0 := HK6.out.tail.tail.tail.box.c0
  have bq_c1 := HK6.out.tail.tail.tail.box.c1
  have bq_f0 := HK6.out.tail.tail.tail.box.f0
  have bq_f1 := HK6.out.tail.tail.tail.box.f1
  have br_c0 := HK6.out.tail.tail.tail.tail.box.c0
  have br_c1 := HK6.out.tail.tail.tail.tail.box.c1
  have br_f0 := HK6.out.tail.tail.tail.tail.box.f0
  have br_f1 := HK6.out.tail.tail.tail.tail.box.f1
  have bp_c0 := HK6.out.box.c0
  have bp_c1 := HK6.out.box.c1
  have bp_f0 := HK6.out.box.f0
  have bp_f1 := HK6.out.box.f1
  refine wp_region_held_drew (S := fun w' => w'.cell? ⟨w3.heap.size, 0, none⟩ = some (.bool qm) ∧ w'.cell? ⟨w3.heap.size, 1, none⟩ = some (.slice q0 qn qc) ∧ w'.cell? ⟨(w3.heap.size + 1), 0, none⟩ = some (.bool rm) ∧ w'.cell? ⟨(w3.heap.size + 1), 1, none⟩ = some (.slice r0 rn rc) ∧ w'.cell? ⟨w5.heap.size, 0, none⟩ = some (.bool pm) ∧ w'.cell? ⟨w5.heap.size, 1, none⟩ = some (.slice p0 pn pc)) (by kernel_rfl) (And.intro HK6.out.tail.tail.tail.box.c0 (And.intro HK6.out.tail.tail.tail.box.c1 (And.intro HK6.out.tail.tail.tail.tail.box.c0 (And.intro HK6.out.tail.tail.tail.tail.box.c1 (And.intro HK6.out.box.c0 (HK6.out.box.c1)))))) (fun hHeld => ?_)
  refine step_on 0 rfl (by kernel_rfl) (fun _ _ _ h => h) (by rfl) hHeld (by intro w hSw; first | (go_simp; done) | (go_simp; with_reducible rfl)) ?_
  try simp only [Act.put, List.setIfInBounds_toArray, List.set_cons_zero, List.set_cons_succ]
  refine step_on 1 rfl (by kernel_rfl) (fun _ _ _ h => h) (by rfl) hHeld (by intro w hSw; first | (go_simp; done) | (go_simp; with_reducible rfl)) ?_
  try simp only [Act.put, List.setIfInBounds_toArray, List.set_cons_zero, List.set_cons_succ]
  refine step_on 2 rfl (by kernel_rfl) (fun _ _ _ h => h) (by rfl) hHeld (by intro w hSw; first | (go_simp; done) | (go_simp; with_reducible rfl)) ?_
  try simp only [Act.put, List.setIfInBounds_toArray, List.set_cons_zero, List.set_cons_succ]
  refine step_on 3 rfl (by kernel_rfl) (fun _ _ _ h => h) (by rfl) hHeld (by intro w hSw; first | (go_simp; done) | (go_simp; with_reducible rfl)) ?_
  try simp only [Act.put, List.setIfInBounds_toArray, List.set_cons_zero, List.set_cons_succ]
  refine step_on 4 rfl (by kernel_rfl) (fun _ _ _ h => h) (by rfl) hHeld (by intro w hSw; first | (go_simp; done) | (go_simp; with_reducible rfl)) ?_
  try simp only [Act.put, List.setIfInBounds_toArray, List.set_cons_zero, List.set_cons_succ]
  refine step_on 5 rfl (by kernel_rfl) (fun _ _ _ h => h) (by rfl) hHeld (by intro w hSw; first | (go_simp; done) | (go_simp; with_reducible rfl)) ?_
  try simp only [Act.put, List.setIfInBounds_toArray, List.set_cons_zero, List.set_cons_succ]
  refine step_on 6 rfl (by kernel_rfl) (fun _ _ _ h => h) (by rfl) hHeld (by intro w hSw; first | (go_simp; done) | (go_simp; with_reducible rfl)) ?_
  try simp only [Act.put, List.setIfInBounds_toArray, List.set_cons_zero, List.set_cons_succ]
  refine step_one 7 rfl (by kernel_rfl) (fun K hK => ?_)
  go_simp
  refine (wof_any (-7) _ ⟨by omega, by omega⟩).mono ?_
  rintro e w7 ⟨d_m, d_0, d_n, d_c, rfl, hX, hB⟩
  have HK7 := Lib.hid (Live.add_can (hX.cx bd_d (by omega)) (HK6.out.below hB))
  have HB7 := Lib.hid (Below.steps HB6.out hB)
  clear bq_c0 bq_c1 bq_f0 bq_f1 br_c0 br_c1 br_f0 br_f1 bp_c0 bp_c1 bp_f0 bp_f1
  clear HK6 HB6 hX hB
  have bq_c0 := HK7.out.tail.tail.tail.tail.box.c0
  have bq_c1 := HK7.out.tail.tail.tail.tail.box.c1
  have bq_f0 := HK7.out.tail.tail.tail.tail.box.f0
  have bq_f1 := HK7.out.tail.tail.tail.tail.box.f1
  have br_c0 := HK7.out.tail.tail.tail.tail.tail.box.c0
  have br_c1 := HK7.out.tail.tail.tail.tail.tail.box.c1
  have br_f0 := HK7.out.tail.tail.tail.tail.tail.box.f0
  have br_f1 := HK7.out.tail.tail.tail.tail.tail.box.f1
  have bp_c0 := HK7.out.tail.box.c0
  have bp_c1 := HK7.out.tail.box.c1
  have bp_f0 := HK7.out.tail.box.f0
  have bp_f1 := HK7.out.tail.box.f1
  go_wp2_with fail
  refine hK.out _ _ (And.intro HK7.out.tail.tail.tail.tail.box.c0 (And.intro HK7.out.tail.tail.tail.tail.box.c1 (And.intro HK7.out.tail.tail.tail.tail.tail.box.c0 (And.intro HK7.out.tail.tail.tail.tail.tail.box.c1 (And.intro HK7.out.tail.box.c0 (HK7.out.tail.box.c1)))))) (fun hHeld2 => ?_)
  clear hK K hHeld
  have hHeld := hHeld2
  clear hHeld2
  try simp only [Act.put, List.setIfInBounds_toArray, List.set_cons_zero, List.set_cons_succ]
  refine step_one 8 rfl (by kernel_rfl) (fun K hK => ?_)
  go_simp
  refine (wsign_is (-1) HK7.out.can.nx EQ1.out).mono ?_
  rintro e w8 ⟨rfl, hB⟩
  have HK8 := Lib.hid (HK7.out.below hB)
  have HB8 := Lib.hid (Below.steps HB7.out hB)
  clear bq_c0 bq_c1 bq_f0 bq_f1 br_c0 br_c1 br_f0 br_f1 bp_c0 bp_c1 bp_f0 bp_f1
  clear HK7 HB7 hB
  have bq_c0 := HK8.out.tail.tail.tail.tail.box.c0
  have bq_c1 := HK8.out.tail.tail.tail.tail.box.c1
  have bq_f0 := HK8.out.tail.tail.tail.tail.box.f0
  have bq_f1 := HK8.out.tail.tail.tail.tail.box.f1
  have br_c0 := HK8.out.tail.tail.tail.tail.tail.box.c0
  have br_c1 := HK8.out.tail.tail.tail.tail.tail.box.c1
  have br_f0 := HK8.out.tail.tail.tail.tail.tail.box.f0
  have br_f1 := HK8.out.tail.tail.tail.tail.tail.box.f1
  have bp_c0 := HK8.out.tail.box.c0
  have bp_c1 := HK8.out.tail.box.c1
  have bp_f0 := HK8.out.tail.box.f0
  have bp_f1 := HK8.out.tail.box.f1
  go_wp2_with fail
  refine hK.out _ _ (And.intro HK8.out.tail.tail.tail.tail.box.c0 (And.intro HK8.out.tail.tail.tail.tail.box.c1 (And.intro HK8.out.tail.tail.tail.tail.tail.box.c0 (And.intro HK8.out.tail.tail.tail.tail.tail.box.c1 (And.intro HK8.out.tail.box.c0 (HK8.out.tail.box.c1)))))) (fun hHeld2 => ?_)
  clear hK K hHeld
  have hHeld := hHeld2
  clear hHeld2
  try simp only [Act.put, List.setIfInBounds_toArray, List.set_cons_zero, List.set_cons_succ]
  refine step_on 9 rfl (by kernel_rfl) (fun _ _ _ h => h) (by rfl) hHeld (by intro w hSw; first | (go_simp; done) | (go_simp; with_reducible rfl)) ?_
  try simp only [Act.put, List.setIfInBounds_toArray, List.set_cons_zero, List.set_cons_succ]
  refine step_on 10 rfl (by kernel_rfl) (fun _ _ _ h => h) (by rfl) hHeld (by intro w hSw; first | (go_simp; done) | (go_simp; with_reducible rfl)) ?_
  try simp only [Act.put, List.setIfInBounds_toArray, List.set_cons_zero, List.set_cons_succ]
  refine step_on 11 rfl (by kernel_rfl) (fun _ _ _ h => h) (by rfl) hHeld (by intro w hSw; first | (go_simp; done) | (go_simp; with_reducible rfl)) ?_
  try simp only [Act.put, List.setIfInBounds_toArray, List.set_cons_zero, List.set_cons_succ]
  refine step_on 12 rfl (by kernel_rfl) (fun _ _ _ h => h) (by rfl) hHeld (by intro w hSw; first | (go_simp; done) | (go_simp; with_reducible rfl)) ?_
  try simp only [Act.put, List.setIfInBounds_toArray, List.set_cons_zero, List.set_cons_succ]
  refine step_one 13 rfl (by kernel_rfl) (fun K hK => ?_)
  go_simp
  refine (wof_any (-3) _ ⟨by omega, by omega⟩).mono ?_
  rintro e w9 ⟨e_m, e_0, e_n, e_c, rfl, hX, hB⟩
  have HK9 := Lib.hid (Live.add_can (hX.cx bd_e (by omega)) (HK8.out.below hB))
  have HB9 := Lib.hid (Below.steps HB8.out hB)
  clear bq_c0 bq_c1 bq_f0 bq_f1 br_c0 br_c1 br_f0 br_f1 bp_c0 bp_c1 bp_f0 bp_f1
  clear HK8 HB8 hX hB
  have bq_c0 := HK9.out.tail.tail.tail.tail.tail.box.c0
  have bq_c1 := HK9.out.tail.tail.tail.tail.tail.box.c1
  have bq_f0 := HK9.out.tail.tail.tail.tail.tail.box.f0
  have bq_f1 := HK9.out.tail.tail.tail.tail.tail.box.f1
  have br_c0 := HK9.out.tail.tail.tail.tail.tail.tail.box.c0
  have br_c1 := HK9.out.tail.tail.tail.tail.tail.tail.box.c1
  have br_f0 := HK9.out.tail.tail.tail.tail.tail.tail.box.f0
  have br_f1 := HK9.out.tail.tail.tail.tail.tail.tail.box.f1
  have bp_c0 := HK9.out.tail.tail.box.c0
  have bp_c1 := HK9.out.tail.tail.box.c1
  have bp_f0 := HK9.out.tail.tail.box.f0
  have bp_f1 := HK9.out.tail.tail.box.f1
  go_wp2_with fail
  refine hK.out _ _ (And.intro HK9.out.tail.tail.tail.tail.tail.box.c0 (And.intro HK9.out.tail.tail.tail.tail.tail.box.c1 (And.intro HK9.out.tail.tail.tail.tail.tail.tail.box.c0 (And.intro HK9.out.tail.tail.tail.tail.tail.tail.box.c1 (And.intro HK9.out.tail.tail.box.c0 (HK9.out.tail.tail.box.c1)))))) (fun hHeld2 => ?_)
  clear hK K hHeld
  have hHeld := hHeld2
  clear hHeld2
  try simp only [Act.put, List.setIfInBounds_toArray, List.set_cons_zero, List.set_cons_succ]
  refine step_one 14 rfl (by kernel_rfl) (fun K hK => ?_)
  go_simp
  refine (zsame HK9.out.tail.tail.tail.tail.tail.tail.tail.can HK9.out.can rfl).mono ?_
  rintro e w10 ⟨rfl, hB⟩
  have HK10 := Lib.hid (HK9.out.below hB)
  have HB10 := Lib.hid (Below.steps HB9.out hB)
  clear bq_c0 bq_c1 bq_f0 bq_f1 br_c0 br_c1 br_f0 br_f1 bp_c0 bp_c1 bp_f0 bp_f1
  clear HK9 HB9 hB
  have bq_c0 := HK10.out.tail.tail.tail.tail.tail.box.c0
  have bq_c1 := HK10.out.tail.tail.tail.tail.tail.box.c1
  have bq_f0 := HK10.out.tail.tail.tail.tail.tail.box.f0
  have bq_f1 := HK10.out.tail.tail.tail.tail.tail.box.f1
  have br_c0 := HK10.out.tail.tail.tail.tail.tail.tail.box.c0
  have br_c1 := HK10.out.tail.tail.tail.tail.tail.tail.box.c1
  have br_f0 := HK10.out.tail.tail.tail.tail.tail.tail.box.f0
  have br_f1 := HK10.out.tail.tail.tail.tail.tail.tail.box.f1
  have bp_c0 := HK10.out.tail.tail.box.c0
  have bp_c1 := HK10.out.tail.tail.box.c1
  have bp_f0 := HK10.out.tail.tail.box.f0
  have bp_f1 := HK10.out.tail.tail.box.f1
  go_wp2_with fail
  refine hK.out _ _ (And.intro HK10.out.tail.tail.tail.tail.tail.box.c0 (And.intro HK10.out.tail.tail.tail.tail.tail.box.c1 (And.intro HK10.out.tail.tail.tail.tail.tail.tail.box.c0 (And.intro HK10.out.tail.tail.tail.tail.tail.tail.box.c1 (And.intro HK10.out.tail.tail.box.c0 (HK10.out.tail.tail.box.c1)))))) (fun hHeld2 => ?_)
  clear hK K hHeld
  have hHeld := hHeld2
  clear hHeld2
  try simp only [Act.put, List.setIfInBounds_toArray, List.set_cons_zero, List.set_cons_succ]
  refine step_on 15 rfl (by kernel_rfl) (fun _ _ _ h => h) (by rfl) hHeld (by intro w hSw; first | (go_simp; done) | (go_simp; with_reducible rfl)) ?_
  try simp only [Act.put, List.setIfInBounds_toArray, List.set_cons_zero, List.set_cons_succ]
  refine step_on 16 rfl (by kernel_rfl) (fun _ _ _ h => h) (by rfl) hHeld (by intro w hSw; first | (go_simp; done) | (go_simp; with_reducible rfl)) ?_
  try simp only [Act.put, List.setIfInBounds_toArray, List.set_cons_zero, List.set_cons_succ]
  refine step_on 17 rfl (by kernel_rfl) (fun _ _ _ h => h) (by rfl) hHeld (by intro w hSw; first | (go_simp; done) | (go_simp; with_reducible rfl)) ?_
  try simp only [Act.put, List.setIfInBounds_toArray, List.set_cons_zero, List.set_cons_succ]
  refine step_one 18 rfl (by kernel_rfl) (fun K hK => ?_)
  go_simp
  refine (wof_any (-1) _ ⟨by omega, by omega⟩).mono ?_
  rintro e w11 ⟨f_m, f_0, f_n, f_c, rfl, hX, hB⟩
  have HK11 := Lib.hid (Live.add_can (hX.cx bd_f (by omega)) (HK10.out.below hB))
  have HB11 := Lib.hid (Below.steps HB10.out hB)
  clear bq_c0 bq_c1 bq_f0 bq_f1 br_c0 br_c1 br_f0 br_f1 bp_c0 bp_c1 bp_f0 bp_f1
  clear HK10 HB10 hX hB
  have bq_c0 := HK11.out.tail.tail.tail.tail.tail.tail.box.c0
  have bq_c1 := HK11.out.tail.tail.tail.tail.tail.tail.box.c1
  have bq_f0 := HK11.out.tail.tail.tail.tail.tail.tail.box.f0
  have bq_f1 := HK11.out.tail.tail.tail.tail.tail.tail.box.f1
  have br_c0 := HK11.out.tail.tail.tail.tail.tail.tail.tail.box.c0
  have br_c1 := HK11.out.tail.tail.tail.tail.tail.tail.tail.box.c1
  have br_f0 := HK11.out.tail.tail.tail.tail.tail.tail.tail.box.f0
  have br_f1 := HK11.out.tail.tail.tail.tail.tail.tail.tail.box.f1
  have bp_c0 := HK11.out.tail.tail.tail.box.c0
  have bp_c1 := HK11.out.tail.tail.tail.box.c1
  have bp_f0 := HK11.out.tail.tail.tail.box.f0
  have bp_f1 := HK11.out.tail.tail.tail.box.f1
  go_wp2_with fail
  refine hK.out _ _ (And.intro HK11.out.tail.tail.tail.tail.tail.tail.box.c0 (And.intro HK11.out.tail.tail.tail.tail.tail.tail.box.c1 (And.intro HK11.out.tail.tail.tail.tail.tail.tail.tail.box.c0 (And.intro HK11.out.tail.tail.tail.tail.tail.tail.tail.box.c1 (And.intro HK11.out.tail.tail.tail.box.c0 (HK11.out.tail.tail.tail.box.c1)))))) (fun hHeld2 => ?_)
  clear hK K hHeld
  have hHeld := hHeld2
  clear hHeld2
  try simp only [Act.put, List.setIfInBounds_toArray, List.set_cons_zero, List.set_cons_succ]
  refine step_one 19 rfl (by kernel_rfl) (fun K hK => ?_)
  go_simp
  refine (zsame HK11.out.tail.tail.tail.tail.tail.tail.tail.tail.tail.can HK11.out.can rfl).mono ?_
  rintro e w12 ⟨rfl, hB⟩
  have HK12 := Lib.hid (HK11.out.below hB)
  have HB12 := Lib.hid (Below.steps HB11.out hB)
  clear bq_c0 bq_c1 bq_f0 bq_f1 br_c0 br_c1 br_f0 br_f1 bp_c0 bp_c1 bp_f0 bp_f1
  clear HK11 HB11 hB
  have bq_c0 := HK12.out.tail.tail.tail.tail.tail.tail.box.c0
  have bq_c1 := HK12.out.tail.tail.tail.tail.tail.tail.box.c1
  have bq_f0 := HK12.out.tail.tail.tail.tail.tail.tail.box.f0
  have bq_f1 := HK12.out.tail.tail.tail.tail.tail.tail.box.f1
  have br_c0 := HK12.out.tail.tail.tail.tail.tail.tail.tail.box.c0
  have br_c1 := HK12.out.tail.tail.tail.tail.tail.tail.tail.box.c1
  have br_f0 := HK12.out.tail.tail.tail.tail.tail.tail.tail.box.f0
  have br_f1 := HK12.out.tail.tail.tail.tail.tail.tail.tail.box.f1
  have bp_c0 := HK12.out.tail.tail.tail.box.c0
  have bp_c1 := HK12.out.tail.tail.tail.box.c1
  have bp_f0 := HK12.out.tail.tail.tail.box.f0
  have bp_f1 := HK12.out.tail.tail.tail.box.f1
  go_wp2_with fail
  refine hK.out _ _ (And.intro HK12.out.tail.tail.tail.tail.tail.tail.box.c0 (And.intro HK12.out.tail.tail.tail.tail.tail.tail.box.c1 (And.intro HK12.out.tail.tail.tail.tail.tail.tail.tail.box.c0 (And.intro HK12.out.tail.tail.tail.tail.tail.tail.tail.box.c1 (And.intro HK12.out.tail.tail.tail.box.c0 (HK12.out.tail.tail.tail.box.c1)))))) (fun hHeld2 => ?_)
  clear hK K hHeld
  have hHeld := hHeld2
  clear hHeld2
  try simp only [Act.put, List.setIfInBounds_toArray, List.set_cons_zero, List.set_cons_succ]
  refine step_on 20 rfl (by kernel_rfl) (fun _ _ _ h => h) (by rfl) hHeld (by intro w hSw; first | (go_simp; done) | (go_simp; with_reducible rfl)) ?_
  try simp only [Act.put, List.setIfInBounds_toArray, List.set_cons_zero, List.set_cons_succ]
  refine step_on 21 rfl (by kernel_rfl) (fun _ _ _ h => h) (by rfl) hHeld (by intro w hSw; first | (go_simp; done) | (go_simp; with_reducible rfl)) ?_
  try simp only [Act.put, List.setIfInBounds_toArray, List.set_cons_zero, List.set_cons_succ]
  refine step_on 22 rfl (by kernel_rfl) (fun _ _ _ h => h) (by rfl) hHeld (by intro w hSw; first | (go_simp; done) | (go_simp; with_reducible rfl)) ?_
  try simp only [Act.put, List.setIfInBounds_toArray, List.set_cons_zero, List.set_cons_succ]
  refine step_one 23 rfl (by kernel_rfl) (fun K hK => ?_)
  go_simp
  refine (wof_any (-8) _ ⟨by omega, by omega⟩).mono ?_
  rintro e w13 ⟨g_m, g_0, g_n, g_c, rfl, hX, hB⟩
  have HK13 := Lib.hid (Live.add_can (hX.cx bd_g (by omega)) (HK12.out.below hB))
  have HB13 := Lib.hid (Below.steps HB12.out hB)
  clear bq_c0 bq_c1 bq_f0 bq_f1 br_c0 br_c1 br_f0 br_f1 bp_c0 bp_c1 bp_f0 bp_f1
  clear HK12 HB12 hX hB
  have bq_c0 := HK13.out.tail.tail.tail.tail.tail.tail.tail.box.c0
  have bq_c1 := HK13.out.tail.tail.tail.tail.tail.tail.tail.box.c1
  have bq_f0 := HK13.out.tail.tail.tail.tail.tail.tail.tail.box.f0
  have bq_f1 := HK13.out.tail.tail.tail.tail.tail.tail.tail.box.f1
  have br_c0 := HK13.out.tail.tail.tail.tail.tail.tail.tail.tail.box.c0
  have br_c1 := HK13.out.tail.tail.tail.tail.tail.tail.tail.tail.box.c1
  have br_f0 := HK13.out.tail.tail.tail.tail.tail.tail.tail.tail.box.f0
  have br_f1 := HK13.out.tail.tail.tail.tail.tail.tail.tail.tail.box.f1
  have bp_c0 := HK13.out.tail.tail.tail.tail.box.c0
  have bp_c1 := HK13.out.tail.tail.tail.tail.box.c1
  have bp_f0 := HK13.out.tail.tail.tail.tail.box.f0
  have bp_f1 := HK13.out.tail.tail.tail.tail.box.f1
  go_wp2_with fail
  refine hK.out _ _ (And.intro HK13.out.tail.tail.tail.tail.tail.tail.tail.box.c0 (And.intro HK13.out.tail.tail.tail.tail.tail.tail.tail.box.c1 (And.intro HK13.out.tail.tail.tail.tail.tail.tail.tail.tail.box.c0 (And.intro HK13.out.tail.tail.tail.tail.tail.tail.tail.tail.box.c1 (And.intro HK13.out.tail.tail.tail.tail.box.c0 (HK13.out.tail.tail.tail.tail.box.c1)))))) (fun hHeld2 => ?_)
  clear hK K hHeld
  have hHeld := hHeld2
  clear hHeld2
  try simp only [Act.put, List.setIfInBounds_toArray, List.set_cons_zero, List.set_cons_succ]
  refine step_one 24 rfl (by kernel_rfl) (fun K hK => ?_)
  go_simp
  refine (zsame HK13.out.tail.tail.tail.tail.tail.can HK13.out.can rfl).mono ?_
  rintro e w14 ⟨rfl, hB⟩
  have HK14 := Lib.hid (HK13.out.below hB)
  have HB14 := Lib.hid (Below.steps HB13.out hB)
  clear bq_c0 bq_c1 bq_f0 bq_f1 br_c0 br_c1 br_f0 br_f1 bp_c0 bp_c1 bp_f0 bp_f1
  clear HK13 HB13 hB
  have bq_c0 := HK14.out.tail.tail.tail.tail.tail.tail.tail.box.c0
  have bq_c1 := HK14.out.tail.tail.tail.tail.tail.tail.tail.box.c1
  have bq_f0 := HK14.out.tail.tail.tail.tail.tail.tail.tail.box.f0
  have bq_f1 := HK14.out.tail.tail.tail.tail.tail.tail.tail.box.f1
  have br_c0 := HK14.out.tail.tail.tail.tail.tail.tail.tail.tail.box.c0
  have br_c1 := HK14.out.tail.tail.tail.tail.tail.tail.tail.tail.box.c1
  have br_f0 := HK14.out.tail.tail.tail.tail.tail.tail.tail.tail.box.f0
  have br_f1 := HK14.out.tail.tail.tail.tail.tail.tail.tail.tail.box.f1
  have bp_c0 := HK14.out.tail.tail.tail.tail.box.c0
  have bp_c1 := HK14.out.tail.tail.tail.tail.box.c1
  have bp_f0 := HK14.out.tail.tail.tail.tail.box.f0
  have bp_f1 := HK14.out.tail.tail.tail.tail.box.f1
  go_wp2_with fail
  refine hK.out _ _ (And.intro HK14.out.tail.tail.tail.tail.tail.tail.tail.box.c0 (And.intro HK14.out.tail.tail.tail.tail.tail.tail.tail.box.c1 (And.intro HK14.out.tail.tail.tail.tail.tail.tail.tail.tail.box.c0 (And.intro HK14.out.tail.tail.tail.tail.tail.tail.tail.tail.box.c1 (And.intro HK14.out.tail.tail.tail.tail.box.c0 (HK14.out.tail.tail.tail.tail.box.c1)))))) (fun hHeld2 => ?_)
  clear hK K hHeld
  have hHeld := hHeld2
  clear hHeld2
  try simp only [Act.put, List.setIfInBounds_toArray, List.set_cons_zero, List.set_cons_succ]
  refine step_on 25 rfl (by kernel_rfl) (fun _ _ _ h => h) (by rfl) hHeld (by intro w hSw; first | (go_simp; done) | (go_simp; with_reducible rfl)) ?_
  try simp only [Act.put, List.setIfInBounds_toArray, List.set_cons_zero, List.set_cons_succ]
  refine step_on 26 rfl (by kernel_rfl) (fun _ _ _ h => h) (by rfl) hHeld (by intro w hSw; first | (go_simp; done) | (go_simp; with_reducible rfl)) ?_
  try simp only [Act.put, List.setIfInBounds_toArray, List.set_cons_zero, List.set_cons_succ]
  refine step_one 27 rfl (by kernel_rfl) (fun K hK => ?_)
  go_simp
  refine (wof_any (-12) _ ⟨by omega, by omega⟩).mono ?_
  rintro e w15 ⟨h_m, h_0, h_n, h_c, rfl, hX, hB⟩
  have HK15 := Lib.hid (Live.add_can (hX.cx bd_h (by omega)) (HK14.out.below hB))
  have HB15 := Lib.hid (Below.steps HB14.out hB)
  clear bq_c0 bq_c1 bq_f0 bq_f1 br_c0 br_c1 br_f0 br_f1 bp_c0 bp_c1 bp_f0 bp_f1
  clear HK14 HB14 hX hB
  have bq_c0 := HK15.out.tail.tail.tail.tail.tail.tail.tail.tail.box.c0
  have bq_c1 := HK15.out.tail.tail.tail.tail.tail.tail.tail.tail.box.c1
  have bq_f0 := HK15.out.tail.tail.tail.tail.tail.tail.tail.tail.box.f0
  have bq_f1 := HK15.out.tail.tail.tail.tail.tail.tail.tail.tail.box.f1
  have br_c0 := HK15.out.tail.tail.tail.tail.tail.tail.tail.tail.tail.box.c0
  have br_c1 := HK15.out.tail.tail.tail.tail.tail.tail.tail.tail.tail.box.c1
  have br_f0 := HK15.out.tail.tail.tail.tail.tail.tail.tail.tail.tail.box.f0
  have br_f1 := HK15.out.tail.tail.tail.tail.tail.tail.tail.tail.tail.box.f1
  have bp_c0 := HK15.out.tail.tail.tail.tail.tail.box.c0
  have bp_c1 := HK15.out.tail.tail.tail.tail.tail.box.c1
  have bp_f0 := HK15.out.tail.tail.tail.tail.tail.box.f0
  have bp_f1 := HK15.out.tail.tail.tail.tail.tail.box.f1
  go_wp2_with fail
  refine hK.out _ _ (And.intro HK15.out.tail.tail.tail.tail.tail.tail.tail.tail.box.c0 (And.intro HK15.out.tail.tail.tail.tail.tail.tail.tail.tail.box.c1 (And.intro HK15.out.tail.tail.tail.tail.tail.tail.tail.tail.tail.box.c0 (And.intro HK15.out.tail.tail.tail.tail.tail.tail.tail.tail.tail.box.c1 (And.intro HK15.out.tail.tail.tail.tail.tail.box.c0 (HK15.out.tail.tail.tail.tail.tail.box.c1)))))) (fun hHeld2 => ?_)
  clear hK K hHeld
  have hHeld := hHeld2
  clear hHeld2
  try simp only [Act.put, List.setIfInBounds_toArray, List.set_cons_zero, List.set_cons_succ]
  refine step_one 28 rfl (by kernel_rfl) (fun K hK => ?_)
  go_simp
  refine (wof_any (18) _ ⟨by omega, by omega⟩).mono ?_
  rintro e w16 ⟨i_m, i_0, i_n, i_c, rfl, hX, hB⟩
  have HK16 := Lib.hid (Live.add_can (hX.cx bd_i (by omega)) (HK15.out.below hB))
  have HB16 := Lib.hid (Below.steps HB15.out hB)
  clear bq_c0 bq_c1 bq_f0 bq_f1 br_c0 br_c1 br_f0 br_f1 bp_c0 bp_c1 bp_f0 bp_f1
  clear HK15 HB15 hX hB
  have bq_c0 := HK16.out.tail.tail.tail.tail.tail.tail.tail.tail.tail.box.c0
  have bq_c1 := HK16.out.tail.tail.tail.tail.tail.tail.tail.tail.tail.box.c1
  have bq_f0 := HK16.out.tail.tail.tail.tail.tail.tail.tail.tail.tail.box.f0
  have bq_f1 := HK16.out.tail.tail.tail.tail.tail.tail.tail.tail.tail.box.f1
  have br_c0 := HK16.out.tail.tail.tail.tail.tail.tail.tail.tail.tail.tail.box.c0
  have br_c1 := HK16.out.tail.tail.tail.tail.tail.tail.tail.tail.tail.tail.box.c1
  have br_f0 := HK16.out.tail.tail.tail.tail.tail.tail.tail.tail.tail.tail.box.f0
  have br_f1 := HK16.out.tail.tail.tail.tail.tail.tail.tail.tail.tail.tail.box.f1
  have bp_c0 := HK16.out.tail.tail.tail.tail.tail.tail.box.c0
  have bp_c1 := HK16.out.tail.tail.tail.tail.tail.tail.box.c1
  have bp_f0 := HK16.out.tail.tail.tail.tail.tail.tail.box.f0
  have bp_f1 := HK16.out.tail.tail.tail.tail.tail.tail.box.f1
  go_wp2_with fail
  refine hK.out _ _ (And.intro HK16.out.tail.tail.tail.tail.tail.tail.tail.tail.tail.box.c0 (And.intro HK16.out.tail.tail.tail.tail.tail.tail.tail.tail.tail.box.c1 (And.intro HK16.out.tail.tail.tail.tail.tail.tail.tail.tail.tail.tail.box.c0 (And.intro HK16.out.tail.tail.tail.tail.tail.tail.tail.tail.tail.tail.box.c1 (And.intro HK16.out.tail.tail.tail.tail.tail.tail.box.c0 (HK16.out.tail.tail.tail.tail.tail.tail.box.c1)))))) (fun hHeld2 => ?_)
  clear hK K hHeld
  have hHeld := hHeld2
  clear hHeld2
  try simp only [Act.put, List.setIfInBounds_toArray, List.set_cons_zero, List.set_cons_succ]
  refine step_one 29 rfl (by kernel_rfl) (fun K hK => ?_)
  go_simp
  refine (wgcd_any HK16.out.tail.can.nx HK16.out.can.nx).mono ?_
  rintro e w17 ⟨jm, j0, jn, jc, rfl, hX, hB⟩
  rw [show (((-12 : Int).gcd 18 : Nat) : Int) = 6 from by decide] at hX
  have HK17 := Lib.hid (Live.add_can (hX.cx bd_j (by omega)) (HK16.out.below hB))
  have HB17 := Lib.hid (Below.steps HB16.out hB)
  clear bq_c0 bq_c1 bq_f0 bq_f1 br_c0 br_c1 br_f0 br_f1 bp_c0 bp_c1 bp_f0 bp_f1
  clear HK16 HB16 hX hB
  have bq_c0 := HK17.out.tail.tail.tail.tail.tail.tail.tail.tail.tail.tail.box.c0
  have bq_c1 := HK17.out.tail.tail.tail.tail.tail.tail.tail.tail.tail.tail.box.c1
  have bq_f0 := HK17.out.tail.tail.tail.tail.tail.tail.tail.tail.tail.tail.box.f0
  have bq_f1 := HK17.out.tail.tail.tail.tail.tail.tail.tail.tail.tail.tail.box.f1
  have br_c0 := HK17.out.tail.tail.tail.tail.tail.tail.tail.tail.tail.tail.tail.box.c0
  have br_c1 := HK17.out.tail.tail.tail.tail.tail.tail.tail.tail.tail.tail.tail.box.c1
  have br_f0 := HK17.out.tail.tail.tail.tail.tail.tail.tail.tail.tail.tail.tail.box.f0
  have br_f1 := HK17.out.tail.tail.tail.tail.tail.tail.tail.tail.tail.tail.tail.box.f1
  have bp_c0 := HK17.out.tail.tail.tail.tail.tail.tail.tail.box.c0
  have bp_c1 := HK17.out.tail.tail.tail.tail.tail.tail.tail.box.c1
  have bp_f0 := HK17.out.tail.tail.tail.tail.tail.tail.tail.box.f0
  have bp_f1 := HK17.out.tail.tail.tail.tail.tail.tail.tail.box.f1
  go_wp2_with fail
  refine hK.out _ _ (And.intro HK17.out.tail.tail.tail.tail.tail.tail.tail.tail.tail.tail.box.c0 (And.intro HK17.out.tail.tail.tail.tail.tail.tail.tail.tail.tail.tail.box.c1 (And.intro HK17.out.tail.tail.tail.tail.tail.tail.tail.tail.tail.tail.tail.box.c0 (And.intro HK17.out.tail.tail.tail.tail.tail.tail.tail.tail.tail.tail.tail.box.c1 (And.intro HK17.out.tail.tail.tail.tail.tail.tail.tail.box.c0 (HK17.out.tail.tail.tail.tail.tail.tail.tail.box.c1)))))) (fun hHeld2 => ?_)
  clear hK K hHeld
  have hHeld := hHeld2
  clear hHeld2
  try simp only [Act.put, List.setIfInBounds_toArray, List.set_cons_zero, List.set_cons_succ]
  refine step_one 30 rfl (by kernel_rfl) (fun K hK => ?_)
  go_simp
  refine (wof_any (6) _ ⟨by omega, by omega⟩).mono ?_
  rintro e w18 ⟨l_m, l_0, l_n, l_c, rfl, hX, hB⟩
  have HK18 := Lib.hid (Live.add_can (hX.cx bd_l (by omega)) (HK17.out.below hB))
  have HB18 := Lib.hid (Below.steps HB17.out hB)
  clear bq_c0 bq_c1 bq_f0 bq_f1 br_c0 br_c1 br_f0 br_f1 bp_c0 bp_c1 bp_f0 bp_f1
  clear HK17 HB17 hX hB
  have bq_c0 := HK18.out.tail.tail.tail.tail.tail.tail.tail.tail.tail.tail.tail.box.c0
  have bq_c1 := HK18.out.tail.tail.tail.tail.tail.tail.tail.tail.tail.tail.tail.box.c1
  have bq_f0 := HK18.out.tail.tail.tail.tail.tail.tail.tail.tail.tail.tail.tail.box.f0
  have bq_f1 := HK18.out.tail.tail.tail.tail.tail.tail.tail.tail.tail.tail.tail.box.f1
  have br_c0 := HK18.out.tail.tail.tail.tail.tail.tail.tail.tail.tail.tail.tail.tail.box.c0
  have br_c1 := HK18.out.tail.tail.tail.tail.tail.tail.tail.tail.tail.tail.tail.tail.box.c1
  have br_f0 := HK18.out.tail.tail.tail.tail.tail.tail.tail.tail.tail.tail.tail.tail.box.f0
  have br_f1 := HK18.out.tail.tail.tail.tail.tail.tail.tail.tail.tail.tail.tail.tail.box.f1
  have bp_c0 := HK18.out.tail.tail.tail.tail.tail.tail.tail.tail.box.c0
  have bp_c1 := HK18.out.tail.tail.tail.tail.tail.tail.tail.tail.box.c1
  have bp_f0 := HK18.out.tail.tail.tail.tail.tail.tail.tail.tail.box.f0
  have bp_f1 := HK18.out.tail.tail.tail.tail.tail.tail.tail.tail.box.f1
  go_wp2_with fail
  refine hK.out _ _ (And.intro HK18.out.tail.tail.tail.tail.tail.tail.tail.tail.tail.tail.tail.box.c0 (And.intro HK18.out.tail.tail.tail.tail.tail.tail.tail.tail.tail.tail.tail.box.c1 (And.intro HK18.out.tail.tail.tail.tail.tail.tail.tail.tail.tail.tail.tail.tail.box.c0 (And.intro HK18.out.tail.tail.tail.tail.tail.tail.tail.tail.tail.tail.tail.tail.box.c1 (And.intro HK18.out.tail.tail.tail.tail.tail.tail.tail.tail.box.c0 (HK18.out.tail.tail.tail.tail.tail.tail.tail.tail.box.c1)))))) (fun hHeld2 => ?_)
  clear hK K hHeld
  have hHeld := hHeld2
  clear hHeld2
  try simp only [Act.put, List.setIfInBounds_toArray, List.set_cons_zero, List.set_cons_succ]
  refine step_one 31 rfl (by kernel_rfl) (fun K hK => ?_)
  go_simp
  refine (zsame HK18.out.tail.can HK18.out.can rfl).mono ?_
  rintro e w19 ⟨rfl, hB⟩
  have HK19 := Lib.hid (HK18.out.below hB)
  have HB19 := Lib.hid (Below.steps HB18.out hB)
  clear bq_c0 bq_c1 bq_f0 bq_f1 br_c0 br_c1 br_f0 br_f1 bp_c0 bp_c1 bp_f0 bp_f1
  clear HK18 HB18 hB
  have bq_c0 := HK19.out.tail.tail.tail.tail.tail.tail.tail.tail.tail.tail.tail.box.c0
  have bq_c1 := HK19.out.tail.tail.tail.tail.tail.tail.tail.tail.tail.tail.tail.box.c1
  have bq_f0 := HK19.out.tail.tail.tail.tail.tail.tail.tail.tail.tail.tail.tail.box.f0
  have bq_f1 := HK19.out.tail.tail.tail.tail.tail.tail.tail.tail.tail.tail.tail.box.f1
  have br_c0 := HK19.out.tail.tail.tail.tail.tail.tail.tail.tail.tail.tail.tail.tail.box.c0
  have br_c1 := HK19.out.tail.tail.tail.tail.tail.tail.tail.tail.tail.tail.tail.tail.box.c1
  have br_f0 := HK19.out.tail.tail.tail.tail.tail.tail.tail.tail.tail.tail.tail.tail.box.f0
  have br_f1 := HK19.out.tail.tail.tail.tail.tail.tail.tail.tail.tail.tail.tail.tail.box.f1
  have bp_c0 := HK19.out.tail.tail.tail.tail.tail.tail.tail.tail.box.c0
  have bp_c1 := HK19.out.tail.tail.tail.tail.tail.tail.tail.tail.box.c1
  have bp_f0 := HK19.out.tail.tail.tail.tail.tail.tail.tail.tail.box.f0
  have bp_f1 := HK19.out.tail.tail.tail.tail.tail.tail.tail.tail.box.f1
  go_wp2_with fail
  refine hK.out _ _ (And.intro HK19.out.tail.tail.tail.tail.tail.tail.tail.tail.tail.tail.tail.box.c0 (And.intro HK19.out.tail.tail.tail.tail.tail.tail.tail.tail.tail.tail.tail.box.c1 (And.intro HK19.out.tail.tail.tail.tail.tail.tail.tail.tail.tail.tail.tail.tail.box.c0 (And.intro HK19.out.tail.tail.tail.tail.tail.tail.tail.tail.tail.tail.tail.tail.box.c1 (And.intro HK19.out.tail.tail.tail.tail.tail.tail.tail.tail.box.c0 (HK19.out.tail.tail.tail.tail.tail.tail.tail.tail.box.c1)))))) (fun hHeld2 => ?_)
  clear hK K hHeld
  have hHeld := hHeld2
  clear hHeld2
  try simp only [Act.put, List.setIfInBounds_toArray, List.set_cons_zero, List.set_cons_succ]
  refine step_on 32 rfl (by kernel_rfl) (fun _ _ _ h => h) (by rfl) hHeld (by intro w hSw; first | (go_simp; done) | (go_simp; with_reducible rfl)) ?_
  try simp only [Act.put, List.setIfInBounds_toArray, List.set_cons_zero, List.set_cons_succ]
  refine step_on 33 rfl (by kernel_rfl) (fun _ _ _ h => h) (by rfl) hHeld (by intro w hSw; first | (go_simp; done) | (go_simp; with_reducible rfl)) ?_
  try simp only [Act.put, List.setIfInBounds_toArray, List.set_cons_zero, List.set_cons_succ]
  refine step_one 34 rfl (by kernel_rfl) (fun K hK => ?_)
  go_simp
  refine (wof_any (0) _ ⟨by omega, by omega⟩).mono ?_
  rintro e w20 ⟨m_m, m_0, m_n, m_c, rfl, hX, hB⟩
  have HK20 := Lib.hid (Live.add_can (hX.cx bd_m (by omega)) (HK19.out.below hB))
  have HB20 := Lib.hid (Below.steps HB19.out hB)
  clear bq_c0 bq_c1 bq_f0 bq_f1 br_c0 br_c1 br_f0 br_f1 bp_c0 bp_c1 bp_f0 bp_f1
  clear HK19 HB19 hX hB
  have bq_c0 := HK20.out.tail.tail.tail.tail.tail.tail.tail.tail.tail.tail.tail.tail.box.c0
  have bq_c1 := HK20.out.tail.tail.tail.tail.tail.tail.tail.tail.tail.tail.tail.tail.box.c1
  have bq_f0 := HK20.out.tail.tail.tail.tail.tail.tail.tail.tail.tail.tail.tail.tail.box.f0
  have bq_f1 := HK20.out.tail.tail.tail.tail.tail.tail.tail.tail.tail.tail.tail.tail.box.f1
  have br_c0 := HK20.out.tail.tail.tail.tail.tail.tail.tail.tail.tail.tail.tail.tail.tail.box.c0
  have br_c1 := HK20.out.tail.tail.tail.tail.tail.tail.tail.tail.tail.tail.tail.tail.tail.box.c1
  have br_f0 := HK20.out.tail.tail.tail.tail.tail.tail.tail.tail.tail.tail.tail.tail.tail.box.f0
  have br_f1 := HK20.out.tail.tail.tail.tail.tail.tail.tail.tail.tail.tail.tail.tail.tail.box.f1
  have bp_c0 := HK20.out.tail.tail.tail.tail.tail.tail.tail.tail.tail.box.c0
  have bp_c1 := HK20.out.tail.tail.tail.tail.tail.tail.tail.tail.tail.box.c1
  have bp_f0 := HK20.out.tail.tail.tail.tail.tail.tail.tail.tail.tail.box.f0
  have bp_f1 := HK20.out.tail.tail.tail.tail.tail.tail.tail.tail.tail.box.f1
  go_wp2_with fail
  refine hK.out _ _ (And.intro HK20.out.tail.tail.tail.tail.tail.tail.tail.tail.tail.tail.tail.tail.box.c0 (And.intro HK20.out.tail.tail.tail.tail.tail.tail.tail.tail.tail.tail.tail.tail.box.c1 (And.intro HK20.out.tail.tail.tail.tail.tail.tail.tail.tail.tail.tail.tail.tail.tail.box.c0 (And.intro HK20.out.tail.tail.tail.tail.tail.tail.tail.tail.tail.tail.tail.tail.tail.box.c1 (And.intro HK20.out.tail.tail.tail.tail.tail.tail.tail.tail.tail.box.c0 (HK20.out.tail.tail.tail.tail.tail.tail.tail.tail.tail.box.c1)))))) (fun hHeld2 => ?_)
  clear hK K hHeld
  have hHeld := hHeld2
  clear hHeld2
  try simp only [Act.put, List.setIfInBounds_toArray, List.set_cons_zero, List.set_cons_succ]
  refine step_one 35 rfl (by kernel_rfl) (fun K hK => ?_)
  go_simp
  refine (wof_any (-5) _ ⟨by omega, by omega⟩).mono ?_
  rintro e w21 ⟨n_m, n_0, n_n, n_c, rfl, hX, hB⟩
  have HK21 := Lib.hid (Live.add_can (hX.cx bd_n (by omega)) (HK20.out.below hB))
  have HB21 := Lib.hid (Below.steps HB20.out hB)
  clear bq_c0 bq_c1 bq_f0 bq_f1 br_c0 br_c1 br_f0 br_f1 bp_c0 bp_c1 bp_f0 bp_f1
  clear HK20 HB20 hX hB
  have bq_c0 := HK21.out.tail.tail.tail.tail.tail.tail.tail.tail.tail.tail.tail.tail.tail.box.c0
  have bq_c1 := HK21.out.tail.tail.tail.tail.tail.tail.tail.tail.tail.tail.tail.tail.tail.box.c1
  have bq_f0 := HK21.out.tail.tail.tail.tail.tail.tail.tail.tail.tail.tail.tail.tail.tail.box.f0
  have bq_f1 := HK21.out.tail.tail.tail.tail.tail.tail.tail.tail.tail.tail.tail.tail.tail.box.f1
  have br_c0 := HK21.out.tail.tail.tail.tail.tail.tail.tail.tail.tail.tail.tail.tail.tail.tail.box.c0
  have br_c1 := HK21.out.tail.tail.tail.tail.tail.tail.tail.tail.tail.tail.tail.tail.tail.tail.box.c1
  have br_f0 := HK21.out.tail.tail.tail.tail.tail.tail.tail.tail.tail.tail.tail.tail.tail.tail.box.f0
  have br_f1 := HK21.out.tail.tail.tail.tail.tail.tail.tail.tail.tail.tail.tail.tail.tail.tail.box.f1
  have bp_c0 := HK21.out.tail.tail.tail.tail.tail.tail.tail.tail.tail.tail.box.c0
  have bp_c1 := HK21.out.tail.tail.tail.tail.tail.tail.tail.tail.tail.tail.box.c1
  have bp_f0 := HK21.out.tail.tail.tail.tail.tail.tail.tail.tail.tail.tail.box.f0
  have bp_f1 := HK21.out.tail.tail.tail.tail.tail.tail.tail.tail.tail.tail.box.f1
  go_wp2_with fail
  refine hK.out _ _ (And.intro HK21.out.tail.tail.tail.tail.tail.tail.tail.tail.tail.tail.tail.tail.tail.box.c0 (And.intro HK21.out.tail.tail.tail.tail.tail.tail.tail.tail.tail.tail.tail.tail.tail.box.c1 (And.intro HK21.out.tail.tail.tail.tail.tail.tail.tail.tail.tail.tail.tail.tail.tail.tail.box.c0 (And.intro HK21.out.tail.tail.tail.tail.tail.tail.tail.tail.tail.tail.tail.tail.tail.tail.box.c1 (And.intro HK21.out.tail.tail.tail.tail.tail.tail.tail.tail.tail.tail.box.c0 (HK21.out.tail.tail.tail.tail.tail.tail.tail.tail.tail.tail.box.c1)))))) (fun hHeld2 => ?_)
  clear hK K hHeld
  have hHeld := hHeld2
  clear hHeld2
  try simp only [Act.put, List.setIfInBounds_toArray, List.set_cons_zero, List.set_cons_succ]
  refine step_one 36 rfl (by kernel_rfl) (fun K hK => ?_)
  go_simp
  refine (wgcd_any HK21.out.tail.can.nx HK21.out.can.nx).mono ?_
  rintro e w22 ⟨um, u0, un, uc, rfl, hX, hB⟩
  rw [show (((0 : Int).gcd (-5) : Nat) : Int) = 5 from by decide] at hX
  have HK22 := Lib.hid (Live.add_can (hX.cx bd_u (by omega)) (HK21.out.below hB))
  have HB22 := Lib.hid (Below.steps HB21.out hB)
  clear bq_c0 bq_c1 bq_f0 bq_f1 br_c0 br_c1 br_f0 br_f1 bp_c0 bp_c1 bp_f0 bp_f1
  clear HK21 HB21 hX hB
  have bq_c0 := HK22.out.tail.tail.tail.tail.tail.tail.tail.tail.tail.tail.tail.tail.tail.tail.box.c0
  have bq_c1 := HK22.out.tail.tail.tail.tail.tail.tail.tail.tail.tail.tail.tail.tail.tail.tail.box.c1
  have bq_f0 := HK22.out.tail.tail.tail.tail.tail.tail.tail.tail.tail.tail.tail.tail.tail.tail.box.f0
  have bq_f1 := HK22.out.tail.tail.tail.tail.tail.tail.tail.tail.tail.tail.tail.tail.tail.tail.box.f1
  have br_c0 := HK22.out.tail.tail.tail.tail.tail.tail.tail.tail.tail.tail.tail.tail.tail.tail.tail.box.c0
  have br_c1 := HK22.out.tail.tail.tail.tail.tail.tail.tail.tail.tail.tail.tail.tail.tail.tail.tail.box.c1
  have br_f0 := HK22.out.tail.tail.tail.tail.tail.tail.tail.tail.tail.tail.tail.tail.tail.tail.tail.box.f0
  have br_f1 := HK22.out.tail.tail.tail.tail.tail.tail.tail.tail.tail.tail.tail.tail.tail.tail.tail.box.f1
  have bp_c0 := HK22.out.tail.tail.tail.tail.tail.tail.tail.tail.tail.tail.tail.box.c0
  have bp_c1 := HK22.out.tail.tail.tail.tail.tail.tail.tail.tail.tail.tail.tail.box.c1
  have bp_f0 := HK22.out.tail.tail.tail.tail.tail.tail.tail.tail.tail.tail.tail.box.f0
  have bp_f1 := HK22.out.tail.tail.tail.tail.tail.tail.tail.tail.tail.tail.tail.box.f1
  go_wp2_with fail
  refine hK.out _ _ (And.intro HK22.out.tail.tail.tail.tail.tail.tail.tail.tail.tail.tail.tail.tail.tail.tail.box.c0 (And.intro HK22.out.tail.tail.tail.tail.tail.tail.tail.tail.tail.tail.tail.tail.tail.tail.box.c1 (And.intro HK22.out.tail.tail.tail.tail.tail.tail.tail.tail.tail.tail.tail.tail.tail.tail.tail.box.c0 (And.intro HK22.out.tail.tail.tail.tail.tail.tail.tail.tail.tail.tail.tail.tail.tail.tail.tail.box.c1 (And.intro HK22.out.tail.tail.tail.tail.tail.tail.tail.tail.tail.tail.tail.box.c0 (HK22.out.tail.tail.tail.tail.tail.tail.tail.tail.tail.tail.tail.box.c1)))))) (fun hHeld2 => ?_)
  clear hK K hHeld
  have hHeld := hHeld2
  clear hHeld2
  try simp only [Act.put, List.setIfInBounds_toArray, List.set_cons_zero, List.set_cons_succ]
  refine step_one 37 rfl (by kernel_rfl) (fun K hK => ?_)
  go_simp
  refine (wof_any (5) _ ⟨by omega, by omega⟩).mono ?_
  rintro e w23 ⟨v_m, v_0, v_n, v_c, rfl, hX, hB⟩
  have HK23 := Lib.hid (Live.add_can (hX.cx bd_v (by omega)) (HK22.out.below hB))
  have HB23 := Lib.hid (Below.steps HB22.out hB)
  clear bq_c0 bq_c1 bq_f0 bq_f1 br_c0 br_c1 br_f0 br_f1 bp_c0 bp_c1 bp_f0 bp_f1
  clear HK22 HB22 hX hB
  have bq_c0 := HK23.out.tail.tail.tail.tail.tail.tail.tail.tail.tail.tail.tail.tail.tail.tail.tail.box.c0
  have bq_c1 := HK23.out.tail.tail.tail.tail.tail.tail.tail.tail.tail.tail.tail.tail.tail.tail.tail.box.c1
  have bq_f0 := HK23.out.tail.tail.tail.tail.tail.tail.tail.tail.tail.tail.tail.tail.tail.tail.tail.box.f0
  have bq_f1 := HK23.out.tail.tail.tail.tail.tail.tail.tail.tail.tail.tail.tail.tail.tail.tail.tail.box.f1
  have br_c0 := HK23.out.tail.tail.tail.tail.tail.tail.tail.tail.tail.tail.tail.tail.tail.tail.tail.tail.box.c0
  have br_c1 := HK23.out.tail.tail.tail.tail.tail.tail.tail.tail.tail.tail.tail.tail.tail.tail.tail.tail.box.c1
  have br_f0 := HK23.out.tail.tail.tail.tail.tail.tail.tail.tail.tail.tail.tail.tail.tail.tail.tail.tail.box.f0
  have br_f1 := HK23.out.tail.tail.tail.tail.tail.tail.tail.tail.tail.tail.tail.tail.tail.tail.tail.tail.box.f1
  have bp_c0 := HK23.out.tail.tail.tail.tail.tail.tail.tail.tail.tail.tail.tail.tail.box.c0
  have bp_c1 := HK23.out.tail.tail.tail.tail.tail.tail.tail.tail.tail.tail.tail.tail.box.c1
  have bp_f0 := HK23.out.tail.tail.tail.tail.tail.tail.tail.tail.tail.tail.tail.tail.box.f0
  have bp_f1 := HK23.out.tail.tail.tail.tail.tail.tail.tail.tail.tail.tail.tail.tail.box.f1
  go_wp2_with fail
  refine hK.out _ _ (And.intro HK23.out.tail.tail.tail.tail.tail.tail.tail.tail.tail.tail.tail.tail.tail.tail.tail.box.c0 (And.intro HK23.out.tail.tail.tail.tail.tail.tail.tail.tail.tail.tail.tail.tail.tail.tail.tail.box.c1 (And.intro HK23.out.tail.tail.tail.tail.tail.tail.tail.tail.tail.tail.tail.tail.tail.tail.tail.tail.box.c0 (And.intro HK23.out.tail.tail.tail.tail.tail.tail.tail.tail.tail.tail.tail.tail.tail.tail.tail.tail.box.c1 (And.intro HK23.out.tail.tail.tail.tail.tail.tail.tail.tail.tail.tail.tail.tail.box.c0 (HK23.out.tail.tail.tail.tail.tail.tail.tail.tail.tail.tail.tail.tail.box.c1)))))) (fun hHeld2 => ?_)
  clear hK K hHeld
  have hHeld := hHeld2
  clear hHeld2
  try simp only [Act.put, List.setIfInBounds_toArray, List.set_cons_zero, List.set_cons_succ]
  refine step_one 38 rfl (by kernel_rfl) (fun K hK => ?_)
  go_simp
  refine (zsame HK23.out.tail.can HK23.out.can rfl).mono ?_
  rintro e w24 ⟨rfl, hB⟩
  have HK24 := Lib.hid (HK23.out.below hB)
  have HB24 := Lib.hid (Below.steps HB23.out hB)
  clear bq_c0 bq_c1 bq_f0 bq_f1 br_c0 br_c1 br_f0 br_f1 bp_c0 bp_c1 bp_f0 bp_f1
  clear HK23 HB23 hB
  have bq_c0 := HK24.out.tail.tail.tail.tail.tail.tail.tail.tail.tail.tail.tail.tail.tail.tail.tail.box.c0
  have bq_c1 := HK24.out.tail.tail.tail.tail.tail.tail.tail.tail.tail.tail.tail.tail.tail.tail.tail.box.c1
  have bq_f0 := HK24.out.tail.tail.tail.tail.tail.tail.tail.tail.tail.tail.tail.tail.tail.tail.tail.box.f0
  have bq_f1 := HK24.out.tail.tail.tail.tail.tail.tail.tail.tail.tail.tail.tail.tail.tail.tail.tail.box.f1
  have br_c0 := HK24.out.tail.tail.tail.tail.tail.tail.tail.tail.tail.tail.tail.tail.tail.tail.tail.tail.box.c0
  have br_c1 := HK24.out.tail.tail.tail.tail.tail.tail.tail.tail.tail.tail.tail.tail.tail.tail.tail.tail.box.c1
  have br_f0 := HK24.out.tail.tail.tail.tail.tail.tail.tail.tail.tail.tail.tail.tail.tail.tail.tail.tail.box.f0
  have br_f1 := HK24.out.tail.tail.tail.tail.tail.tail.tail.tail.tail.tail.tail.tail.tail.tail.tail.tail.box.f1
  have bp_c0 := HK24.out.tail.tail.tail.tail.tail.tail.tail.tail.tail.tail.tail.tail.box.c0
  have bp_c1 := HK24.out.tail.tail.tail.tail.tail.tail.tail.tail.tail.tail.tail.tail.box.c1
  have bp_f0 := HK24.out.tail.tail.tail.tail.tail.tail.tail.tail.tail.tail.tail.tail.box.f0
  have bp_f1 := HK24.out.tail.tail.tail.tail.tail.tail.tail.tail.tail.tail.tail.tail.box.f1
  go_wp2_with fail
  refine hK.out _ _ (And.intro HK24.out.tail.tail.tail.tail.tail.tail.tail.tail.tail.tail.tail.tail.tail.tail.tail.box.c0 (And.intro HK24.out.tail.tail.tail.tail.tail.tail.tail.tail.tail.tail.tail.tail.tail.tail.tail.box.c1 (And.intro HK24.out.tail.tail.tail.tail.tail.tail.tail.tail.tail.tail.tail.tail.tail.tail.tail.tail.box.c0 (And.intro HK24.out.tail.tail.tail.tail.tail.tail.tail.tail.tail.tail.tail.tail.tail.tail.tail.tail.box.c1 (And.intro HK24.out.tail.tail.tail.tail.tail.tail.tail.tail.tail.tail.tail.tail.box.c0 (HK24.out.tail.tail.tail.tail.tail.tail.tail.tail.tail.tail.tail.tail.box.c1)))))) (fun hHeld2 => ?_)
  clear hK K hHeld
  have hHeld := hHeld2
  clear hHeld2
  try simp only [Act.put, List.setIfInBounds_toArray, List.set_cons_zero, List.set_cons_succ]
  refine step_on 39 rfl (by kernel_rfl) (fun _ _ _ h => h) (by rfl) hHeld (by intro w hSw; first | (go_simp; done) | (go_simp; with_reducible rfl)) ?_
  try simp only [Act.put, List.setIfInBounds_toArray, List.set_cons_zero, List.set_cons_succ]
  refine step_on 40 rfl (by kernel_rfl) (fun _ _ _ h => h) (by rfl) hHeld (by intro w hSw; first | (go_simp; done) | (go_simp; with_reducible rfl)) ?_
  try simp only [Act.put, List.setIfInBounds_toArray, List.set_cons_zero]
  refine wpAnyH_done (by kernel_rfl) ?_ _
  clear hHeld
  go_wp2_with fail
  go_ret
  exact ⟨rfl, HB24.out⟩

end Go.Proofs.Ytponiigpmjnffaa

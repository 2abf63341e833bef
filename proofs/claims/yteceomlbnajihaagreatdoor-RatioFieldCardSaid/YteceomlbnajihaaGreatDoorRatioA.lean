/-
  The contracts of ratio.isOne and ratio.denominator.
-/
import Derived.Test.YteceomlbnajihaaGreatDoorRx
import Derived.Test.YteceomlbnajihaaGreatDoorGWA
import Derived.Deep.Cut
import Derived.Deep.CutRange
set_option maxRecDepth 8192
namespace Go.Proofs.YteceomlbnajihaaGreatDoor
open Go.RowKit

theorem Bd.addk {x y : Int} {i j k : Nat} (h : Bd x i) (h' : Bd y j) (hi : i + 1 ≤ k) (hj : j + 1 ≤ k) : Bd (x + y) k := (h.mono (show i ≤ k - 1 by omega)).add (h'.mono (show j ≤ k - 1 by omega)) (by omega)
theorem Bd.subk {x y : Int} {i j k : Nat} (h : Bd x i) (h' : Bd y j) (hi : i + 1 ≤ k) (hj : j + 1 ≤ k) : Bd (x - y) k := (h.mono (show i ≤ k - 1 by omega)).sub (h'.mono (show j ≤ k - 1 by omega)) (by omega)
theorem gcd_bd {x d : Int} {j : Nat} (h : Bd d j) (h0 : d ≠ 0) : Bd ((Int.gcd x d : Nat) : Int) j := by
  unfold Bd at *
  rw [Int.natAbs_natCast]
  have h1 : Int.gcd x d ∣ d.natAbs := Nat.gcd_dvd_right _ _
  have := Nat.le_of_dvd (by omega) h1
  omega
theorem cmp_one (x : Int) (r : Bool) (h : decide (x = 1) = r) : (cmpZ x 1 == 0) = r := by
  rw [← h, Bool.eq_iff_iff]
  unfold cmpZ
  simp [Int.sign_eq_zero_iff_zero]
  omega

set_option maxHeartbeats 1000000 in
set_option maxRecDepth 100000 in
theorem one_any {m : Bool} {ao : Option Addr} {n cap : Nat} {x : Int} {w : World} (r : Bool) (hx : Nx w m ao n cap x) (h : decide (x = 1) = r) :
    Calls Tryz.prog 57 #[.agg #[.bool m, .slice ao n cap]] w (RetB (.bool r) w) := by
  obtain ⟨c, hc⟩ : ∃ c, cmpZ x 1 = c := ⟨_, rfl⟩
  have e1 : (c == 0) = r := by rw [← hc]; exact cmp_one x r h
  have HC := Lib.hid hc
  clear hc h
  go_enter Tryz.func57, Tryz.ntmps57
  have S0 := Lib.hid (Sx.start (w := w) (N := [.nx m ao n cap x]) ⟨hx, trivial⟩)
  clear hx
  have S1 := Lib.hid (S0.out.var (w.heap.size) [.bool m, .slice ao n cap] 24 (by simp))
  clear S0
  go_upto_region 1 with (fail)
  refine wp_world (fun w1 hW => ?_)
  rw [← hW] at S1
  clear hW
  have S2 := Lib.hid (S1.out.drew)
  clear S1
  refine wp_region_held_drew (S := fun w' => (w'.cell? ⟨(w.heap.size), 0, none⟩ = some (.bool m) ∧ w'.cell? ⟨(w.heap.size), 1, none⟩ = some (.slice ao n cap))) (by kernel_rfl) ((S2.out.b.c2)) (fun hH => ?_)
  refine anyH_world (fun w2 hW => ?_)
  rw [← hW] at S2 hH
  clear hW
  refine step_on 0 rfl (by kernel_rfl) (fun _ _ _ h => h) (by rfl) hH (by intro w hS; go_simp <;> with_reducible rfl) ?_
  try simp only [nrm]
  refine step_one 1 rfl (by kernel_rfl) (fun K hK => ?_)
  go_simp
  refine (wof_any (1) _ ⟨by omega, by omega⟩).mono ?_
  rintro e w3 ⟨r1_m, r1_0, r1_n, r1_c, rfl, hX, hB⟩
  have S3 := Lib.hid (((S2.out.step hB).cb (hX.cb (show Bd (1 : Int) 1 by unfold Bd; decide) (by omega)) rfl))
  clear S2 hX hB
  go_wp2_with fail
  refine hK.out _ _ (S3.out.b.c2) (fun h2 => ?_)
  clear hK K hH
  have hH := h2
  clear h2
  try simp only [nrm]
  refine step_one 2 rfl (by kernel_rfl) (fun K hK => ?_)
  go_simp
  refine (wcmp_is (c) S3.out.n.t.nx S3.out.n.cb.cx.nx (HC.out)).mono ?_
  rintro e w4 ⟨rfl, hB⟩
  have S4 := Lib.hid ((S3.out.step hB))
  clear S3 hB
  go_wp2_with fail
  refine hK.out _ _ (S4.out.b.c2) (fun h2 => ?_)
  clear hK K hH
  have hH := h2
  clear h2
  try simp only [nrm]
  refine step_on 3 rfl (by kernel_rfl) (fun _ _ _ h => h) (by rfl) hH (by intro w hS; go_simp <;> with_reducible rfl) ?_
  try simp only [nrm]
  refine step_on 4 rfl (by kernel_rfl) (fun _ _ _ h => h) (by rfl) hH (by intro w hS; go_simp <;> with_reducible rfl) ?_
  try simp only [nrm]
  refine wpAnyH_done (by kernel_rfl) ?_ _
  clear hH
  go_wp2_with fail
  go_ret
  exact ⟨rfl, S4.out.h⟩

set_option maxHeartbeats 1000000 in
set_option maxRecDepth 100000 in
theorem den_some {m : Bool} {ao : Option Addr} {n cap : Nat} {k : Bool} {bo : Option Addr} {l cb : Nat} {x d : Int} {q : Rat} {j : Nat} {w : World} (hx : Rx w m ao n cap k bo l cb x d q j) (h : d ≠ 0) :
    Calls Tryz.prog 53 #[.agg #[.bool m, .slice ao n cap, .bool k, .slice bo l cb]] w (NewN w (dn d)) := by
  obtain ⟨s, hs⟩ : ∃ s, d.sign = s := ⟨_, rfl⟩
  have e1 : (s == 0) = false := by rw [← hs]; simp [Int.sign_eq_zero_iff_zero]; exact h
  have HS := Lib.hid hs
  have H0 := Lib.hid h
  clear hs h
  go_enter Tryz.func53, Tryz.ntmps53
  have S0 := Lib.hid (Sx.start (w := w) (N := [.rx m ao n cap k bo l cb x d q j]) ⟨hx, trivial⟩)
  clear hx
  have S1 := Lib.hid (S0.out.var (w.heap.size) [.bool m, .slice ao n cap, .bool k, .slice bo l cb] 26 (by simp))
  clear S0
  have S2 := Lib.hid (S1.out.var (w.heap.size + 1) [.bool false, .slice none 0 0] 24 (by simp))
  clear S1
  go_upto_region 1 with (fail)
  refine wp_world (fun w1 hW => ?_)
  rw [← hW] at S2
  clear hW
  obtain ⟨c_b1_0, c_b1_1, c_b1_2, c_b1_3⟩ := S2.out.b.t.c4
  go_wp2_with fail
  clear c_b1_0 c_b1_1 c_b1_2 c_b1_3
  refine (wsign_is (s) S2.out.n.rx.den (HS.out)).mono ?_
  rintro e w2 ⟨rfl, hB⟩
  have S3 := Lib.hid ((S2.out.step hB))
  clear S2 hB
  obtain ⟨c_b1_0, c_b1_1, c_b1_2, c_b1_3⟩ := S3.out.b.t.c4
  obtain ⟨c_b2_0, c_b2_1⟩ := S3.out.b.c2
  obtain ⟨f_b2_0, f_b2_1⟩ := S3.out.b.f2
  go_wp2_with fail
  have S4 : Hid (Sx w _ [⟨(w.heap.size + 1), [.bool k, .slice bo l cb]⟩, ⟨(w.heap.size), [.bool m, .slice ao n cap, .bool k, .slice bo l cb]⟩] _) := Lib.hid (Sx.set [] [⟨(w.heap.size), [.bool m, .slice ao n cap, .bool k, .slice bo l cb]⟩] (Sx.set [] [⟨(w.heap.size), [.bool m, .slice ao n cap, .bool k, .slice bo l cb]⟩] S3.out 0 (.bool k)) 1 (.slice bo l cb))
  clear S3
  refine bodyPost_ret (v := .agg #[.bool k, .slice bo l cb]) (by simp [results, Tryz.results53, go_sem, c_b2_0, c_b2_1]) rfl ?_
  exact ⟨_, _, _, _, rfl, (by rw [dn_of H0.out]; exact S4.out.n.rx.den), S4.out.h⟩

set_option maxHeartbeats 1000000 in
set_option maxRecDepth 100000 in
theorem den_zero {m : Bool} {ao : Option Addr} {n cap : Nat} {k : Bool} {bo : Option Addr} {l cb : Nat} {x d : Int} {q : Rat} {j : Nat} {w : World} (hx : Rx w m ao n cap k bo l cb x d q j) (h : d = 0) :
    Calls Tryz.prog 53 #[.agg #[.bool m, .slice ao n cap, .bool k, .slice bo l cb]] w (NewN w (dn d)) := by
  obtain ⟨s, hs⟩ : ∃ s, d.sign = s := ⟨_, rfl⟩
  have e1 : (s == 0) = true := by rw [← hs]; simp [Int.sign_eq_zero_iff_zero]; exact h
  have HS := Lib.hid hs
  have H0 := Lib.hid h
  clear hs h
  go_enter Tryz.func53, Tryz.ntmps53
  have S0 := Lib.hid (Sx.start (w := w) (N := [.rx m ao n cap k bo l cb x d q j]) ⟨hx, trivial⟩)
  clear hx
  have S1 := Lib.hid (S0.out.var (w.heap.size) [.bool m, .slice ao n cap, .bool k, .slice bo l cb] 26 (by simp))
  clear S0
  have S2 := Lib.hid (S1.out.var (w.heap.size + 1) [.bool false, .slice none 0 0] 24 (by simp))
  clear S1
  go_upto_region 1 with (fail)
  refine wp_world (fun w1 hW => ?_)
  rw [← hW] at S2
  clear hW
  obtain ⟨c_b1_0, c_b1_1, c_b1_2, c_b1_3⟩ := S2.out.b.t.c4
  go_wp2_with fail
  clear c_b1_0 c_b1_1 c_b1_2 c_b1_3
  refine (wsign_is (s) S2.out.n.rx.den (HS.out)).mono ?_
  rintro e w2 ⟨rfl, hB⟩
  have S3 := Lib.hid ((S2.out.step hB))
  clear S2 hB
  go_wp2_with fail
  refine (wof_any (1) _ ⟨by omega, by omega⟩).mono ?_
  rintro e w3 ⟨r1_m, r1_0, r1_n, r1_c, rfl, hX, hB⟩
  have S4 := Lib.hid (((S3.out.step hB).cb (hX.cb (show Bd (1 : Int) 1 by unfold Bd; decide) (by omega)) rfl))
  clear S3 hX hB
  obtain ⟨c_b2_0, c_b2_1⟩ := S4.out.b.c2
  obtain ⟨f_b2_0, f_b2_1⟩ := S4.out.b.f2
  go_wp2_with fail
  have S5 : Hid (Sx w _ [⟨(w.heap.size + 1), [.bool r1_m, .slice r1_0 r1_n r1_c]⟩, ⟨(w.heap.size), [.bool m, .slice ao n cap, .bool k, .slice bo l cb]⟩] _) := Lib.hid (Sx.set [] [⟨(w.heap.size), [.bool m, .slice ao n cap, .bool k, .slice bo l cb]⟩] (Sx.set [] [⟨(w.heap.size), [.bool m, .slice ao n cap, .bool k, .slice bo l cb]⟩] S4.out 0 (.bool r1_m)) 1 (.slice r1_0 r1_n r1_c))
  clear S4
  refine bodyPost_ret (v := .agg #[.bool r1_m, .slice r1_0 r1_n r1_c]) (by simp [results, Tryz.results53, go_sem, c_b2_0, c_b2_1]) rfl ?_
  exact ⟨_, _, _, _, rfl, (by rw [dn_zero H0.out]; exact S5.out.n.cb.cx.nx), S5.out.h⟩

theorem den_any {m : Bool} {ao : Option Addr} {n cap : Nat} {k : Bool} {bo : Option Addr} {l cb : Nat} {x d : Int} {q : Rat} {j : Nat} {w : World} (hx : Rx w m ao n cap k bo l cb x d q j) :
    Calls Tryz.prog 53 #[.agg #[.bool m, .slice ao n cap, .bool k, .slice bo l cb]] w (NewN w (dn d)) := by
  by_cases h : d = 0
  · exact den_zero hx h
  · exact den_some hx h

end Go.Proofs.YteceomlbnajihaaGreatDoor

/-
  A walk of the law WholeDivides.
-/
import Derived.Test.YtponiigpmjnffaaWSt
import Derived.Test.YtponiigpmjnffaaWKnown
import Derived.Test.YtponiigpmjnffaaWLaw
import Derived.Test.YtponiigpmjnffaaWAdd
import Derived.Test.YtponiigpmjnffaaWMul
import Derived.Test.YtponiigpmjnffaaWLawPlain
import Derived.Test.YtponiigpmjnffaaWZSame
import Derived.Test.YtponiigpmjnffaaWZDiv
import Derived.Test.YtponiigpmjnffaaWZPow
import Derived.Deep.Cut
import Derived.Deep.CutRange
set_option maxRecDepth 8192
namespace Go.Proofs.Ytponiigpmjnffaa
open Go.RowKit

set_option maxHeartbeats 40000000 in
set_option maxRecDepth 100000 in
theorem wholeDivides_big_exact (p : Int) {m0 : Bool} {a0 : Option Addr} {n0 c0 : Nat} {m1 : Bool} {a1 : Option Addr} {n1 c1 : Nat} {x y : Int} {w : World} (h0 : Nx w m0 a0 n0 c0 x) (h1 : Nx w m1 a1 n1 c1 y) (l0 : n0 ≤ 25) (l1 : n1 ≤ 25) (hp : p < 0 ∨ 1000 < p) (hp2 : 1000 < p) (hd : y ≠ 0) (he : x.tmod y = 0) :
    Calls Try.prog 4 #[.agg #[.bool m0, .slice a0 n0 c0], .agg #[.bool m1, .slice a1 n1 c1], .int .i64 p] w (RetB (.bool true) w) := by
  have hq1 : decide (6 < p) = true := by simp; omega
  have hq2 : decide (0 ≤ p) = true := by simp; omega
  have hq3 : decide (p ≤ 1000) = false := by simp; omega
  have bd_x : Bd (x) 25 := h0.inn.bd l0
  have bd_y : Bd (y) 25 := h1.inn.bd l1
  have HD := Lib.hid hd
  clear hd
  have HE := Lib.hid he
  clear he
  have HP := Lib.hid hp
  have bd_o : Bd ((0 : Int)) 1 := bd_zero
  go_enter Try.func4, Try.ntmps4
  go_upto_region 1 with (fail)
  refine wp_world (fun W hW => ?_)
  have HB0 : Hid (Below w.heap.size w W) := by rw [hW]; exact step_alloc (below_alloc _ _)
  have S0 : Hid (St w W _ _) := Lib.hid (St.mk (Live.add_box (show Box W (w.heap.size) m0 a0 n0 c0 from by rw [hW]; exact (Box.new _ _ _ _ _ _ _ (by simp)).below (below_alloc _ _)) (Live.add_box (show Box W (w.heap.size + 1) m1 a1 n1 c1 from by rw [hW]; exact Box.new _ _ _ _ _ _ _ (by simp)) (Live.nil W))) (Live.add_num (h0.below HB0.out) (Live.add_num (h1.below HB0.out) (Live.add_can (zero_cx W) (Live.nil W)))) HB0.out)
  clear hW HB0
  obtain ⟨bx_0, bx_1⟩ := S0.out.b.c
  obtain ⟨by_0, by_1⟩ := S0.out.b.t.c
  go_wp2_with fail
  refine (great2_no _ _ _ _ _ _ _ _ W l0 l1).mono ?_
  rintro e w1 ⟨rfl, hB⟩
  have S1 := Lib.hid (S0.out.step (step_alloc hB))
  clear bx_0 bx_1 by_0 by_1
  clear S0 hB
  obtain ⟨bx_0, bx_1⟩ := S1.out.b.c
  obtain ⟨by_0, by_1⟩ := S1.out.b.t.c
  have bd_u : Bd (x) 25 := bd_x
  have bd_v : Bd (y) 25 := bd_y
  go_upto_region 3 with (fail)
  go_cut [7, 8] from 32 to 35 (fun sl0 sl1 w9 => ∃ (bb0 : Nat) (qm0 : Bool) (q0 : Option Addr) (qn0 : Nat) (qc0 : Nat) (bb1 : Nat) (qm1 : Bool) (q1 : Option Addr) (qn1 : Nat) (qc1 : Nat), sl0 = .pointer (some ⟨bb0, 0, none⟩) ∧ sl1 = .pointer (some ⟨bb1, 0, none⟩) ∧ Hid (St w w9 [.box bb0 qm0 q0 qn0 qc0, .box bb1 qm1 q1 qn1 qc1, .box (w.heap.size) m0 a0 n0 c0, .box (w.heap.size + 1) m1 a1 n1 c1] [.zed qm0 q0 qn0 qc0 x, .zed qm1 q1 qn1 qc1 y, .num m0 a0 n0 c0 x, .num m1 a1 n1 c1 y, .can false none 0 0 (0 : Int)]))
  case first =>
    clear bx_0 bx_1 by_0 by_1
    have S2 := Lib.hid S1.out.drew
    clear S1
    refine wp_region_held_drew (S := fun w' => (w'.cell? ⟨(w.heap.size), 0, none⟩ = some (.bool m0) ∧ w'.cell? ⟨(w.heap.size), 1, none⟩ = some (.slice a0 n0 c0)) ∧ (w'.cell? ⟨(w.heap.size + 1), 0, none⟩ = some (.bool m1) ∧ w'.cell? ⟨(w.heap.size + 1), 1, none⟩ = some (.slice a1 n1 c1))) (by kernel_rfl) (⟨S2.out.b.c, S2.out.b.t.c⟩) (fun hH => ?_)
    refine anyH_world (fun w2 hW => ?_)
    rw [← hW] at S2 hH
    clear hW
    refine step_on 0 rfl (by kernel_rfl) (fun _ _ _ h => h) (by rfl) hH (by intro w hS; go_simp <;> with_reducible rfl) ?_
    try simp only [nrm]
    refine step_on 2 rfl (by kernel_rfl) (fun _ _ _ h => h) (by rfl) hH (by intro w hS; go_simp <;> with_reducible rfl) ?_
    try simp only [nrm]
    refine wpAnyH_ready (rs := [1, 4, 5]) (by kernel_rfl) (by simp) (ready_cons rfl (fun K hK => ?_) (ready_cons rfl (fun K hK => ?_) (ready_cons rfl (fun K hK => ?_) (AllReadyH.nil))))
    · go_simp
      refine (zof_any S2.out.n.num).mono ?_
      rintro e w3 ⟨u_m, u_0, u_n, u_c, rfl, hX, hB⟩
      have S3 := Lib.hid ((S2.out.step hB).zed (hX.zx bd_u (by omega)))
      clear S2 hX
      clear hB
      go_wp2_with fail
      refine hK.out _ _ ⟨S3.out.b.c, S3.out.b.t.c⟩ (fun h2 => ?_)
      clear hK K hH
      have hH := h2
      clear h2
      try simp only [nrm]
      refine wpAnyH_ready (rs := [3, 4, 5]) (by kernel_rfl) (by simp) (ready_cons rfl (fun K hK => ?_) (ready_cons rfl (fun K hK => ?_) (ready_cons rfl (fun K hK => ?_) (AllReadyH.nil))))
      · go_simp
        refine (zof_any S3.out.n.t.t.num).mono ?_
        rintro e w4 ⟨v_m, v_0, v_n, v_c, rfl, hX, hB⟩
        have S4 := Lib.hid ((S3.out.step hB).zed (hX.zx bd_v (by omega)))
        clear S3 hX
        clear hB
        go_wp2_with fail
        refine hK.out _ _ ⟨S4.out.b.c, S4.out.b.t.c⟩ (fun h2 => ?_)
        clear hK K hH
        have hH := h2
        clear h2
        try simp only [nrm]
        refine wpAnyH_ready (rs := [4, 5]) (by kernel_rfl) (by simp) (ready_cons rfl (fun K hK => ?_) (ready_cons rfl (fun K hK => ?_) (AllReadyH.nil)))
        · go_simp
          have U4 := under_of S4.out.b
          have z4 := S4.out.h.size
          have S5 := Lib.hid (S4.out.step (below_alloc w4 (.cells #[.bool false, .slice none 0 0] 31)))
          have V4_5 := Lib.hid (Box.new w4 w4.heap.size false none 0 0 31 rfl)
          clear S4
          refine hK.out _ _ ⟨S5.out.b.c, S5.out.b.t.c⟩ (fun h2 => ?_)
          clear hK K hH
          have hH := h2
          clear h2
          try simp only [nrm]
          refine anyH_world (fun w5 hW => ?_)
          rw [← hW] at S5 hH V4_5
          clear hW
          refine wpAnyH_ready (rs := [5]) (by kernel_rfl) (by simp) (ready_cons rfl (fun K hK => ?_) (AllReadyH.nil))
          · go_simp
            have U5 := under_of S5.out.b
            have z5 := S5.out.h.size
            have S6 := Lib.hid (S5.out.step (below_alloc w5 (.cells #[.bool false, .slice none 0 0] 31)))
            have V5_6 := Lib.hid (Box.new w5 w5.heap.size false none 0 0 31 rfl)
            have ne4_5 := Nat.ne_of_lt V4_5.out.lt
            have V4_6 := Lib.hid (V4_5.out.below (below_alloc w5 (.cells #[.bool false, .slice none 0 0] 31)))
            clear V4_5
            clear S5
            refine hK.out _ _ ⟨S6.out.b.c, S6.out.b.t.c⟩ (fun h2 => ?_)
            clear hK K hH
            have hH := h2
            clear h2
            try simp only [nrm]
            refine anyH_world (fun w6 hW => ?_)
            rw [← hW] at S6 hH V4_6 V5_6
            clear hW
            have sb0 := V4_6.out.c0
            have sb1 := V4_6.out.c1
            have sb2 := V4_6.out.f0
            have sb3 := V4_6.out.f1
            refine step_one 6 rfl (by kernel_rfl) (fun K hK => ?_)
            go_simp
            have S7 := Lib.hid (S6.out.put V4_6.out (.bool u_m) (.slice u_0 u_n u_c) z4 (under_apart U4) (nums_apart rfl))
            have V4_7 := Lib.hid (V4_6.out.set u_m u_0 u_n u_c)
            have V5_7 := Lib.hid (V5_6.out.far (c := w4.heap.size) (by omega) (.bool u_m) (.slice u_0 u_n u_c))
            clear S6 V4_6 V5_6 sb0 sb1 sb2 sb3
            refine hK.out _ _ ⟨S7.out.b.c, S7.out.b.t.c⟩ (fun h2 => ?_)
            clear hK K hH
            have hH := h2
            clear h2
            try simp only [nrm]
            refine anyH_world (fun w7 hW => ?_)
            rw [← hW] at S7 hH V4_7 V5_7
            clear hW
            have sb0 := V5_7.out.c0
            have sb1 := V5_7.out.c1
            have sb2 := V5_7.out.f0
            have sb3 := V5_7.out.f1
            refine step_one 7 rfl (by kernel_rfl) (fun K hK => ?_)
            go_simp
            have S8 := Lib.hid (S7.out.put V5_7.out (.bool v_m) (.slice v_0 v_n v_c) z5 (under_apart U5) (nums_apart rfl))
            have V5_8 := Lib.hid (V5_7.out.set v_m v_0 v_n v_c)
            have V4_8 := Lib.hid (V4_7.out.far (c := w5.heap.size) (by omega) (.bool v_m) (.slice v_0 v_n v_c))
            clear S7 V4_7 V5_7 sb0 sb1 sb2 sb3
            refine hK.out _ _ ⟨S8.out.b.c, S8.out.b.t.c⟩ (fun h2 => ?_)
            clear hK K hH
            have hH := h2
            clear h2
            try simp only [nrm]
            refine anyH_world (fun w8 hW => ?_)
            rw [← hW] at S8 hH V4_8 V5_8
            clear hW
            refine wpAnyH_done (by kernel_rfl) ?_ _
            go_wp2_with fail
            go_meet
            case rel => exact ⟨_, _, _, _, _, _, _, _, _, _, rfl, rfl, (Live.add_box V4_8.out (Live.add_box V5_8.out S8.out.b)), (Live.add_zed S8.out.n.t.zed (Live.add_zed S8.out.n.zed S8.out.n.t.t)), S8.out.h⟩
        · go_simp
          have U5 := under_of S4.out.b
          have z5 := S4.out.h.size
          have S5 := Lib.hid (S4.out.step (below_alloc w4 (.cells #[.bool false, .slice none 0 0] 31)))
          have V5_5 := Lib.hid (Box.new w4 w4.heap.size false none 0 0 31 rfl)
          clear S4
          refine hK.out _ _ ⟨S5.out.b.c, S5.out.b.t.c⟩ (fun h2 => ?_)
          clear hK K hH
          have hH := h2
          clear h2
          try simp only [nrm]
          refine anyH_world (fun w5 hW => ?_)
          rw [← hW] at S5 hH V5_5
          clear hW
          refine wpAnyH_ready (rs := [4]) (by kernel_rfl) (by simp) (ready_cons rfl (fun K hK => ?_) (AllReadyH.nil))
          · go_simp
            have U4 := under_of S5.out.b
            have z4 := S5.out.h.size
            have S6 := Lib.hid (S5.out.step (below_alloc w5 (.cells #[.bool false, .slice none 0 0] 31)))
            have V4_6 := Lib.hid (Box.new w5 w5.heap.size false none 0 0 31 rfl)
            have ne5_4 := Nat.ne_of_lt V5_5.out.lt
            have V5_6 := Lib.hid (V5_5.out.below (below_alloc w5 (.cells #[.bool false, .slice none 0 0] 31)))
            clear V5_5
            clear S5
            refine hK.out _ _ ⟨S6.out.b.c, S6.out.b.t.c⟩ (fun h2 => ?_)
            clear hK K hH
            have hH := h2
            clear h2
            try simp only [nrm]
            refine anyH_world (fun w6 hW => ?_)
            rw [← hW] at S6 hH V5_6 V4_6
            clear hW
            have sb0 := V4_6.out.c0
            have sb1 := V4_6.out.c1
            have sb2 := V4_6.out.f0
            have sb3 := V4_6.out.f1
            refine step_one 6 rfl (by kernel_rfl) (fun K hK => ?_)
            go_simp
            have S7 := Lib.hid (S6.out.put V4_6.out (.bool u_m) (.slice u_0 u_n u_c) z4 (under_apart U4) (nums_apart rfl))
            have V4_7 := Lib.hid (V4_6.out.set u_m u_0 u_n u_c)
            have V5_7 := Lib.hid (V5_6.out.far (c := w5.heap.size) (by omega) (.bool u_m) (.slice u_0 u_n u_c))
            clear S6 V4_6 V5_6 sb0 sb1 sb2 sb3
            refine hK.out _ _ ⟨S7.out.b.c, S7.out.b.t.c⟩ (fun h2 => ?_)
            clear hK K hH
            have hH := h2
            clear h2
            try simp only [nrm]
            refine anyH_world (fun w7 hW => ?_)
            rw [← hW] at S7 hH V4_7 V5_7
            clear hW
            have sb0 := V5_7.out.c0
            have sb1 := V5_7.out.c1
            have sb2 := V5_7.out.f0
            have sb3 := V5_7.out.f1
            refine step_one 7 rfl (by kernel_rfl) (fun K hK => ?_)
            go_simp
            have S8 := Lib.hid (S7.out.put V5_7.out (.bool v_m) (.slice v_0 v_n v_c) z5 (under_apart U5) (nums_apart rfl))
            have V5_8 := Lib.hid (V5_7.out.set v_m v_0 v_n v_c)
            have V4_8 := Lib.hid (V4_7.out.far (c := w4.heap.size) (by omega) (.bool v_m) (.slice v_0 v_n v_c))
            clear S7 V4_7 V5_7 sb0 sb1 sb2 sb3
            refine hK.out _ _ ⟨S8.out.b.c, S8.out.b.t.c⟩ (fun h2 => ?_)
            clear hK K hH
            have hH := h2
            clear h2
            try simp only [nrm]
            refine anyH_world (fun w8 hW => ?_)
            rw [← hW] at S8 hH V4_8 V5_8
            clear hW
            refine wpAnyH_done (by kernel_rfl) ?_ _
            go_wp2_with fail
            go_meet
            case rel => exact ⟨_, _, _, _, _, _, _, _, _, _, rfl, rfl, (Live.add_box V4_8.out (Live.add_box V5_8.out S8.out.b)), (Live.add_zed S8.out.n.t.zed (Live.add_zed S8.out.n.zed S8.out.n.t.t)), S8.out.h⟩
      · go_simp
        have U4 := under_of S3.out.b
        have z4 := S3.out.h.size
        have S4 := Lib.hid (S3.out.step (below_alloc w3 (.cells #[.bool false, .slice none 0 0] 31)))
        have V4_4 := Lib.hid (Box.new w3 w3.heap.size false none 0 0 31 rfl)
        clear S3
        refine hK.out _ _ ⟨S4.out.b.c, S4.out.b.t.c⟩ (fun h2 => ?_)
        clear hK K hH
        have hH := h2
        clear h2
        try simp only [nrm]
        refine anyH_world (fun w4 hW => ?_)
        rw [← hW] at S4 hH V4_4
        clear hW
        refine wpAnyH_ready (rs := [3, 5]) (by kernel_rfl) (by simp) (ready_cons rfl (fun K hK => ?_) (ready_cons rfl (fun K hK => ?_) (AllReadyH.nil)))
        · go_simp
          refine (zof_any S4.out.n.t.t.num).mono ?_
          rintro e w5 ⟨v_m, v_0, v_n, v_c, rfl, hX, hB⟩
          have S5 := Lib.hid ((S4.out.step hB).zed (hX.zx bd_v (by omega)))
          clear S4 hX
          have V4_5 := Lib.hid (V4_4.out.below hB)
          clear V4_4
          clear hB
          go_wp2_with fail
          refine hK.out _ _ ⟨S5.out.b.c, S5.out.b.t.c⟩ (fun h2 => ?_)
          clear hK K hH
          have hH := h2
          clear h2
          try simp only [nrm]
          refine wpAnyH_ready (rs := [5]) (by kernel_rfl) (by simp) (ready_cons rfl (fun K hK => ?_) (AllReadyH.nil))
          · go_simp
            have U5 := under_of S5.out.b
            have z5 := S5.out.h.size
            have S6 := Lib.hid (S5.out.step (below_alloc w5 (.cells #[.bool false, .slice none 0 0] 31)))
            have V5_6 := Lib.hid (Box.new w5 w5.heap.size false none 0 0 31 rfl)
            have ne4_5 := Nat.ne_of_lt V4_5.out.lt
            have V4_6 := Lib.hid (V4_5.out.below (below_alloc w5 (.cells #[.bool false, .slice none 0 0] 31)))
            clear V4_5
            clear S5
            refine hK.out _ _ ⟨S6.out.b.c, S6.out.b.t.c⟩ (fun h2 => ?_)
            clear hK K hH
            have hH := h2
            clear h2
            try simp only [nrm]
            refine anyH_world (fun w6 hW => ?_)
            rw [← hW] at S6 hH V4_6 V5_6
            clear hW
            have sb0 := V4_6.out.c0
            have sb1 := V4_6.out.c1
            have sb2 := V4_6.out.f0
            have sb3 := V4_6.out.f1
            refine step_one 6 rfl (by kernel_rfl) (fun K hK => ?_)
            go_simp
            have S7 := Lib.hid (S6.out.put V4_6.out (.bool u_m) (.slice u_0 u_n u_c) z4 (under_apart U4) (nums_apart rfl))
            have V4_7 := Lib.hid (V4_6.out.set u_m u_0 u_n u_c)
            have V5_7 := Lib.hid (V5_6.out.far (c := w3.heap.size) (by omega) (.bool u_m) (.slice u_0 u_n u_c))
            clear S6 V4_6 V5_6 sb0 sb1 sb2 sb3
            refine hK.out _ _ ⟨S7.out.b.c, S7.out.b.t.c⟩ (fun h2 => ?_)
            clear hK K hH
            have hH := h2
            clear h2
            try simp only [nrm]
            refine anyH_world (fun w7 hW => ?_)
            rw [← hW] at S7 hH V4_7 V5_7
            clear hW
            have sb0 := V5_7.out.c0
            have sb1 := V5_7.out.c1
            have sb2 := V5_7.out.f0
            have sb3 := V5_7.out.f1
            refine step_one 7 rfl (by kernel_rfl) (fun K hK => ?_)
            go_simp
            have S8 := Lib.hid (S7.out.put V5_7.out (.bool v_m) (.slice v_0 v_n v_c) z5 (under_apart U5) (nums_apart rfl))
            have V5_8 := Lib.hid (V5_7.out.set v_m v_0 v_n v_c)
            have V4_8 := Lib.hid (V4_7.out.far (c := w5.heap.size) (by omega) (.bool v_m) (.slice v_0 v_n v_c))
            clear S7 V4_7 V5_7 sb0 sb1 sb2 sb3
            refine hK.out _ _ ⟨S8.out.b.c, S8.out.b.t.c⟩ (fun h2 => ?_)
            clear hK K hH
            have hH := h2
            clear h2
            try simp only [nrm]
            refine anyH_world (fun w8 hW => ?_)
            rw [← hW] at S8 hH V4_8 V5_8
            clear hW
            refine wpAnyH_done (by kernel_rfl) ?_ _
            go_wp2_with fail
            go_meet
            case rel => exact ⟨_, _, _, _, _, _, _, _, _, _, rfl, rfl, (Live.add_box V4_8.out (Live.add_box V5_8.out S8.out.b)), (Live.add_zed S8.out.n.t.zed (Live.add_zed S8.out.n.zed S8.out.n.t.t)), S8.out.h⟩
        · go_simp
          have U5 := under_of S4.out.b
          have z5 := S4.out.h.size
          have S5 := Lib.hid (S4.out.step (below_alloc w4 (.cells #[.bool false, .slice none 0 0] 31)))
          have V5_5 := Lib.hid (Box.new w4 w4.heap.size false none 0 0 31 rfl)
          have ne4_5 := Nat.ne_of_lt V4_4.out.lt
          have V4_5 := Lib.hid (V4_4.out.below (below_alloc w4 (.cells #[.bool false, .slice none 0 0] 31)))
          clear V4_4
          clear S4
          refine hK.out _ _ ⟨S5.out.b.c, S5.out.b.t.c⟩ (fun h2 => ?_)
          clear hK K hH
          have hH := h2
          clear h2
          try simp only [nrm]
          refine anyH_world (fun w5 hW => ?_)
          rw [← hW] at S5 hH V4_5 V5_5
          clear hW
          refine wpAnyH_ready (rs := [3]) (by kernel_rfl) (by simp) (ready_cons rfl (fun K hK => ?_) (AllReadyH.nil))
          · go_simp
            refine (zof_any S5.out.n.t.t.num).mono ?_
            rintro e w6 ⟨v_m, v_0, v_n, v_c, rfl, hX, hB⟩
            have S6 := Lib.hid ((S5.out.step hB).zed (hX.zx bd_v (by omega)))
            clear S5 hX
            have V4_6 := Lib.hid (V4_5.out.below hB)
            clear V4_5
            have V5_6 := Lib.hid (V5_5.out.below hB)
            clear V5_5
            clear hB
            go_wp2_with fail
            refine hK.out _ _ ⟨S6.out.b.c, S6.out.b.t.c⟩ (fun h2 => ?_)
            clear hK K hH
            have hH := h2
            clear h2
            try simp only [nrm]
            have sb0 := V4_6.out.c0
            have sb1 := V4_6.out.c1
            have sb2 := V4_6.out.f0
            have sb3 := V4_6.out.f1
            refine step_one 6 rfl (by kernel_rfl) (fun K hK => ?_)
            go_simp
            have S7 := Lib.hid (S6.out.put V4_6.out (.bool u_m) (.slice u_0 u_n u_c) z4 (under_apart U4) (nums_apart rfl))
            have V4_7 := Lib.hid (V4_6.out.set u_m u_0 u_n u_c)
            have V5_7 := Lib.hid (V5_6.out.far (c := w3.heap.size) (by omega) (.bool u_m) (.slice u_0 u_n u_c))
            clear S6 V4_6 V5_6 sb0 sb1 sb2 sb3
            refine hK.out _ _ ⟨S7.out.b.c, S7.out.b.t.c⟩ (fun h2 => ?_)
            clear hK K hH
            have hH := h2
            clear h2
            try simp only [nrm]
            refine anyH_world (fun w7 hW => ?_)
            rw [← hW] at S7 hH V4_7 V5_7
            clear hW
            have sb0 := V5_7.out.c0
            have sb1 := V5_7.out.c1
            have sb2 := V5_7.out.f0
            have sb3 := V5_7.out.f1
            refine step_one 7 rfl (by kernel_rfl) (fun K hK => ?_)
            go_simp
            have S8 := Lib.hid (S7.out.put V5_7.out (.bool v_m) (.slice v_0 v_n v_c) z5 (under_apart U5) (nums_apart rfl))
            have V5_8 := Lib.hid (V5_7.out.set v_m v_0 v_n v_c)
            have V4_8 := Lib.hid (V4_7.out.far (c := w4.heap.size) (by omega) (.bool v_m) (.slice v_0 v_n v_c))
            clear S7 V4_7 V5_7 sb0 sb1 sb2 sb3
            refine hK.out _ _ ⟨S8.out.b.c, S8.out.b.t.c⟩ (fun h2 => ?_)
            clear hK K hH
            have hH := h2
            clear h2
            try simp only [nrm]
            refine anyH_world (fun w8 hW => ?_)
            rw [← hW] at S8 hH V4_8 V5_8
            clear hW
            refine wpAnyH_done (by kernel_rfl) ?_ _
            go_wp2_with fail
            go_meet
            case rel => exact ⟨_, _, _, _, _, _, _, _, _, _, rfl, rfl, (Live.add_box V4_8.out (Live.add_box V5_8.out S8.out.b)), (Live.add_zed S8.out.n.t.zed (Live.add_zed S8.out.n.zed S8.out.n.t.t)), S8.out.h⟩
      · go_simp
        have U5 := under_of S3.out.b
        have z5 := S3.out.h.size
        have S4 := Lib.hid (S3.out.step (below_alloc w3 (.cells #[.bool false, .slice none 0 0] 31)))
        have V5_4 := Lib.hid (Box.new w3 w3.heap.size false none 0 0 31 rfl)
        clear S3
        refine hK.out _ _ ⟨S4.out.b.c, S4.out.b.t.c⟩ (fun h2 => ?_)
        clear hK K hH
        have hH := h2
        clear h2
        try simp only [nrm]
        refine anyH_world (fun w4 hW => ?_)
        rw [← hW] at S4 hH V5_4
        clear hW
        refine wpAnyH_ready (rs := [3, 4]) (by kernel_rfl) (by simp) (ready_cons rfl (fun K hK => ?_) (ready_cons rfl (fun K hK => ?_) (AllReadyH.nil)))
        · go_simp
          refine (zof_any S4.out.n.t.t.num).mono ?_
          rintro e w5 ⟨v_m, v_0, v_n, v_c, rfl, hX, hB⟩
          have S5 := Lib.hid ((S4.out.step hB).zed (hX.zx bd_v (by omega)))
          clear S4 hX
          have V5_5 := Lib.hid (V5_4.out.below hB)
          clear V5_4
          clear hB
          go_wp2_with fail
          refine hK.out _ _ ⟨S5.out.b.c, S5.out.b.t.c⟩ (fun h2 => ?_)
          clear hK K hH
          have hH := h2
          clear h2
          try simp only [nrm]
          refine wpAnyH_ready (rs := [4]) (by kernel_rfl) (by simp) (ready_cons rfl (fun K hK => ?_) (AllReadyH.nil))
          · go_simp
            have U4 := under_of S5.out.b
            have z4 := S5.out.h.size
            have S6 := Lib.hid (S5.out.step (below_alloc w5 (.cells #[.bool false, .slice none 0 0] 31)))
            have V4_6 := Lib.hid (Box.new w5 w5.heap.size false none 0 0 31 rfl)
            have ne5_4 := Nat.ne_of_lt V5_5.out.lt
            have V5_6 := Lib.hid (V5_5.out.below (below_alloc w5 (.cells #[.bool false, .slice none 0 0] 31)))
            clear V5_5
            clear S5
            refine hK.out _ _ ⟨S6.out.b.c, S6.out.b.t.c⟩ (fun h2 => ?_)
            clear hK K hH
            have hH := h2
            clear h2
            try simp only [nrm]
            refine anyH_world (fun w6 hW => ?_)
            rw [← hW] at S6 hH V5_6 V4_6
            clear hW
            have sb0 := V4_6.out.c0
            have sb1 := V4_6.out.c1
            have sb2 := V4_6.out.f0
            have sb3 := V4_6.out.f1
            refine step_one 6 rfl (by kernel_rfl) (fun K hK => ?_)
            go_simp
            have S7 := Lib.hid (S6.out.put V4_6.out (.bool u_m) (.slice u_0 u_n u_c) z4 (under_apart U4) (nums_apart rfl))
            have V4_7 := Lib.hid (V4_6.out.set u_m u_0 u_n u_c)
            have V5_7 := Lib.hid (V5_6.out.far (c := w5.heap.size) (by omega) (.bool u_m) (.slice u_0 u_n u_c))
            clear S6 V4_6 V5_6 sb0 sb1 sb2 sb3
            refine hK.out _ _ ⟨S7.out.b.c, S7.out.b.t.c⟩ (fun h2 => ?_)
            clear hK K hH
            have hH := h2
            clear h2
            try simp only [nrm]
            refine anyH_world (fun w7 hW => ?_)
            rw [← hW] at S7 hH V4_7 V5_7
            clear hW
            have sb0 := V5_7.out.c0
            have sb1 := V5_7.out.c1
            have sb2 := V5_7.out.f0
            have sb3 := V5_7.out.f1
            refine step_one 7 rfl (by kernel_rfl) (fun K hK => ?_)
            go_simp
            have S8 := Lib.hid (S7.out.put V5_7.out (.bool v_m) (.slice v_0 v_n v_c) z5 (under_apart U5) (nums_apart rfl))
            have V5_8 := Lib.hid (V5_7.out.set v_m v_0 v_n v_c)
            have V4_8 := Lib.hid (V4_7.out.far (c := w3.heap.size) (by omega) (.bool v_m) (.slice v_0 v_n v_c))
            clear S7 V4_7 V5_7 sb0 sb1 sb2 sb3
            refine hK.out _ _ ⟨S8.out.b.c, S8.out.b.t.c⟩ (fun h2 => ?_)
            clear hK K hH
            have hH := h2
            clear h2
            try simp only [nrm]
            refine anyH_world (fun w8 hW => ?_)
            rw [← hW] at S8 hH V4_8 V5_8
            clear hW
            refine wpAnyH_done (by kernel_rfl) ?_ _
            go_wp2_with fail
            go_meet
            case rel => exact ⟨_, _, _, _, _, _, _, _, _, _, rfl, rfl, (Live.add_box V4_8.out (Live.add_box V5_8.out S8.out.b)), (Live.add_zed S8.out.n.t.zed (Live.add_zed S8.out.n.zed S8.out.n.t.t)), S8.out.h⟩
        · go_simp
          have U4 := under_of S4.out.b
          have z4 := S4.out.h.size
          have S5 := Lib.hid (S4.out.step (below_alloc w4 (.cells #[.bool false, .slice none 0 0] 31)))
          have V4_5 := Lib.hid (Box.new w4 w4.heap.size false none 0 0 31 rfl)
          have ne5_4 := Nat.ne_of_lt V5_4.out.lt
          have V5_5 := Lib.hid (V5_4.out.below (below_alloc w4 (.cells #[.bool false, .slice none 0 0] 31)))
          clear V5_4
          clear S4
          refine hK.out _ _ ⟨S5.out.b.c, S5.out.b.t.c⟩ (fun h2 => ?_)
          clear hK K hH
          have hH := h2
          clear h2
          try simp only [nrm]
          refine anyH_world (fun w5 hW => ?_)
          rw [← hW] at S5 hH V5_5 V4_5
          clear hW
          refine wpAnyH_ready (rs := [3]) (by kernel_rfl) (by simp) (ready_cons rfl (fun K hK => ?_) (AllReadyH.nil))
          · go_simp
            refine (zof_any S5.out.n.t.t.num).mono ?_
            rintro e w6 ⟨v_m, v_0, v_n, v_c, rfl, hX, hB⟩
            have S6 := Lib.hid ((S5.out.step hB).zed (hX.zx bd_v (by omega)))
            clear S5 hX
            have V5_6 := Lib.hid (V5_5.out.below hB)
            clear V5_5
            have V4_6 := Lib.hid (V4_5.out.below hB)
            clear V4_5
            clear hB
            go_wp2_with fail
            refine hK.out _ _ ⟨S6.out.b.c, S6.out.b.t.c⟩ (fun h2 => ?_)
            clear hK K hH
            have hH := h2
            clear h2
            try simp only [nrm]
            have sb0 := V4_6.out.c0
            have sb1 := V4_6.out.c1
            have sb2 := V4_6.out.f0
            have sb3 := V4_6.out.f1
            refine step_one 6 rfl (by kernel_rfl) (fun K hK => ?_)
            go_simp
            have S7 := Lib.hid (S6.out.put V4_6.out (.bool u_m) (.slice u_0 u_n u_c) z4 (under_apart U4) (nums_apart rfl))
            have V4_7 := Lib.hid (V4_6.out.set u_m u_0 u_n u_c)
            have V5_7 := Lib.hid (V5_6.out.far (c := w4.heap.size) (by omega) (.bool u_m) (.slice u_0 u_n u_c))
            clear S6 V4_6 V5_6 sb0 sb1 sb2 sb3
            refine hK.out _ _ ⟨S7.out.b.c, S7.out.b.t.c⟩ (fun h2 => ?_)
            clear hK K hH
            have hH := h2
            clear h2
            try simp only [nrm]
            refine anyH_world (fun w7 hW => ?_)
            rw [← hW] at S7 hH V4_7 V5_7
            clear hW
            have sb0 := V5_7.out.c0
            have sb1 := V5_7.out.c1
            have sb2 := V5_7.out.f0
            have sb3 := V5_7.out.f1
            refine step_one 7 rfl (by kernel_rfl) (fun K hK => ?_)
            go_simp
            have S8 := Lib.hid (S7.out.put V5_7.out (.bool v_m) (.slice v_0 v_n v_c) z5 (under_apart U5) (nums_apart rfl))
            have V5_8 := Lib.hid (V5_7.out.set v_m v_0 v_n v_c)
            have V4_8 := Lib.hid (V4_7.out.far (c := w3.heap.size) (by omega) (.bool v_m) (.slice v_0 v_n v_c))
            clear S7 V4_7 V5_7 sb0 sb1 sb2 sb3
            refine hK.out _ _ ⟨S8.out.b.c, S8.out.b.t.c⟩ (fun h2 => ?_)
            clear hK K hH
            have hH := h2
            clear h2
            try simp only [nrm]
            refine anyH_world (fun w8 hW => ?_)
            rw [← hW] at S8 hH V4_8 V5_8
            clear hW
            refine wpAnyH_done (by kernel_rfl) ?_ _
            go_wp2_with fail
            go_meet
            case rel => exact ⟨_, _, _, _, _, _, _, _, _, _, rfl, rfl, (Live.add_box V4_8.out (Live.add_box V5_8.out S8.out.b)), (Live.add_zed S8.out.n.t.zed (Live.add_zed S8.out.n.zed S8.out.n.t.t)), S8.out.h⟩
    · go_simp
      have U4 := under_of S2.out.b
      have z4 := S2.out.h.size
      have S3 := Lib.hid (S2.out.step (below_alloc w2 (.cells #[.bool false, .slice none 0 0] 31)))
      have V4_3 := Lib.hid (Box.new w2 w2.heap.size false none 0 0 31 rfl)
      clear S2
      refine hK.out _ _ ⟨S3.out.b.c, S3.out.b.t.c⟩ (fun h2 => ?_)
      clear hK K hH
      have hH := h2
      clear h2
      try simp only [nrm]
      refine anyH_world (fun w3 hW => ?_)
      rw [← hW] at S3 hH V4_3
      clear hW
      refine wpAnyH_ready (rs := [1, 5]) (by kernel_rfl) (by simp) (ready_cons rfl (fun K hK => ?_) (ready_cons rfl (fun K hK => ?_) (AllReadyH.nil)))
      · go_simp
        refine (zof_any S3.out.n.num).mono ?_
        rintro e w4 ⟨u_m, u_0, u_n, u_c, rfl, hX, hB⟩
        have S4 := Lib.hid ((S3.out.step hB).zed (hX.zx bd_u (by omega)))
        clear S3 hX
        have V4_4 := Lib.hid (V4_3.out.below hB)
        clear V4_3
        clear hB
        go_wp2_with fail
        refine hK.out _ _ ⟨S4.out.b.c, S4.out.b.t.c⟩ (fun h2 => ?_)
        clear hK K hH
        have hH := h2
        clear h2
        try simp only [nrm]
        refine wpAnyH_ready (rs := [3, 5]) (by kernel_rfl) (by simp) (ready_cons rfl (fun K hK => ?_) (ready_cons rfl (fun K hK => ?_) (AllReadyH.nil)))
        · go_simp
          refine (zof_any S4.out.n.t.t.num).mono ?_
          rintro e w5 ⟨v_m, v_0, v_n, v_c, rfl, hX, hB⟩
          have S5 := Lib.hid ((S4.out.step hB).zed (hX.zx bd_v (by omega)))
          clear S4 hX
          have V4_5 := Lib.hid (V4_4.out.below hB)
          clear V4_4
          clear hB
          go_wp2_with fail
          refine hK.out _ _ ⟨S5.out.b.c, S5.out.b.t.c⟩ (fun h2 => ?_)
          clear hK K hH
          have hH := h2
          clear h2
          try simp only [nrm]
          refine wpAnyH_ready (rs := [5]) (by kernel_rfl) (by simp) (ready_cons rfl (fun K hK => ?_) (AllReadyH.nil))
          · go_simp
            have U5 := under_of S5.out.b
            have z5 := S5.out.h.size
            have S6 := Lib.hid (S5.out.step (below_alloc w5 (.cells #[.bool false, .slice none 0 0] 31)))
            have V5_6 := Lib.hid (Box.new w5 w5.heap.size false none 0 0 31 rfl)
            have ne4_5 := Nat.ne_of_lt V4_5.out.lt
            have V4_6 := Lib.hid (V4_5.out.below (below_alloc w5 (.cells #[.bool false, .slice none 0 0] 31)))
            clear V4_5
            clear S5
            refine hK.out _ _ ⟨S6.out.b.c, S6.out.b.t.c⟩ (fun h2 => ?_)
            clear hK K hH
            have hH := h2
            clear h2
            try simp only [nrm]
            refine anyH_world (fun w6 hW => ?_)
            rw [← hW] at S6 hH V4_6 V5_6
            clear hW
            have sb0 := V4_6.out.c0
            have sb1 := V4_6.out.c1
            have sb2 := V4_6.out.f0
            have sb3 := V4_6.out.f1
            refine step_one 6 rfl (by kernel_rfl) (fun K hK => ?_)
            go_simp
            have S7 := Lib.hid (S6.out.put V4_6.out (.bool u_m) (.slice u_0 u_n u_c) z4 (under_apart U4) (nums_apart rfl))
            have V4_7 := Lib.hid (V4_6.out.set u_m u_0 u_n u_c)
            have V5_7 := Lib.hid (V5_6.out.far (c := w2.heap.size) (by omega) (.bool u_m) (.slice u_0 u_n u_c))
            clear S6 V4_6 V5_6 sb0 sb1 sb2 sb3
            refine hK.out _ _ ⟨S7.out.b.c, S7.out.b.t.c⟩ (fun h2 => ?_)
            clear hK K hH
            have hH := h2
            clear h2
            try simp only [nrm]
            refine anyH_world (fun w7 hW => ?_)
            rw [← hW] at S7 hH V4_7 V5_7
            clear hW
            have sb0 := V5_7.out.c0
            have sb1 := V5_7.out.c1
            have sb2 := V5_7.out.f0
            have sb3 := V5_7.out.f1
            refine step_one 7 rfl (by kernel_rfl) (fun K hK => ?_)
            go_simp
            have S8 := Lib.hid (S7.out.put V5_7.out (.bool v_m) (.slice v_0 v_n v_c) z5 (under_apart U5) (nums_apart rfl))
            have V5_8 := Lib.hid (V5_7.out.set v_m v_0 v_n v_c)
            have V4_8 := Lib.hid (V4_7.out.far (c := w5.heap.size) (by omega) (.bool v_m) (.slice v_0 v_n v_c))
            clear S7 V4_7 V5_7 sb0 sb1 sb2 sb3
            refine hK.out _ _ ⟨S8.out.b.c, S8.out.b.t.c⟩ (fun h2 => ?_)
            clear hK K hH
            have hH := h2
            clear h2
            try simp only [nrm]
            refine anyH_world (fun w8 hW => ?_)
            rw [← hW] at S8 hH V4_8 V5_8
            clear hW
            refine wpAnyH_done (by kernel_rfl) ?_ _
            go_wp2_with fail
            go_meet
            case rel => exact ⟨_, _, _, _, _, _, _, _, _, _, rfl, rfl, (Live.add_box V4_8.out (Live.add_box V5_8.out S8.out.b)), (Live.add_zed S8.out.n.t.zed (Live.add_zed S8.out.n.zed S8.out.n.t.t)), S8.out.h⟩
        · go_simp
          have U5 := under_of S4.out.b
          have z5 := S4.out.h.size
          have S5 := Lib.hid (S4.out.step (below_alloc w4 (.cells #[.bool false, .slice none 0 0] 31)))
          have V5_5 := Lib.hid (Box.new w4 w4.heap.size false none 0 0 31 rfl)
          have ne4_5 := Nat.ne_of_lt V4_4.out.lt
          have V4_5 := Lib.hid (V4_4.out.below (below_alloc w4 (.cells #[.bool false, .slice none 0 0] 31)))
          clear V4_4
          clear S4
          refine hK.out _ _ ⟨S5.out.b.c, S5.out.b.t.c⟩ (fun h2 => ?_)
          clear hK K hH
          have hH := h2
          clear h2
          try simp only [nrm]
          refine anyH_world (fun w5 hW => ?_)
          rw [← hW] at S5 hH V4_5 V5_5
          clear hW
          refine wpAnyH_ready (rs := [3]) (by kernel_rfl) (by simp) (ready_cons rfl (fun K hK => ?_) (AllReadyH.nil))
          · go_simp
            refine (zof_any S5.out.n.t.t.num).mono ?_
            rintro e w6 ⟨v_m, v_0, v_n, v_c, rfl, hX, hB⟩
            have S6 := Lib.hid ((S5.out.step hB).zed (hX.zx bd_v (by omega)))
            clear S5 hX
            have V4_6 := Lib.hid (V4_5.out.below hB)
            clear V4_5
            have V5_6 := Lib.hid (V5_5.out.below hB)
            clear V5_5
            clear hB
            go_wp2_with fail
            refine hK.out _ _ ⟨S6.out.b.c, S6.out.b.t.c⟩ (fun h2 => ?_)
            clear hK K hH
            have hH := h2
            clear h2
            try simp only [nrm]
            have sb0 := V4_6.out.c0
            have sb1 := V4_6.out.c1
            have sb2 := V4_6.out.f0
            have sb3 := V4_6.out.f1
            refine step_one 6 rfl (by kernel_rfl) (fun K hK => ?_)
            go_simp
            have S7 := Lib.hid (S6.out.put V4_6.out (.bool u_m) (.slice u_0 u_n u_c) z4 (under_apart U4) (nums_apart rfl))
            have V4_7 := Lib.hid (V4_6.out.set u_m u_0 u_n u_c)
            have V5_7 := Lib.hid (V5_6.out.far (c := w2.heap.size) (by omega) (.bool u_m) (.slice u_0 u_n u_c))
            clear S6 V4_6 V5_6 sb0 sb1 sb2 sb3
            refine hK.out _ _ ⟨S7.out.b.c, S7.out.b.t.c⟩ (fun h2 => ?_)
            clear hK K hH
            have hH := h2
            clear h2
            try simp only [nrm]
            refine anyH_world (fun w7 hW => ?_)
            rw [← hW] at S7 hH V4_7 V5_7
            clear hW
            have sb0 := V5_7.out.c0
            have sb1 := V5_7.out.c1
            have sb2 := V5_7.out.f0
            have sb3 := V5_7.out.f1
            refine step_one 7 rfl (by kernel_rfl) (fun K hK => ?_)
            go_simp
            have S8 := Lib.hid (S7.out.put V5_7.out (.bool v_m) (.slice v_0 v_n v_c) z5 (under_apart U5) (nums_apart rfl))
            have V5_8 := Lib.hid (V5_7.out.set v_m v_0 v_n v_c)
            have V4_8 := Lib.hid (V4_7.out.far (c := w4.heap.size) (by omega) (.bool v_m) (.slice v_0 v_n v_c))
            clear S7 V4_7 V5_7 sb0 sb1 sb2 sb3
            refine hK.out _ _ ⟨S8.out.b.c, S8.out.b.t.c⟩ (fun h2 => ?_)
            clear hK K hH
            have hH := h2
            clear h2
            try simp only [nrm]
            refine anyH_world (fun w8 hW => ?_)
            rw [← hW] at S8 hH V4_8 V5_8
            clear hW
            refine wpAnyH_done (by kernel_rfl) ?_ _
            go_wp2_with fail
            go_meet
            case rel => exact ⟨_, _, _, _, _, _, _, _, _, _, rfl, rfl, (Live.add_box V4_8.out (Live.add_box V5_8.out S8.out.b)), (Live.add_zed S8.out.n.t.zed (Live.add_zed S8.out.n.zed S8.out.n.t.t)), S8.out.h⟩
      · go_simp
        have U5 := under_of S3.out.b
        have z5 := S3.out.h.size
        have S4 := Lib.hid (S3.out.step (below_alloc w3 (.cells #[.bool false, .slice none 0 0] 31)))
        have V5_4 := Lib.hid (Box.new w3 w3.heap.size false none 0 0 31 rfl)
        have ne4_5 := Nat.ne_of_lt V4_3.out.lt
        have V4_4 := Lib.hid (V4_3.out.below (below_alloc w3 (.cells #[.bool false, .slice none 0 0] 31)))
        clear V4_3
        clear S3
        refine hK.out _ _ ⟨S4.out.b.c, S4.out.b.t.c⟩ (fun h2 => ?_)
        clear hK K hH
        have hH := h2
        clear h2
        try simp only [nrm]
        refine anyH_world (fun w4 hW => ?_)
        rw [← hW] at S4 hH V4_4 V5_4
        clear hW
        refine wpAnyH_ready (rs := [1]) (by kernel_rfl) (by simp) (ready_cons rfl (fun K hK => ?_) (AllReadyH.nil))
        · go_simp
          refine (zof_any S4.out.n.num).mono ?_
          rintro e w5 ⟨u_m, u_0, u_n, u_c, rfl, hX, hB⟩
          have S5 := Lib.hid ((S4.out.step hB).zed (hX.zx bd_u (by omega)))
          clear S4 hX
          have V4_5 := Lib.hid (V4_4.out.below hB)
          clear V4_4
          have V5_5 := Lib.hid (V5_4.out.below hB)
          clear V5_4
          clear hB
          go_wp2_with fail
          refine hK.out _ _ ⟨S5.out.b.c, S5.out.b.t.c⟩ (fun h2 => ?_)
          clear hK K hH
          have hH := h2
          clear h2
          try simp only [nrm]
          refine wpAnyH_ready (rs := [3]) (by kernel_rfl) (by simp) (ready_cons rfl (fun K hK => ?_) (AllReadyH.nil))
          · go_simp
            refine (zof_any S5.out.n.t.t.num).mono ?_
            rintro e w6 ⟨v_m, v_0, v_n, v_c, rfl, hX, hB⟩
            have S6 := Lib.hid ((S5.out.step hB).zed (hX.zx bd_v (by omega)))
            clear S5 hX
            have V4_6 := Lib.hid (V4_5.out.below hB)
            clear V4_5
            have V5_6 := Lib.hid (V5_5.out.below hB)
            clear V5_5
            clear hB
            go_wp2_with fail
            refine hK.out _ _ ⟨S6.out.b.c, S6.out.b.t.c⟩ (fun h2 => ?_)
            clear hK K hH
            have hH := h2
            clear h2
            try simp only [nrm]
            have sb0 := V4_6.out.c0
            have sb1 := V4_6.out.c1
            have sb2 := V4_6.out.f0
            have sb3 := V4_6.out.f1
            refine step_one 6 rfl (by kernel_rfl) (fun K hK => ?_)
            go_simp
            have S7 := Lib.hid (S6.out.put V4_6.out (.bool u_m) (.slice u_0 u_n u_c) z4 (under_apart U4) (nums_apart rfl))
            have V4_7 := Lib.hid (V4_6.out.set u_m u_0 u_n u_c)
            have V5_7 := Lib.hid (V5_6.out.far (c := w2.heap.size) (by omega) (.bool u_m) (.slice u_0 u_n u_c))
            clear S6 V4_6 V5_6 sb0 sb1 sb2 sb3
            refine hK.out _ _ ⟨S7.out.b.c, S7.out.b.t.c⟩ (fun h2 => ?_)
            clear hK K hH
            have hH := h2
            clear h2
            try simp only [nrm]
            refine anyH_world (fun w7 hW => ?_)
            rw [← hW] at S7 hH V4_7 V5_7
            clear hW
            have sb0 := V5_7.out.c0
            have sb1 := V5_7.out.c1
            have sb2 := V5_7.out.f0
            have sb3 := V5_7.out.f1
            refine step_one 7 rfl (by kernel_rfl) (fun K hK => ?_)
            go_simp
            have S8 := Lib.hid (S7.out.put V5_7.out (.bool v_m) (.slice v_0 v_n v_c) z5 (under_apart U5) (nums_apart rfl))
            have V5_8 := Lib.hid (V5_7.out.set v_m v_0 v_n v_c)
            have V4_8 := Lib.hid (V4_7.out.far (c := w3.heap.size) (by omega) (.bool v_m) (.slice v_0 v_n v_c))
            clear S7 V4_7 V5_7 sb0 sb1 sb2 sb3
            refine hK.out _ _ ⟨S8.out.b.c, S8.out.b.t.c⟩ (fun h2 => ?_)
            clear hK K hH
            have hH := h2
            clear h2
            try simp only [nrm]
            refine anyH_world (fun w8 hW => ?_)
            rw [← hW] at S8 hH V4_8 V5_8
            clear hW
            refine wpAnyH_done (by kernel_rfl) ?_ _
            go_wp2_with fail
            go_meet
            case rel => exact ⟨_, _, _, _, _, _, _, _, _, _, rfl, rfl, (Live.add_box V4_8.out (Live.add_box V5_8.out S8.out.b)), (Live.add_zed S8.out.n.t.zed (Live.add_zed S8.out.n.zed S8.out.n.t.t)), S8.out.h⟩
    · go_simp
      have U5 := under_of S2.out.b
      have z5 := S2.out.h.size
      have S3 := Lib.hid (S2.out.step (below_alloc w2 (.cells #[.bool false, .slice none 0 0] 31)))
      have V5_3 := Lib.hid (Box.new w2 w2.heap.size false none 0 0 31 rfl)
      clear S2
      refine hK.out _ _ ⟨S3.out.b.c, S3.out.b.t.c⟩ (fun h2 => ?_)
      clear hK K hH
      have hH := h2
      clear h2
      try simp only [nrm]
      refine anyH_world (fun w3 hW => ?_)
      rw [← hW] at S3 hH V5_3
      clear hW
      refine wpAnyH_ready (rs := [1, 4]) (by kernel_rfl) (by simp) (ready_cons rfl (fun K hK => ?_) (ready_cons rfl (fun K hK => ?_) (AllReadyH.nil)))
      · go_simp
        refine (zof_any S3.out.n.num).mono ?_
        rintro e w4 ⟨u_m, u_0, u_n, u_c, rfl, hX, hB⟩
        have S4 := Lib.hid ((S3.out.step hB).zed (hX.zx bd_u (by omega)))
        clear S3 hX
        have V5_4 := Lib.hid (V5_3.out.below hB)
        clear V5_3
        clear hB
        go_wp2_with fail
        refine hK.out _ _ ⟨S4.out.b.c, S4.out.b.t.c⟩ (fun h2 => ?_)
        clear hK K hH
        have hH := h2
        clear h2
        try simp only [nrm]
        refine wpAnyH_ready (rs := [3, 4]) (by kernel_rfl) (by simp) (ready_cons rfl (fun K hK => ?_) (ready_cons rfl (fun K hK => ?_) (AllReadyH.nil)))
        · go_simp
          refine (zof_any S4.out.n.t.t.num).mono ?_
          rintro e w5 ⟨v_m, v_0, v_n, v_c, rfl, hX, hB⟩
          have S5 := Lib.hid ((S4.out.step hB).zed (hX.zx bd_v (by omega)))
          clear S4 hX
          have V5_5 := Lib.hid (V5_4.out.below hB)
          clear V5_4
          clear hB
          go_wp2_with fail
          refine hK.out _ _ ⟨S5.out.b.c, S5.out.b.t.c⟩ (fun h2 => ?_)
          clear hK K hH
          have hH := h2
          clear h2
          try simp only [nrm]
          refine wpAnyH_ready (rs := [4]) (by kernel_rfl) (by simp) (ready_cons rfl (fun K hK => ?_) (AllReadyH.nil))
          · go_simp
            have U4 := under_of S5.out.b
            have z4 := S5.out.h.size
            have S6 := Lib.hid (S5.out.step (below_alloc w5 (.cells #[.bool false, .slice none 0 0] 31)))
            have V4_6 := Lib.hid (Box.new w5 w5.heap.size false none 0 0 31 rfl)
            have ne5_4 := Nat.ne_of_lt V5_5.out.lt
            have V5_6 := Lib.hid (V5_5.out.below (below_alloc w5 (.cells #[.bool false, .slice none 0 0] 31)))
            clear V5_5
            clear S5
            refine hK.out _ _ ⟨S6.out.b.c, S6.out.b.t.c⟩ (fun h2 => ?_)
            clear hK K hH
            have hH := h2
            clear h2
            try simp only [nrm]
            refine anyH_world (fun w6 hW => ?_)
            rw [← hW] at S6 hH V5_6 V4_6
            clear hW
            have sb0 := V4_6.out.c0
            have sb1 := V4_6.out.c1
            have sb2 := V4_6.out.f0
            have sb3 := V4_6.out.f1
            refine step_one 6 rfl (by kernel_rfl) (fun K hK => ?_)
            go_simp
            have S7 := Lib.hid (S6.out.put V4_6.out (.bool u_m) (.slice u_0 u_n u_c) z4 (under_apart U4) (nums_apart rfl))
            have V4_7 := Lib.hid (V4_6.out.set u_m u_0 u_n u_c)
            have V5_7 := Lib.hid (V5_6.out.far (c := w5.heap.size) (by omega) (.bool u_m) (.slice u_0 u_n u_c))
            clear S6 V4_6 V5_6 sb0 sb1 sb2 sb3
            refine hK.out _ _ ⟨S7.out.b.c, S7.out.b.t.c⟩ (fun h2 => ?_)
            clear hK K hH
            have hH := h2
            clear h2
            try simp only [nrm]
            refine anyH_world (fun w7 hW => ?_)
            rw [← hW] at S7 hH V4_7 V5_7
            clear hW
            have sb0 := V5_7.out.c0
            have sb1 := V5_7.out.c1
            have sb2 := V5_7.out.f0
            have sb3 := V5_7.out.f1
            refine step_one 7 rfl (by kernel_rfl) (fun K hK => ?_)
            go_simp
            have S8 := Lib.hid (S7.out.put V5_7.out (.bool v_m) (.slice v_0 v_n v_c) z5 (under_apart U5) (nums_apart rfl))
            have V5_8 := Lib.hid (V5_7.out.set v_m v_0 v_n v_c)
            have V4_8 := Lib.hid (V4_7.out.far (c := w2.heap.size) (by omega) (.bool v_m) (.slice v_0 v_n v_c))
            clear S7 V4_7 V5_7 sb0 sb1 sb2 sb3
            refine hK.out _ _ ⟨S8.out.b.c, S8.out.b.t.c⟩ (fun h2 => ?_)
            clear hK K hH
            have hH := h2
            clear h2
            try simp only [nrm]
            refine anyH_world (fun w8 hW => ?_)
            rw [← hW] at S8 hH V4_8 V5_8
            clear hW
            refine wpAnyH_done (by kernel_rfl) ?_ _
            go_wp2_with fail
            go_meet
            case rel => exact ⟨_, _, _, _, _, _, _, _, _, _, rfl, rfl, (Live.add_box V4_8.out (Live.add_box V5_8.out S8.out.b)), (Live.add_zed S8.out.n.t.zed (Live.add_zed S8.out.n.zed S8.out.n.t.t)), S8.out.h⟩
        · go_simp
          have U4 := under_of S4.out.b
          have z4 := S4.out.h.size
          have S5 := Lib.hid (S4.out.step (below_alloc w4 (.cells #[.bool false, .slice none 0 0] 31)))
          have V4_5 := Lib.hid (Box.new w4 w4.heap.size false none 0 0 31 rfl)
          have ne5_4 := Nat.ne_of_lt V5_4.out.lt
          have V5_5 := Lib.hid (V5_4.out.below (below_alloc w4 (.cells #[.bool false, .slice none 0 0] 31)))
          clear V5_4
          clear S4
          refine hK.out _ _ ⟨S5.out.b.c, S5.out.b.t.c⟩ (fun h2 => ?_)
          clear hK K hH
          have hH := h2
          clear h2
          try simp only [nrm]
          refine anyH_world (fun w5 hW => ?_)
          rw [← hW] at S5 hH V5_5 V4_5
          clear hW
          refine wpAnyH_ready (rs := [3]) (by kernel_rfl) (by simp) (ready_cons rfl (fun K hK => ?_) (AllReadyH.nil))
          · go_simp
            refine (zof_any S5.out.n.t.t.num).mono ?_
            rintro e w6 ⟨v_m, v_0, v_n, v_c, rfl, hX, hB⟩
            have S6 := Lib.hid ((S5.out.step hB).zed (hX.zx bd_v (by omega)))
            clear S5 hX
            have V5_6 := Lib.hid (V5_5.out.below hB)
            clear V5_5
            have V4_6 := Lib.hid (V4_5.out.below hB)
            clear V4_5
            clear hB
            go_wp2_with fail
            refine hK.out _ _ ⟨S6.out.b.c, S6.out.b.t.c⟩ (fun h2 => ?_)
            clear hK K hH
            have hH := h2
            clear h2
            try simp only [nrm]
            have sb0 := V4_6.out.c0
            have sb1 := V4_6.out.c1
            have sb2 := V4_6.out.f0
            have sb3 := V4_6.out.f1
            refine step_one 6 rfl (by kernel_rfl) (fun K hK => ?_)
            go_simp
            have S7 := Lib.hid (S6.out.put V4_6.out (.bool u_m) (.slice u_0 u_n u_c) z4 (under_apart U4) (nums_apart rfl))
            have V4_7 := Lib.hid (V4_6.out.set u_m u_0 u_n u_c)
            have V5_7 := Lib.hid (V5_6.out.far (c := w4.heap.size) (by omega) (.bool u_m) (.slice u_0 u_n u_c))
            clear S6 V4_6 V5_6 sb0 sb1 sb2 sb3
            refine hK.out _ _ ⟨S7.out.b.c, S7.out.b.t.c⟩ (fun h2 => ?_)
            clear hK K hH
            have hH := h2
            clear h2
            try simp only [nrm]
            refine anyH_world (fun w7 hW => ?_)
            rw [← hW] at S7 hH V4_7 V5_7
            clear hW
            have sb0 := V5_7.out.c0
            have sb1 := V5_7.out.c1
            have sb2 := V5_7.out.f0
            have sb3 := V5_7.out.f1
            refine step_one 7 rfl (by kernel_rfl) (fun K hK => ?_)
            go_simp
            have S8 := Lib.hid (S7.out.put V5_7.out (.bool v_m) (.slice v_0 v_n v_c) z5 (under_apart U5) (nums_apart rfl))
            have V5_8 := Lib.hid (V5_7.out.set v_m v_0 v_n v_c)
            have V4_8 := Lib.hid (V4_7.out.far (c := w2.heap.size) (by omega) (.bool v_m) (.slice v_0 v_n v_c))
            clear S7 V4_7 V5_7 sb0 sb1 sb2 sb3
            refine hK.out _ _ ⟨S8.out.b.c, S8.out.b.t.c⟩ (fun h2 => ?_)
            clear hK K hH
            have hH := h2
            clear h2
            try simp only [nrm]
            refine anyH_world (fun w8 hW => ?_)
            rw [← hW] at S8 hH V4_8 V5_8
            clear hW
            refine wpAnyH_done (by kernel_rfl) ?_ _
            go_wp2_with fail
            go_meet
            case rel => exact ⟨_, _, _, _, _, _, _, _, _, _, rfl, rfl, (Live.add_box V4_8.out (Live.add_box V5_8.out S8.out.b)), (Live.add_zed S8.out.n.t.zed (Live.add_zed S8.out.n.zed S8.out.n.t.t)), S8.out.h⟩
      · go_simp
        have U4 := under_of S3.out.b
        have z4 := S3.out.h.size
        have S4 := Lib.hid (S3.out.step (below_alloc w3 (.cells #[.bool false, .slice none 0 0] 31)))
        have V4_4 := Lib.hid (Box.new w3 w3.heap.size false none 0 0 31 rfl)
        have ne5_4 := Nat.ne_of_lt V5_3.out.lt
        have V5_4 := Lib.hid (V5_3.out.below (below_alloc w3 (.cells #[.bool false, .slice none 0 0] 31)))
        clear V5_3
        clear S3
        refine hK.out _ _ ⟨S4.out.b.c, S4.out.b.t.c⟩ (fun h2 => ?_)
        clear hK K hH
        have hH := h2
        clear h2
        try simp only [nrm]
        refine anyH_world (fun w4 hW => ?_)
        rw [← hW] at S4 hH V5_4 V4_4
        clear hW
        refine wpAnyH_ready (rs := [1]) (by kernel_rfl) (by simp) (ready_cons rfl (fun K hK => ?_) (AllReadyH.nil))
        · go_simp
          refine (zof_any S4.out.n.num).mono ?_
          rintro e w5 ⟨u_m, u_0, u_n, u_c, rfl, hX, hB⟩
          have S5 := Lib.hid ((S4.out.step hB).zed (hX.zx bd_u (by omega)))
          clear S4 hX
          have V5_5 := Lib.hid (V5_4.out.below hB)
          clear V5_4
          have V4_5 := Lib.hid (V4_4.out.below hB)
          clear V4_4
          clear hB
          go_wp2_with fail
          refine hK.out _ _ ⟨S5.out.b.c, S5.out.b.t.c⟩ (fun h2 => ?_)
          clear hK K hH
          have hH := h2
          clear h2
          try simp only [nrm]
          refine wpAnyH_ready (rs := [3]) (by kernel_rfl) (by simp) (ready_cons rfl (fun K hK => ?_) (AllReadyH.nil))
          · go_simp
            refine (zof_any S5.out.n.t.t.num).mono ?_
            rintro e w6 ⟨v_m, v_0, v_n, v_c, rfl, hX, hB⟩
            have S6 := Lib.hid ((S5.out.step hB).zed (hX.zx bd_v (by omega)))
            clear S5 hX
            have V5_6 := Lib.hid (V5_5.out.below hB)
            clear V5_5
            have V4_6 := Lib.hid (V4_5.out.below hB)
            clear V4_5
            clear hB
            go_wp2_with fail
            refine hK.out _ _ ⟨S6.out.b.c, S6.out.b.t.c⟩ (fun h2 => ?_)
            clear hK K hH
            have hH := h2
            clear h2
            try simp only [nrm]
            have sb0 := V4_6.out.c0
            have sb1 := V4_6.out.c1
            have sb2 := V4_6.out.f0
            have sb3 := V4_6.out.f1
            refine step_one 6 rfl (by kernel_rfl) (fun K hK => ?_)
            go_simp
            have S7 := Lib.hid (S6.out.put V4_6.out (.bool u_m) (.slice u_0 u_n u_c) z4 (under_apart U4) (nums_apart rfl))
            have V4_7 := Lib.hid (V4_6.out.set u_m u_0 u_n u_c)
            have V5_7 := Lib.hid (V5_6.out.far (c := w3.heap.size) (by omega) (.bool u_m) (.slice u_0 u_n u_c))
            clear S6 V4_6 V5_6 sb0 sb1 sb2 sb3
            refine hK.out _ _ ⟨S7.out.b.c, S7.out.b.t.c⟩ (fun h2 => ?_)
            clear hK K hH
            have hH := h2
            clear h2
            try simp only [nrm]
            refine anyH_world (fun w7 hW => ?_)
            rw [← hW] at S7 hH V4_7 V5_7
            clear hW
            have sb0 := V5_7.out.c0
            have sb1 := V5_7.out.c1
            have sb2 := V5_7.out.f0
            have sb3 := V5_7.out.f1
            refine step_one 7 rfl (by kernel_rfl) (fun K hK => ?_)
            go_simp
            have S8 := Lib.hid (S7.out.put V5_7.out (.bool v_m) (.slice v_0 v_n v_c) z5 (under_apart U5) (nums_apart rfl))
            have V5_8 := Lib.hid (V5_7.out.set v_m v_0 v_n v_c)
            have V4_8 := Lib.hid (V4_7.out.far (c := w2.heap.size) (by omega) (.bool v_m) (.slice v_0 v_n v_c))
            clear S7 V4_7 V5_7 sb0 sb1 sb2 sb3
            refine hK.out _ _ ⟨S8.out.b.c, S8.out.b.t.c⟩ (fun h2 => ?_)
            clear hK K hH
            have hH := h2
            clear h2
            try simp only [nrm]
            refine anyH_world (fun w8 hW => ?_)
            rw [← hW] at S8 hH V4_8 V5_8
            clear hW
            refine wpAnyH_done (by kernel_rfl) ?_ _
            go_wp2_with fail
            go_meet
            case rel => exact ⟨_, _, _, _, _, _, _, _, _, _, rfl, rfl, (Live.add_box V4_8.out (Live.add_box V5_8.out S8.out.b)), (Live.add_zed S8.out.n.t.zed (Live.add_zed S8.out.n.zed S8.out.n.t.t)), S8.out.h⟩
  case rest =>
  clear bx_0 bx_1 by_0 by_1
  clear S1
  obtain ⟨b_u, u_m, u_0, u_n, u_c, b_v, v_m, v_0, v_n, v_c, rfl, rfl, S2⟩ := hcut
  obtain ⟨w2, hW⟩ : ∃ w2, w2 = wc := ⟨_, rfl⟩
  rw [← hW] at S2 ⊢
  clear hW
  obtain ⟨bx_0, bx_1⟩ := S2.out.b.t.t.c
  obtain ⟨by_0, by_1⟩ := S2.out.b.t.t.t.c
  obtain ⟨b_u_0, b_u_1⟩ := S2.out.b.c
  obtain ⟨b_v_0, b_v_1⟩ := S2.out.b.t.c
  go_wp2_with fail
  have bd_q : Bd ((x.tdiv y)) 25 := bd_x.tdiv
  have bd_r : Bd ((x.tmod y)) 25 := bd_x.tmod
  refine (wdivmod_any S2.out.n.t.t.num S2.out.n.t.t.t.num HD.out).mono ?_
  rintro e w3 ⟨q_m, q_0, q_n, q_c, r_m, r_0, r_n, r_c, rfl, hQ, hR, hB⟩
  have S3 := Lib.hid (((S2.out.step hB).can (hR.cx bd_r (by omega))).can (hQ.cx bd_q (by omega)))
  clear bx_0 bx_1 by_0 by_1 b_u_0 b_u_1 b_v_0 b_v_1
  clear S2 hQ hR hB
  go_upto_region 5 with (fail)
  refine wp_world (fun w4 hW => ?_)
  have S4 := Lib.hid ((S3.out.alloc (w3.heap.size) q_m q_0 q_n q_c 24 (by simp)).alloc (w3.heap.size + 1) r_m r_0 r_n r_c 24 (by simp))
  rw [← hW] at S4
  clear hW S3
  obtain ⟨bx_0, bx_1⟩ := S4.out.b.t.t.t.t.c
  obtain ⟨by_0, by_1⟩ := S4.out.b.t.t.t.t.t.c
  obtain ⟨b_u_0, b_u_1⟩ := S4.out.b.t.t.c
  obtain ⟨b_v_0, b_v_1⟩ := S4.out.b.t.t.t.c
  obtain ⟨b_q_0, b_q_1⟩ := S4.out.b.t.c
  obtain ⟨b_r_0, b_r_1⟩ := S4.out.b.c
  go_wp2_with fail
  have bd_e : Bd ((x.tdiv y)) 25 := bd_x.tdiv
  refine (wexact_any S4.out.n.t.t.t.t.num S4.out.n.t.t.t.t.t.num HD.out HE.out).mono ?_
  rintro e w5 ⟨e_m, e_0, e_n, e_c, rfl, hX, hB⟩
  have S5 := Lib.hid ((S4.out.step hB).can (hX.cx bd_e (by omega)))
  clear bx_0 bx_1 by_0 by_1 b_u_0 b_u_1 b_v_0 b_v_1 b_q_0 b_q_1 b_r_0 b_r_1
  clear S4 hX hB
  obtain ⟨bx_0, bx_1⟩ := S5.out.b.t.t.t.t.c
  obtain ⟨by_0, by_1⟩ := S5.out.b.t.t.t.t.t.c
  obtain ⟨b_u_0, b_u_1⟩ := S5.out.b.t.t.c
  obtain ⟨b_v_0, b_v_1⟩ := S5.out.b.t.t.t.c
  obtain ⟨b_q_0, b_q_1⟩ := S5.out.b.t.c
  obtain ⟨b_r_0, b_r_1⟩ := S5.out.b.c
  go_upto_region 6 with (fail)
  refine wp_world (fun w6 hW => ?_)
  clear bx_0 bx_1 by_0 by_1 b_u_0 b_u_1 b_v_0 b_v_1 b_q_0 b_q_1 b_r_0 b_r_1
  have S6 := Lib.hid (S5.out.alloc (w5.heap.size) e_m e_0 e_n e_c 24 (by simp))
  rw [← hW] at S6
  clear hW S5
  obtain ⟨bx_0, bx_1⟩ := S6.out.b.t.t.t.t.t.c
  obtain ⟨by_0, by_1⟩ := S6.out.b.t.t.t.t.t.t.c
  obtain ⟨b_u_0, b_u_1⟩ := S6.out.b.t.t.t.c
  obtain ⟨b_v_0, b_v_1⟩ := S6.out.b.t.t.t.t.c
  obtain ⟨b_q_0, b_q_1⟩ := S6.out.b.t.t.c
  obtain ⟨b_r_0, b_r_1⟩ := S6.out.b.t.c
  obtain ⟨b_e_0, b_e_1⟩ := S6.out.b.c
  go_wp2_with fail
  have bd_g : Bd (((x.gcd y : Nat) : Int)) 25 := bd_x.gcd bd_y
  refine (wgcd_any S6.out.n.t.t.t.t.t.num S6.out.n.t.t.t.t.t.t.num).mono ?_
  rintro e w7 ⟨g_m, g_0, g_n, g_c, rfl, hX, hB⟩
  have S7 := Lib.hid ((S6.out.step hB).can (hX.cx bd_g (by omega)))
  clear bx_0 bx_1 by_0 by_1 b_u_0 b_u_1 b_v_0 b_v_1 b_q_0 b_q_1 b_r_0 b_r_1 b_e_0 b_e_1
  clear S6 hX hB
  obtain ⟨bx_0, bx_1⟩ := S7.out.b.t.t.t.t.t.c
  obtain ⟨by_0, by_1⟩ := S7.out.b.t.t.t.t.t.t.c
  obtain ⟨b_u_0, b_u_1⟩ := S7.out.b.t.t.t.c
  obtain ⟨b_v_0, b_v_1⟩ := S7.out.b.t.t.t.t.c
  obtain ⟨b_q_0, b_q_1⟩ := S7.out.b.t.t.c
  obtain ⟨b_r_0, b_r_1⟩ := S7.out.b.t.c
  obtain ⟨b_e_0, b_e_1⟩ := S7.out.b.c
  go_upto_region 7 with (fail)
  refine wp_world (fun w8 hW => ?_)
  clear bx_0 bx_1 by_0 by_1 b_u_0 b_u_1 b_v_0 b_v_1 b_q_0 b_q_1 b_r_0 b_r_1 b_e_0 b_e_1
  have S8 := Lib.hid (S7.out.alloc (w7.heap.size) g_m g_0 g_n g_c 24 (by simp))
  rw [← hW] at S8
  clear hW S7
  obtain ⟨bx_0, bx_1⟩ := S8.out.b.t.t.t.t.t.t.c
  obtain ⟨by_0, by_1⟩ := S8.out.b.t.t.t.t.t.t.t.c
  obtain ⟨b_u_0, b_u_1⟩ := S8.out.b.t.t.t.t.c
  obtain ⟨b_v_0, b_v_1⟩ := S8.out.b.t.t.t.t.t.c
  obtain ⟨b_q_0, b_q_1⟩ := S8.out.b.t.t.t.c
  obtain ⟨b_r_0, b_r_1⟩ := S8.out.b.t.t.c
  obtain ⟨b_e_0, b_e_1⟩ := S8.out.b.t.c
  obtain ⟨b_g_0, b_g_1⟩ := S8.out.b.c
  go_wp2_with fail
  refine (wpow_bad p S8.out.n.t.t.t.t.t.t.num HP.out).mono ?_
  rintro e w9 ⟨rfl, hB⟩
  have S9 := Lib.hid (S8.out.step hB)
  clear bx_0 bx_1 by_0 by_1 b_u_0 b_u_1 b_v_0 b_v_1 b_q_0 b_q_1 b_r_0 b_r_1 b_e_0 b_e_1 b_g_0 b_g_1
  clear S8 hB
  obtain ⟨bx_0, bx_1⟩ := S9.out.b.t.t.t.t.t.t.c
  obtain ⟨by_0, by_1⟩ := S9.out.b.t.t.t.t.t.t.t.c
  obtain ⟨b_u_0, b_u_1⟩ := S9.out.b.t.t.t.t.c
  obtain ⟨b_v_0, b_v_1⟩ := S9.out.b.t.t.t.t.t.c
  obtain ⟨b_q_0, b_q_1⟩ := S9.out.b.t.t.t.c
  obtain ⟨b_r_0, b_r_1⟩ := S9.out.b.t.t.c
  obtain ⟨b_e_0, b_e_1⟩ := S9.out.b.t.c
  obtain ⟨b_g_0, b_g_1⟩ := S9.out.b.c
  go_upto_region 8 with (fail)
  refine wp_world (fun w10 hW => ?_)
  clear bx_0 bx_1 by_0 by_1 b_u_0 b_u_1 b_v_0 b_v_1 b_q_0 b_q_1 b_r_0 b_r_1 b_e_0 b_e_1 b_g_0 b_g_1
  have S10 := Lib.hid (S9.out.alloc (w9.heap.size) false none 0 0 24 (by simp))
  rw [← hW] at S10
  clear hW S9
  obtain ⟨bx_0, bx_1⟩ := S10.out.b.t.t.t.t.t.t.t.c
  obtain ⟨by_0, by_1⟩ := S10.out.b.t.t.t.t.t.t.t.t.c
  obtain ⟨b_u_0, b_u_1⟩ := S10.out.b.t.t.t.t.t.c
  obtain ⟨b_v_0, b_v_1⟩ := S10.out.b.t.t.t.t.t.t.c
  obtain ⟨b_q_0, b_q_1⟩ := S10.out.b.t.t.t.t.c
  obtain ⟨b_r_0, b_r_1⟩ := S10.out.b.t.t.t.c
  obtain ⟨b_e_0, b_e_1⟩ := S10.out.b.t.t.c
  obtain ⟨b_g_0, b_g_1⟩ := S10.out.b.t.c
  obtain ⟨b_h_0, b_h_1⟩ := S10.out.b.c
  have bd_g2 : Bd (((x.gcd y : Nat) : Int)) 25 := bd_x.gcd bd_y
  have bd_g3 : Bd (((x.gcd y : Nat) : Int)) 25 := bd_g2
  clear bx_0 bx_1 by_0 by_1 b_u_0 b_u_1 b_v_0 b_v_1 b_q_0 b_q_1 b_r_0 b_r_1 b_e_0 b_e_1 b_g_0 b_g_1 b_h_0 b_h_1
  have S11 := Lib.hid S10.out.drew
  clear S10
  refine wp_region_held_drew (S := fun w' => (w'.cell? ⟨b_u, 0, none⟩ = some (.bool u_m) ∧ w'.cell? ⟨b_u, 1, none⟩ = some (.slice u_0 u_n u_c)) ∧ (w'.cell? ⟨b_v, 0, none⟩ = some (.bool v_m) ∧ w'.cell? ⟨b_v, 1, none⟩ = some (.slice v_0 v_n v_c)) ∧ (w'.cell? ⟨(w7.heap.size), 0, none⟩ = some (.bool g_m) ∧ w'.cell? ⟨(w7.heap.size), 1, none⟩ = some (.slice g_0 g_n g_c)) ∧ (w'.cell? ⟨(w9.heap.size), 0, none⟩ = some (.bool false) ∧ w'.cell? ⟨(w9.heap.size), 1, none⟩ = some (.slice none 0 0))) (by kernel_rfl) (⟨S11.out.b.t.t.t.t.t.c, S11.out.b.t.t.t.t.t.t.c, S11.out.b.t.c, S11.out.b.c⟩) (fun hH => ?_)
  refine anyH_world (fun w11 hW => ?_)
  rw [← hW] at S11 hH
  clear hW
  refine step_on 0 rfl (by kernel_rfl) (fun _ _ _ h => h) (by rfl) hH (by intro w hS; go_simp <;> with_reducible rfl) ?_
  try simp only [nrm]
  refine step_on 1 rfl (by kernel_rfl) (fun _ _ _ h => h) (by rfl) hH (by intro w hS; go_simp <;> with_reducible rfl) ?_
  try simp only [nrm]
  refine step_on 2 rfl (by kernel_rfl) (fun _ _ _ h => h) (by rfl) hH (by intro w hS; go_simp <;> with_reducible rfl) ?_
  try simp only [nrm]
  refine step_one 3 rfl (by kernel_rfl) (fun K hK => ?_)
  go_simp
  refine (zgcd_any S11.out.n.t.t.t.t.zed S11.out.n.t.t.t.t.t.zed).mono ?_
  rintro e w12 ⟨g2_m, g2_0, g2_n, g2_c, rfl, hX, hB⟩
  have S12 := Lib.hid ((S11.out.step hB).zed (hX.zx bd_g2 (by omega)))
  clear S11 hX hB
  go_wp2_with fail
  refine hK.out _ _ ⟨S12.out.b.t.t.t.t.t.c, S12.out.b.t.t.t.t.t.t.c, S12.out.b.t.c, S12.out.b.c⟩ (fun h2 => ?_)
  clear hK K hH
  have hH := h2
  clear h2
  try simp only [nrm]
  refine step_one 4 rfl (by kernel_rfl) (fun K hK => ?_)
  go_simp
  refine (zint_any S12.out.n.zed).mono ?_
  rintro e w13 ⟨g3_m, g3_0, g3_n, g3_c, rfl, hX, hB⟩
  have S13 := Lib.hid ((S12.out.step hB).can (hX.cx bd_g3 (by omega)))
  clear S12 hX hB
  go_wp2_with fail
  refine hK.out _ _ ⟨S13.out.b.t.t.t.t.t.c, S13.out.b.t.t.t.t.t.t.c, S13.out.b.t.c, S13.out.b.c⟩ (fun h2 => ?_)
  clear hK K hH
  have hH := h2
  clear h2
  try simp only [nrm]
  refine step_one 5 rfl (by kernel_rfl) (fun K hK => ?_)
  go_simp
  refine (zsame S13.out.n.t.t.can S13.out.n.can rfl).mono ?_
  rintro e w14 ⟨rfl, hB⟩
  have S14 := Lib.hid (S13.out.step hB)
  clear S13 hB
  go_wp2_with fail
  refine hK.out _ _ ⟨S14.out.b.t.t.t.t.t.c, S14.out.b.t.t.t.t.t.t.c, S14.out.b.t.c, S14.out.b.c⟩ (fun h2 => ?_)
  clear hK K hH
  have hH := h2
  clear h2
  try simp only [nrm]
  refine step_on 6 rfl (by kernel_rfl) (fun _ _ _ h => h) (by rfl) hH (by intro w hS; go_simp <;> with_reducible rfl) ?_
  try simp only [nrm]
  refine step_on 7 rfl (by kernel_rfl) (fun _ _ _ h => h) (by rfl) hH (by intro w hS; go_simp <;> with_reducible rfl) ?_
  try simp only [nrm]
  refine step_on 8 rfl (by kernel_rfl) (fun _ _ _ h => h) (by rfl) hH (by intro w hS; go_simp <;> with_reducible rfl) ?_
  try simp only [nrm]
  refine step_on 9 rfl (by kernel_rfl) (fun _ _ _ h => h) (by rfl) hH (by intro w hS; go_simp <;> with_reducible rfl) ?_
  try simp only [nrm]
  refine step_on 10 rfl (by kernel_rfl) (fun _ _ _ h => h) (by rfl) hH (by intro w hS; go_simp <;> with_reducible rfl) ?_
  try simp only [nrm]
  refine step_on 11 rfl (by kernel_rfl) (fun _ _ _ h => h) (by rfl) hH (by intro w hS; go_simp <;> with_reducible rfl) ?_
  try simp only [nrm]
  refine step_on 12 rfl (by kernel_rfl) (fun _ _ _ h => h) (by rfl) hH (by intro w hS; go_simp <;> with_reducible rfl) ?_
  try simp only [nrm]
  refine step_on 13 rfl (by kernel_rfl) (fun _ _ _ h => h) (by rfl) hH (by intro w hS; go_simp <;> with_reducible rfl) ?_
  try simp only [nrm]
  refine step_on 14 rfl (by kernel_rfl) (fun _ _ _ h => h) (by rfl) hH (by intro w hS; go_simp <;> with_reducible rfl) ?_
  try simp only [nrm]
  refine step_on 15 rfl (by kernel_rfl) (fun _ _ _ h => h) (by rfl) hH (by intro w hS; go_simp <;> with_reducible rfl) ?_
  try simp only [nrm]
  refine step_on 16 rfl (by kernel_rfl) (fun _ _ _ h => h) (by rfl) hH (by intro w hS; go_simp <;> with_reducible rfl) ?_
  try simp only [nrm]
  refine step_on 17 rfl (by kernel_rfl) (fun _ _ _ h => h) (by rfl) hH (by intro w hS; go_simp <;> with_reducible rfl) ?_
  try simp only [nrm]
  refine step_on 18 rfl (by kernel_rfl) (fun _ _ _ h => h) (by rfl) hH (by intro w hS; go_simp <;> with_reducible rfl) ?_
  try simp only [nrm]
  refine step_on 19 rfl (by kernel_rfl) (fun _ _ _ h => h) (by rfl) hH (by intro w hS; go_simp <;> with_reducible rfl) ?_
  try simp only [nrm]
  refine step_on 20 rfl (by kernel_rfl) (fun _ _ _ h => h) (by rfl) hH (by intro w hS; go_simp <;> with_reducible rfl) ?_
  try simp only [nrm]
  refine step_on 21 rfl (by kernel_rfl) (fun _ _ _ h => h) (by rfl) hH (by intro w hS; go_simp <;> with_reducible rfl) ?_
  try simp only [nrm]
  refine step_off 22 rfl (by kernel_rfl) (fun _ _ _ h => h) (by rfl) hH ?_
  try simp only [nrm]
  refine step_off 23 rfl (by kernel_rfl) (fun _ _ _ h => h) (by rfl) hH ?_
  try simp only [nrm]
  refine step_off 24 rfl (by kernel_rfl) (fun _ _ _ h => h) (by rfl) hH ?_
  try simp only [nrm]
  refine step_off 25 rfl (by kernel_rfl) (fun _ _ _ h => h) (by rfl) hH ?_
  try simp only [nrm]
  refine step_off 26 rfl (by kernel_rfl) (fun _ _ _ h => h) (by rfl) hH ?_
  try simp only [nrm]
  refine step_off 27 rfl (by kernel_rfl) (fun _ _ _ h => h) (by rfl) hH ?_
  try simp only [nrm]
  refine step_off 28 rfl (by kernel_rfl) (fun _ _ _ h => h) (by rfl) hH ?_
  try simp only [nrm]
  refine step_on 29 rfl (by kernel_rfl) (fun _ _ _ h => h) (by rfl) hH (by intro w hS; go_simp <;> with_reducible rfl) ?_
  try simp only [nrm]
  refine step_on 30 rfl (by kernel_rfl) (fun _ _ _ h => h) (by rfl) hH (by intro w hS; go_simp <;> with_reducible rfl) ?_
  try simp only [nrm]
  refine step_on 31 rfl (by kernel_rfl) (fun _ _ _ h => h) (by rfl) hH (by intro w hS; go_simp <;> with_reducible rfl) ?_
  try simp only [nrm]
  refine step_on 32 rfl (by kernel_rfl) (fun _ _ _ h => h) (by rfl) hH (by intro w hS; go_simp <;> with_reducible rfl) ?_
  try simp only [nrm]
  refine step_on 33 rfl (by kernel_rfl) (fun _ _ _ h => h) (by rfl) hH (by intro w hS; go_simp <;> with_reducible rfl) ?_
  try simp only [nrm]
  refine step_on 34 rfl (by kernel_rfl) (fun _ _ _ h => h) (by rfl) hH (by intro w hS; go_simp <;> with_reducible rfl) ?_
  try simp only [nrm]
  refine step_on 35 rfl (by kernel_rfl) (fun _ _ _ h => h) (by rfl) hH (by intro w hS; go_simp <;> with_reducible rfl) ?_
  try simp only [nrm]
  refine step_on 36 rfl (by kernel_rfl) (fun _ _ _ h => h) (by rfl) hH (by intro w hS; go_simp <;> with_reducible rfl) ?_
  try simp only [nrm]
  refine step_on 37 rfl (by kernel_rfl) (fun _ _ _ h => h) (by rfl) hH (by intro w hS; go_simp <;> with_reducible rfl) ?_
  try simp only [nrm]
  refine step_on 38 rfl (by kernel_rfl) (fun _ _ _ h => h) (by rfl) hH (by intro w hS; go_simp <;> with_reducible rfl) ?_
  try simp only [nrm]
  refine step_on 39 rfl (by kernel_rfl) (fun _ _ _ h => h) (by rfl) hH (by intro w hS; go_simp <;> with_reducible rfl) ?_
  try simp only [nrm]
  refine step_on 40 rfl (by kernel_rfl) (fun _ _ _ h => h) (by rfl) hH (by intro w hS; go_simp <;> with_reducible rfl) ?_
  try simp only [nrm]
  refine step_on 41 rfl (by kernel_rfl) (fun _ _ _ h => h) (by rfl) hH (by intro w hS; go_simp <;> with_reducible rfl) ?_
  try simp only [nrm]
  refine step_on 42 rfl (by kernel_rfl) (fun _ _ _ h => h) (by rfl) hH (by intro w hS; go_simp <;> with_reducible rfl) ?_
  try simp only [nrm]
  refine step_on 43 rfl (by kernel_rfl) (fun _ _ _ h => h) (by rfl) hH (by intro w hS; go_simp <;> with_reducible rfl) ?_
  try simp only [nrm]
  refine step_on 44 rfl (by kernel_rfl) (fun _ _ _ h => h) (by rfl) hH (by intro w hS; go_simp <;> with_reducible rfl) ?_
  try simp only [nrm]
  refine wpAnyH_done (by kernel_rfl) ?_ _
  clear hH
  obtain ⟨bx_0, bx_1⟩ := S14.out.b.t.t.t.t.t.t.t.c
  obtain ⟨by_0, by_1⟩ := S14.out.b.t.t.t.t.t.t.t.t.c
  obtain ⟨b_u_0, b_u_1⟩ := S14.out.b.t.t.t.t.t.c
  obtain ⟨b_v_0, b_v_1⟩ := S14.out.b.t.t.t.t.t.t.c
  obtain ⟨b_q_0, b_q_1⟩ := S14.out.b.t.t.t.t.c
  obtain ⟨b_r_0, b_r_1⟩ := S14.out.b.t.t.t.c
  obtain ⟨b_e_0, b_e_1⟩ := S14.out.b.t.t.c
  obtain ⟨b_g_0, b_g_1⟩ := S14.out.b.t.c
  obtain ⟨b_h_0, b_h_1⟩ := S14.out.b.c
  go_wp2_with fail
  obtain ⟨sv, hsv⟩ : ∃ sv, y.sign = sv := ⟨_, rfl⟩
  have hsv0 : (sv == 0) = false := by
    have h1 := HD.out
    rcases sign_cases y with ⟨h, _⟩ | ⟨_, h⟩ | ⟨h, _⟩
    · rw [← hsv, h]; rfl
    · exact absurd h h1
    · rw [← hsv, h]; rfl
  have HSV := Lib.hid hsv
  clear hsv
  have EQ1 := Lib.hid (show (y : Int).sign = sv from HSV.out)
  refine (zsign_is (sv) S14.out.n.t.t.t.t.t.t.t.zed EQ1.out).mono ?_
  rintro e w15 ⟨rfl, hB⟩
  have S15 := Lib.hid (S14.out.step hB)
  clear bx_0 bx_1 by_0 by_1 b_u_0 b_u_1 b_v_0 b_v_1 b_q_0 b_q_1 b_r_0 b_r_1 b_e_0 b_e_1 b_g_0 b_g_1 b_h_0 b_h_1
  clear S14 hB
  obtain ⟨bx_0, bx_1⟩ := S15.out.b.t.t.t.t.t.t.t.c
  obtain ⟨by_0, by_1⟩ := S15.out.b.t.t.t.t.t.t.t.t.c
  obtain ⟨b_u_0, b_u_1⟩ := S15.out.b.t.t.t.t.t.c
  obtain ⟨b_v_0, b_v_1⟩ := S15.out.b.t.t.t.t.t.t.c
  obtain ⟨b_q_0, b_q_1⟩ := S15.out.b.t.t.t.t.c
  obtain ⟨b_r_0, b_r_1⟩ := S15.out.b.t.t.t.c
  obtain ⟨b_e_0, b_e_1⟩ := S15.out.b.t.t.c
  obtain ⟨b_g_0, b_g_1⟩ := S15.out.b.t.c
  obtain ⟨b_h_0, b_h_1⟩ := S15.out.b.c
  go_wp2_with fail
  have bd_t : Bd ((x.tdiv y)) 25 := bd_x.tdiv
  have bd_k : Bd ((x.tmod y)) 25 := bd_x.tmod
  refine (zdivmod_any S15.out.n.t.t.t.t.t.t.zed S15.out.n.t.t.t.t.t.t.t.zed HD.out).mono ?_
  rintro e w16 ⟨t_m, t_0, t_n, t_c, k_m, k_0, k_n, k_c, rfl, hQ, hR, hB⟩
  have S16 := Lib.hid (((S15.out.step hB).zed (hR.zx bd_k (by omega))).zed (hQ.zx bd_t (by omega)))
  clear bx_0 bx_1 by_0 by_1 b_u_0 b_u_1 b_v_0 b_v_1 b_q_0 b_q_1 b_r_0 b_r_1 b_e_0 b_e_1 b_g_0 b_g_1 b_h_0 b_h_1
  clear S15 hQ hR hB
  go_upto_region 13 with (fail)
  refine wp_world (fun w17 hW => ?_)
  have S17 := Lib.hid ((S16.out.alloc (w16.heap.size) t_m t_0 t_n t_c 31 (by simp)).alloc (w16.heap.size + 1) k_m k_0 k_n k_c 31 (by simp))
  rw [← hW] at S17
  clear hW S16
  obtain ⟨bx_0, bx_1⟩ := S17.out.b.t.t.t.t.t.t.t.t.t.c
  obtain ⟨by_0, by_1⟩ := S17.out.b.t.t.t.t.t.t.t.t.t.t.c
  obtain ⟨b_u_0, b_u_1⟩ := S17.out.b.t.t.t.t.t.t.t.c
  obtain ⟨b_v_0, b_v_1⟩ := S17.out.b.t.t.t.t.t.t.t.t.c
  obtain ⟨b_q_0, b_q_1⟩ := S17.out.b.t.t.t.t.t.t.c
  obtain ⟨b_r_0, b_r_1⟩ := S17.out.b.t.t.t.t.t.c
  obtain ⟨b_e_0, b_e_1⟩ := S17.out.b.t.t.t.t.c
  obtain ⟨b_g_0, b_g_1⟩ := S17.out.b.t.t.t.c
  obtain ⟨b_h_0, b_h_1⟩ := S17.out.b.t.t.c
  obtain ⟨b_t_0, b_t_1⟩ := S17.out.b.t.c
  obtain ⟨b_k_0, b_k_1⟩ := S17.out.b.c
  have bd_t2 : Bd ((x.tdiv y)) 25 := bd_t
  have bd_k2 : Bd ((x.tmod y)) 25 := bd_k
  clear bx_0 bx_1 by_0 by_1 b_u_0 b_u_1 b_v_0 b_v_1 b_q_0 b_q_1 b_r_0 b_r_1 b_e_0 b_e_1 b_g_0 b_g_1 b_h_0 b_h_1 b_t_0 b_t_1 b_k_0 b_k_1
  have S18 := Lib.hid S17.out.drew
  clear S17
  refine wp_region_held_drew (S := fun w' => (w'.cell? ⟨(w3.heap.size), 0, none⟩ = some (.bool q_m) ∧ w'.cell? ⟨(w3.heap.size), 1, none⟩ = some (.slice q_0 q_n q_c)) ∧ (w'.cell? ⟨(w3.heap.size + 1), 0, none⟩ = some (.bool r_m) ∧ w'.cell? ⟨(w3.heap.size + 1), 1, none⟩ = some (.slice r_0 r_n r_c)) ∧ (w'.cell? ⟨(w16.heap.size), 0, none⟩ = some (.bool t_m) ∧ w'.cell? ⟨(w16.heap.size), 1, none⟩ = some (.slice t_0 t_n t_c)) ∧ (w'.cell? ⟨(w16.heap.size + 1), 0, none⟩ = some (.bool k_m) ∧ w'.cell? ⟨(w16.heap.size + 1), 1, none⟩ = some (.slice k_0 k_n k_c))) (by kernel_rfl) (⟨S18.out.b.t.t.t.t.t.t.c, S18.out.b.t.t.t.t.t.c, S18.out.b.t.c, S18.out.b.c⟩) (fun hH => ?_)
  refine anyH_world (fun w18 hW => ?_)
  rw [← hW] at S18 hH
  clear hW
  refine step_on 0 rfl (by kernel_rfl) (fun _ _ _ h => h) (by rfl) hH (by intro w hS; go_simp <;> with_reducible rfl) ?_
  try simp only [nrm]
  refine step_on 1 rfl (by kernel_rfl) (fun _ _ _ h => h) (by rfl) hH (by intro w hS; go_simp <;> with_reducible rfl) ?_
  try simp only [nrm]
  refine step_on 2 rfl (by kernel_rfl) (fun _ _ _ h => h) (by rfl) hH (by intro w hS; go_simp <;> with_reducible rfl) ?_
  try simp only [nrm]
  refine step_on 3 rfl (by kernel_rfl) (fun _ _ _ h => h) (by rfl) hH (by intro w hS; go_simp <;> with_reducible rfl) ?_
  try simp only [nrm]
  refine step_on 4 rfl (by kernel_rfl) (fun _ _ _ h => h) (by rfl) hH (by intro w hS; go_simp <;> with_reducible rfl) ?_
  try simp only [nrm]
  refine step_one 5 rfl (by kernel_rfl) (fun K hK => ?_)
  go_simp
  refine (zint_any S18.out.n.zed).mono ?_
  rintro e w19 ⟨t2_m, t2_0, t2_n, t2_c, rfl, hX, hB⟩
  have S19 := Lib.hid ((S18.out.step hB).can (hX.cx bd_t2 (by omega)))
  clear S18 hX hB
  go_wp2_with fail
  refine hK.out _ _ ⟨S19.out.b.t.t.t.t.t.t.c, S19.out.b.t.t.t.t.t.c, S19.out.b.t.c, S19.out.b.c⟩ (fun h2 => ?_)
  clear hK K hH
  have hH := h2
  clear h2
  try simp only [nrm]
  refine step_one 6 rfl (by kernel_rfl) (fun K hK => ?_)
  go_simp
  refine (zsame S19.out.n.t.t.t.t.t.t.t.can S19.out.n.can rfl).mono ?_
  rintro e w20 ⟨rfl, hB⟩
  have S20 := Lib.hid (S19.out.step hB)
  clear S19 hB
  go_wp2_with fail
  refine hK.out _ _ ⟨S20.out.b.t.t.t.t.t.t.c, S20.out.b.t.t.t.t.t.c, S20.out.b.t.c, S20.out.b.c⟩ (fun h2 => ?_)
  clear hK K hH
  have hH := h2
  clear h2
  try simp only [nrm]
  refine step_on 7 rfl (by kernel_rfl) (fun _ _ _ h => h) (by rfl) hH (by intro w hS; go_simp <;> with_reducible rfl) ?_
  try simp only [nrm]
  refine step_on 8 rfl (by kernel_rfl) (fun _ _ _ h => h) (by rfl) hH (by intro w hS; go_simp <;> with_reducible rfl) ?_
  try simp only [nrm]
  refine step_on 9 rfl (by kernel_rfl) (fun _ _ _ h => h) (by rfl) hH (by intro w hS; go_simp <;> with_reducible rfl) ?_
  try simp only [nrm]
  refine step_on 10 rfl (by kernel_rfl) (fun _ _ _ h => h) (by rfl) hH (by intro w hS; go_simp <;> with_reducible rfl) ?_
  try simp only [nrm]
  refine step_on 11 rfl (by kernel_rfl) (fun _ _ _ h => h) (by rfl) hH (by intro w hS; go_simp <;> with_reducible rfl) ?_
  try simp only [nrm]
  refine step_one 12 rfl (by kernel_rfl) (fun K hK => ?_)
  go_simp
  refine (zint_any S20.out.n.t.t.zed).mono ?_
  rintro e w21 ⟨k2_m, k2_0, k2_n, k2_c, rfl, hX, hB⟩
  have S21 := Lib.hid ((S20.out.step hB).can (hX.cx bd_k2 (by omega)))
  clear S20 hX hB
  go_wp2_with fail
  refine hK.out _ _ ⟨S21.out.b.t.t.t.t.t.t.c, S21.out.b.t.t.t.t.t.c, S21.out.b.t.c, S21.out.b.c⟩ (fun h2 => ?_)
  clear hK K hH
  have hH := h2
  clear h2
  try simp only [nrm]
  refine step_one 13 rfl (by kernel_rfl) (fun K hK => ?_)
  go_simp
  refine (zsame S21.out.n.t.t.t.t.t.t.t.t.t.can S21.out.n.can rfl).mono ?_
  rintro e w22 ⟨rfl, hB⟩
  have S22 := Lib.hid (S21.out.step hB)
  clear S21 hB
  go_wp2_with fail
  refine hK.out _ _ ⟨S22.out.b.t.t.t.t.t.t.c, S22.out.b.t.t.t.t.t.c, S22.out.b.t.c, S22.out.b.c⟩ (fun h2 => ?_)
  clear hK K hH
  have hH := h2
  clear h2
  try simp only [nrm]
  refine step_on 14 rfl (by kernel_rfl) (fun _ _ _ h => h) (by rfl) hH (by intro w hS; go_simp <;> with_reducible rfl) ?_
  try simp only [nrm]
  refine step_on 15 rfl (by kernel_rfl) (fun _ _ _ h => h) (by rfl) hH (by intro w hS; go_simp <;> with_reducible rfl) ?_
  try simp only [nrm]
  refine wpAnyH_done (by kernel_rfl) ?_ _
  clear hH
  obtain ⟨bx_0, bx_1⟩ := S22.out.b.t.t.t.t.t.t.t.t.t.c
  obtain ⟨by_0, by_1⟩ := S22.out.b.t.t.t.t.t.t.t.t.t.t.c
  obtain ⟨b_u_0, b_u_1⟩ := S22.out.b.t.t.t.t.t.t.t.c
  obtain ⟨b_v_0, b_v_1⟩ := S22.out.b.t.t.t.t.t.t.t.t.c
  obtain ⟨b_q_0, b_q_1⟩ := S22.out.b.t.t.t.t.t.t.c
  obtain ⟨b_r_0, b_r_1⟩ := S22.out.b.t.t.t.t.t.c
  obtain ⟨b_e_0, b_e_1⟩ := S22.out.b.t.t.t.t.c
  obtain ⟨b_g_0, b_g_1⟩ := S22.out.b.t.t.t.c
  obtain ⟨b_h_0, b_h_1⟩ := S22.out.b.t.t.c
  obtain ⟨b_t_0, b_t_1⟩ := S22.out.b.t.c
  obtain ⟨b_k_0, b_k_1⟩ := S22.out.b.c
  go_wp2_with fail
  have EQ2 := Lib.hid (show ((x.tmod y) : Int).sign = 0 from by rw [HE.out]; rfl)
  refine (zsign_is (0) S22.out.n.t.t.t.zed EQ2.out).mono ?_
  rintro e w23 ⟨rfl, hB⟩
  have S23 := Lib.hid (S22.out.step hB)
  clear bx_0 bx_1 by_0 by_1 b_u_0 b_u_1 b_v_0 b_v_1 b_q_0 b_q_1 b_r_0 b_r_1 b_e_0 b_e_1 b_g_0 b_g_1 b_h_0 b_h_1 b_t_0 b_t_1 b_k_0 b_k_1
  clear S22 hB
  obtain ⟨bx_0, bx_1⟩ := S23.out.b.t.t.t.t.t.t.t.t.t.c
  obtain ⟨by_0, by_1⟩ := S23.out.b.t.t.t.t.t.t.t.t.t.t.c
  obtain ⟨b_u_0, b_u_1⟩ := S23.out.b.t.t.t.t.t.t.t.c
  obtain ⟨b_v_0, b_v_1⟩ := S23.out.b.t.t.t.t.t.t.t.t.c
  obtain ⟨b_q_0, b_q_1⟩ := S23.out.b.t.t.t.t.t.t.c
  obtain ⟨b_r_0, b_r_1⟩ := S23.out.b.t.t.t.t.t.c
  obtain ⟨b_e_0, b_e_1⟩ := S23.out.b.t.t.t.t.c
  obtain ⟨b_g_0, b_g_1⟩ := S23.out.b.t.t.t.c
  obtain ⟨b_h_0, b_h_1⟩ := S23.out.b.t.t.c
  obtain ⟨b_t_0, b_t_1⟩ := S23.out.b.t.c
  obtain ⟨b_k_0, b_k_1⟩ := S23.out.b.c
  go_wp2_with fail
  have bd_t4 : Bd ((x.tdiv y)) 25 := bd_t
  clear bx_0 bx_1 by_0 by_1 b_u_0 b_u_1 b_v_0 b_v_1 b_q_0 b_q_1 b_r_0 b_r_1 b_e_0 b_e_1 b_g_0 b_g_1 b_h_0 b_h_1 b_t_0 b_t_1 b_k_0 b_k_1
  have S24 := Lib.hid S23.out.drew
  clear S23
  refine wp_region_held_drew (S := fun w' => (w'.cell? ⟨(w5.heap.size), 0, none⟩ = some (.bool e_m) ∧ w'.cell? ⟨(w5.heap.size), 1, none⟩ = some (.slice e_0 e_n e_c)) ∧ (w'.cell? ⟨(w16.heap.size), 0, none⟩ = some (.bool t_m) ∧ w'.cell? ⟨(w16.heap.size), 1, none⟩ = some (.slice t_0 t_n t_c))) (by kernel_rfl) (⟨S24.out.b.t.t.t.t.c, S24.out.b.t.c⟩) (fun hH => ?_)
  refine anyH_world (fun w24 hW => ?_)
  rw [← hW] at S24 hH
  clear hW
  refine step_on 0 rfl (by kernel_rfl) (fun _ _ _ h => h) (by rfl) hH (by intro w hS; go_simp <;> with_reducible rfl) ?_
  try simp only [nrm]
  refine step_on 1 rfl (by kernel_rfl) (fun _ _ _ h => h) (by rfl) hH (by intro w hS; go_simp <;> with_reducible rfl) ?_
  try simp only [nrm]
  refine step_on 2 rfl (by kernel_rfl) (fun _ _ _ h => h) (by rfl) hH (by intro w hS; go_simp <;> with_reducible rfl) ?_
  try simp only [nrm]
  refine step_on 3 rfl (by kernel_rfl) (fun _ _ _ h => h) (by rfl) hH (by intro w hS; go_simp <;> with_reducible rfl) ?_
  try simp only [nrm]
  refine step_on 4 rfl (by kernel_rfl) (fun _ _ _ h => h) (by rfl) hH (by intro w hS; go_simp <;> with_reducible rfl) ?_
  try simp only [nrm]
  refine step_one 5 rfl (by kernel_rfl) (fun K hK => ?_)
  go_simp
  refine (zint_any S24.out.n.t.t.zed).mono ?_
  rintro e w25 ⟨t4_m, t4_0, t4_n, t4_c, rfl, hX, hB⟩
  have S25 := Lib.hid ((S24.out.step hB).can (hX.cx bd_t4 (by omega)))
  clear S24 hX hB
  go_wp2_with fail
  refine hK.out _ _ ⟨S25.out.b.t.t.t.t.c, S25.out.b.t.c⟩ (fun h2 => ?_)
  clear hK K hH
  have hH := h2
  clear h2
  try simp only [nrm]
  refine step_one 6 rfl (by kernel_rfl) (fun K hK => ?_)
  go_simp
  refine (zsame S25.out.n.t.t.t.t.t.t.t.t.can S25.out.n.can rfl).mono ?_
  rintro e w26 ⟨rfl, hB⟩
  have S26 := Lib.hid (S25.out.step hB)
  clear S25 hB
  go_wp2_with fail
  refine hK.out _ _ ⟨S26.out.b.t.t.t.t.c, S26.out.b.t.c⟩ (fun h2 => ?_)
  clear hK K hH
  have hH := h2
  clear h2
  try simp only [nrm]
  refine step_on 7 rfl (by kernel_rfl) (fun _ _ _ h => h) (by rfl) hH (by intro w hS; go_simp <;> with_reducible rfl) ?_
  try simp only [nrm]
  refine step_on 8 rfl (by kernel_rfl) (fun _ _ _ h => h) (by rfl) hH (by intro w hS; go_simp <;> with_reducible rfl) ?_
  try simp only [nrm]
  refine step_one 9 rfl (by kernel_rfl) (fun K hK => ?_)
  go_simp
  refine (known4_any _).mono ?_
  rintro e w27 ⟨rfl, hB⟩
  have S27 := Lib.hid (S26.out.step hB)
  clear S26 hB
  go_wp2_with fail
  refine hK.out _ _ ⟨S27.out.b.t.t.t.t.c, S27.out.b.t.c⟩ (fun h2 => ?_)
  clear hK K hH
  have hH := h2
  clear h2
  try simp only [nrm]
  refine step_on 10 rfl (by kernel_rfl) (fun _ _ _ h => h) (by rfl) hH (by intro w hS; go_simp <;> with_reducible rfl) ?_
  try simp only [nrm]
  refine step_on 11 rfl (by kernel_rfl) (fun _ _ _ h => h) (by rfl) hH (by intro w hS; go_simp <;> with_reducible rfl) ?_
  try simp only [nrm]
  refine wpAnyH_done (by kernel_rfl) ?_ _
  clear hH
  obtain ⟨bx_0, bx_1⟩ := S27.out.b.t.t.t.t.t.t.t.t.t.c
  obtain ⟨by_0, by_1⟩ := S27.out.b.t.t.t.t.t.t.t.t.t.t.c
  obtain ⟨b_u_0, b_u_1⟩ := S27.out.b.t.t.t.t.t.t.t.c
  obtain ⟨b_v_0, b_v_1⟩ := S27.out.b.t.t.t.t.t.t.t.t.c
  obtain ⟨b_q_0, b_q_1⟩ := S27.out.b.t.t.t.t.t.t.c
  obtain ⟨b_r_0, b_r_1⟩ := S27.out.b.t.t.t.t.t.c
  obtain ⟨b_e_0, b_e_1⟩ := S27.out.b.t.t.t.t.c
  obtain ⟨b_g_0, b_g_1⟩ := S27.out.b.t.t.t.c
  obtain ⟨b_h_0, b_h_1⟩ := S27.out.b.t.t.c
  obtain ⟨b_t_0, b_t_1⟩ := S27.out.b.t.c
  obtain ⟨b_k_0, b_k_1⟩ := S27.out.b.c
  go_wp2_with fail
  go_ret
  exact ⟨rfl, S27.out.h⟩

end Go.Proofs.Ytponiigpmjnffaa

/-
  The walk of the law WholeLaws.
-/
import Derived.Test.YtponiigpmjnffaaWSt
import Derived.Test.YtponiigpmjnffaaWKnown
import Derived.Test.YtponiigpmjnffaaWLaw
import Derived.Test.YtponiigpmjnffaaWAdd
import Derived.Test.YtponiigpmjnffaaWMul
import Derived.Test.YtponiigpmjnffaaWMay
import Derived.Test.YtponiigpmjnffaaWLawPlain
import Derived.Deep.Cut
import Derived.Deep.CutRange
set_option maxRecDepth 8192
namespace Go.Proofs.Ytponiigpmjnffaa
open Go.RowKit

set_option maxHeartbeats 40000000 in
set_option maxRecDepth 100000 in
theorem wholeLaws_short  {m0 : Bool} {a0 : Option Addr} {n0 c0 : Nat} {m1 : Bool} {a1 : Option Addr} {n1 c1 : Nat} {m2 : Bool} {a2 : Option Addr} {n2 c2 : Nat} {x y z : Int} {w : World} (h0 : Nx w m0 a0 n0 c0 x) (h1 : Nx w m1 a1 n1 c1 y) (h2 : Nx w m2 a2 n2 c2 z) (l0 : n0 ≤ 25) (l1 : n1 ≤ 25) (l2 : n2 ≤ 25) :
    Calls Try.prog 5 #[.agg #[.bool m0, .slice a0 n0 c0], .agg #[.bool m1, .slice a1 n1 c1], .agg #[.bool m2, .slice a2 n2 c2]] w (RetB (.bool true) w) := by
  have bd_x : Bd (x) 25 := h0.inn.bd l0
  have bd_y : Bd (y) 25 := h1.inn.bd l1
  have bd_z : Bd (z) 25 := h2.inn.bd l2
  have bd_o : Bd ((0 : Int)) 1 := bd_zero
  go_enter Try.func5, Try.ntmps5
  go_upto_region 1 with (fail)
  refine wp_world (fun W hW => ?_)
  have HB0 : Hid (Below w.heap.size w W) := by rw [hW]; exact step_alloc (step_alloc (below_alloc _ _))
  have S0 : Hid (St w W _ _) := Lib.hid (St.mk (Live.add_box (show Box W (w.heap.size) m0 a0 n0 c0 from by rw [hW]; exact ((Box.new _ _ _ _ _ _ _ (by simp)).below (below_alloc _ _)).below (below_alloc _ _)) (Live.add_box (show Box W (w.heap.size + 1) m1 a1 n1 c1 from by rw [hW]; exact (Box.new _ _ _ _ _ _ _ (by simp)).below (below_alloc _ _)) (Live.add_box (show Box W (w.heap.size + 2) m2 a2 n2 c2 from by rw [hW]; exact Box.new _ _ _ _ _ _ _ (by simp)) (Live.nil W)))) (Live.add_num (h0.below HB0.out) (Live.add_num (h1.below HB0.out) (Live.add_num (h2.below HB0.out) (Live.add_can (zero_cx W) (Live.nil W))))) HB0.out)
  clear hW HB0
  obtain ⟨bx_0, bx_1⟩ := S0.out.b.c
  obtain ⟨by_0, by_1⟩ := S0.out.b.t.c
  obtain ⟨bz_0, bz_1⟩ := S0.out.b.t.t.c
  go_wp2_with fail
  refine (great3_no _ _ _ _ _ _ _ _ _ _ _ _ W l0 l1 l2).mono ?_
  rintro e w1 ⟨rfl, hB⟩
  have S1 := Lib.hid (S0.out.step (step_alloc hB))
  clear bx_0 bx_1 by_0 by_1 bz_0 bz_1
  clear S0 hB
  obtain ⟨bx_0, bx_1⟩ := S1.out.b.c
  obtain ⟨by_0, by_1⟩ := S1.out.b.t.c
  obtain ⟨bz_0, bz_1⟩ := S1.out.b.t.t.c
  have bd_s : Bd ((x + y)) 26 := (bd_x.mono (show 25 ≤ 25 by omega)).add (bd_y.mono (show 25 ≤ 25 by omega)) (by omega)
  have bd_p : Bd ((x * y)) 50 := bd_x.mul bd_y
  go_upto_region 3 with (fail)
  go_cut [7, 8] from 15 to 20 (fun sl0 sl1 w9 => ∃ (bb0 : Nat) (qm0 : Bool) (q0 : Option Addr) (qn0 : Nat) (qc0 : Nat) (bb1 : Nat) (qm1 : Bool) (q1 : Option Addr) (qn1 : Nat) (qc1 : Nat), sl0 = .pointer (some ⟨bb0, 0, none⟩) ∧ sl1 = .pointer (some ⟨bb1, 0, none⟩) ∧ Hid (St w w9 [.box bb0 qm0 q0 qn0 qc0, .box bb1 qm1 q1 qn1 qc1, .box (w.heap.size) m0 a0 n0 c0, .box (w.heap.size + 1) m1 a1 n1 c1, .box (w.heap.size + 2) m2 a2 n2 c2] [.can qm0 q0 qn0 qc0 (x + y), .can qm1 q1 qn1 qc1 (x * y), .num m0 a0 n0 c0 x, .num m1 a1 n1 c1 y, .num m2 a2 n2 c2 z, .can false none 0 0 (0 : Int)]))
  case first =>
    clear bx_0 bx_1 by_0 by_1 bz_0 bz_1
    have S2 := Lib.hid S1.out.drew
    clear S1
    refine wp_region_held_drew (S := fun w' => (w'.cell? ⟨(w.heap.size), 0, none⟩ = some (.bool m0) ∧ w'.cell? ⟨(w.heap.size), 1, none⟩ = some (.slice a0 n0 c0)) ∧ (w'.cell? ⟨(w.heap.size + 1), 0, none⟩ = some (.bool m1) ∧ w'.cell? ⟨(w.heap.size + 1), 1, none⟩ = some (.slice a1 n1 c1)) ∧ (w'.cell? ⟨(w.heap.size + 2), 0, none⟩ = some (.bool m2) ∧ w'.cell? ⟨(w.heap.size + 2), 1, none⟩ = some (.slice a2 n2 c2))) (by kernel_rfl) (⟨S2.out.b.c, S2.out.b.t.c, S2.out.b.t.t.c⟩) (fun hH => ?_)
    refine anyH_world (fun w2 hW => ?_)
    rw [← hW] at S2 hH
    clear hW
    refine step_on 0 rfl (by kernel_rfl) (fun _ _ _ h => h) (by rfl) hH (by intro w hS; go_simp <;> with_reducible rfl) ?_
    try simp only [nrm]
    refine step_on 1 rfl (by kernel_rfl) (fun _ _ _ h => h) (by rfl) hH (by intro w hS; go_simp <;> with_reducible rfl) ?_
    try simp only [nrm]
    refine step_on 3 rfl (by kernel_rfl) (fun _ _ _ h => h) (by rfl) hH (by intro w hS; go_simp <;> with_reducible rfl) ?_
    try simp only [nrm]
    refine step_on 4 rfl (by kernel_rfl) (fun _ _ _ h => h) (by rfl) hH (by intro w hS; go_simp <;> with_reducible rfl) ?_
    try simp only [nrm]
    refine wpAnyH_ready (rs := [2, 6, 7]) (by kernel_rfl) (by simp) (ready_cons rfl (fun K hK => ?_) (ready_cons rfl (fun K hK => ?_) (ready_cons rfl (fun K hK => ?_) (AllReadyH.nil))))
    · go_simp
      refine (wadd_any S2.out.n.num S2.out.n.t.num).mono ?_
      rintro e w3 ⟨s_m, s_0, s_n, s_c, rfl, hX, hB⟩
      have S3 := Lib.hid ((S2.out.step hB).can (hX.cx bd_s (by omega)))
      clear S2 hX
      clear hB
      go_wp2_with fail
      refine hK.out _ _ ⟨S3.out.b.c, S3.out.b.t.c, S3.out.b.t.t.c⟩ (fun h2 => ?_)
      clear hK K hH
      have hH := h2
      clear h2
      try simp only [nrm]
      refine wpAnyH_ready (rs := [5, 6, 7]) (by kernel_rfl) (by simp) (ready_cons rfl (fun K hK => ?_) (ready_cons rfl (fun K hK => ?_) (ready_cons rfl (fun K hK => ?_) (AllReadyH.nil))))
      · go_simp
        refine (wmul_any S3.out.n.t.num S3.out.n.t.t.num).mono ?_
        rintro e w4 ⟨p_m, p_0, p_n, p_c, rfl, hX, hB⟩
        have S4 := Lib.hid ((S3.out.step hB).can (hX.cx bd_p (by omega)))
        clear S3 hX
        clear hB
        go_wp2_with fail
        refine hK.out _ _ ⟨S4.out.b.c, S4.out.b.t.c, S4.out.b.t.t.c⟩ (fun h2 => ?_)
        clear hK K hH
        have hH := h2
        clear h2
        try simp only [nrm]
        refine wpAnyH_ready (rs := [6, 7]) (by kernel_rfl) (by simp) (ready_cons rfl (fun K hK => ?_) (ready_cons rfl (fun K hK => ?_) (AllReadyH.nil)))
        · go_simp
          have U6 := under_of S4.out.b
          have z6 := S4.out.h.size
          have S5 := Lib.hid (S4.out.step (below_alloc w4 (.cells #[.bool false, .slice none 0 0] 24)))
          have V6_5 := Lib.hid (Box.new w4 w4.heap.size false none 0 0 24 rfl)
          clear S4
          refine hK.out _ _ ⟨S5.out.b.c, S5.out.b.t.c, S5.out.b.t.t.c⟩ (fun h2 => ?_)
          clear hK K hH
          have hH := h2
          clear h2
          try simp only [nrm]
          refine anyH_world (fun w5 hW => ?_)
          rw [← hW] at S5 hH V6_5
          clear hW
          refine wpAnyH_ready (rs := [7]) (by kernel_rfl) (by simp) (ready_cons rfl (fun K hK => ?_) (AllReadyH.nil))
          · go_simp
            have U7 := under_of S5.out.b
            have z7 := S5.out.h.size
            have S6 := Lib.hid (S5.out.step (below_alloc w5 (.cells #[.bool false, .slice none 0 0] 24)))
            have V7_6 := Lib.hid (Box.new w5 w5.heap.size false none 0 0 24 rfl)
            have ne6_7 := Nat.ne_of_lt V6_5.out.lt
            have V6_6 := Lib.hid (V6_5.out.below (below_alloc w5 (.cells #[.bool false, .slice none 0 0] 24)))
            clear V6_5
            clear S5
            refine hK.out _ _ ⟨S6.out.b.c, S6.out.b.t.c, S6.out.b.t.t.c⟩ (fun h2 => ?_)
            clear hK K hH
            have hH := h2
            clear h2
            try simp only [nrm]
            refine anyH_world (fun w6 hW => ?_)
            rw [← hW] at S6 hH V6_6 V7_6
            clear hW
            have sb0 := V6_6.out.c0
            have sb1 := V6_6.out.c1
            have sb2 := V6_6.out.f0
            have sb3 := V6_6.out.f1
            refine step_one 8 rfl (by kernel_rfl) (fun K hK => ?_)
            go_simp
            have S7 := Lib.hid (S6.out.put V6_6.out (.bool s_m) (.slice s_0 s_n s_c) z6 (under_apart U6) (nums_apart rfl))
            have V6_7 := Lib.hid (V6_6.out.set s_m s_0 s_n s_c)
            have V7_7 := Lib.hid (V7_6.out.far (c := w4.heap.size) (by omega) (.bool s_m) (.slice s_0 s_n s_c))
            clear S6 V6_6 V7_6 sb0 sb1 sb2 sb3
            refine hK.out _ _ ⟨S7.out.b.c, S7.out.b.t.c, S7.out.b.t.t.c⟩ (fun h2 => ?_)
            clear hK K hH
            have hH := h2
            clear h2
            try simp only [nrm]
            refine anyH_world (fun w7 hW => ?_)
            rw [← hW] at S7 hH V6_7 V7_7
            clear hW
            have sb0 := V7_7.out.c0
            have sb1 := V7_7.out.c1
            have sb2 := V7_7.out.f0
            have sb3 := V7_7.out.f1
            refine step_one 9 rfl (by kernel_rfl) (fun K hK => ?_)
            go_simp
            have S8 := Lib.hid (S7.out.put V7_7.out (.bool p_m) (.slice p_0 p_n p_c) z7 (under_apart U7) (nums_apart rfl))
            have V7_8 := Lib.hid (V7_7.out.set p_m p_0 p_n p_c)
            have V6_8 := Lib.hid (V6_7.out.far (c := w5.heap.size) (by omega) (.bool p_m) (.slice p_0 p_n p_c))
            clear S7 V6_7 V7_7 sb0 sb1 sb2 sb3
            refine hK.out _ _ ⟨S8.out.b.c, S8.out.b.t.c, S8.out.b.t.t.c⟩ (fun h2 => ?_)
            clear hK K hH
            have hH := h2
            clear h2
            try simp only [nrm]
            refine anyH_world (fun w8 hW => ?_)
            rw [← hW] at S8 hH V6_8 V7_8
            clear hW
            refine wpAnyH_done (by kernel_rfl) ?_ _
            go_wp2_with fail
            go_meet
            case rel => exact ⟨_, _, _, _, _, _, _, _, _, _, rfl, rfl, (Live.add_box V6_8.out (Live.add_box V7_8.out S8.out.b)), (Live.add_can S8.out.n.t.can (Live.add_can S8.out.n.can S8.out.n.t.t)), S8.out.h⟩
        · go_simp
          have U7 := under_of S4.out.b
          have z7 := S4.out.h.size
          have S5 := Lib.hid (S4.out.step (below_alloc w4 (.cells #[.bool false, .slice none 0 0] 24)))
          have V7_5 := Lib.hid (Box.new w4 w4.heap.size false none 0 0 24 rfl)
          clear S4
          refine hK.out _ _ ⟨S5.out.b.c, S5.out.b.t.c, S5.out.b.t.t.c⟩ (fun h2 => ?_)
          clear hK K hH
          have hH := h2
          clear h2
          try simp only [nrm]
          refine anyH_world (fun w5 hW => ?_)
          rw [← hW] at S5 hH V7_5
          clear hW
          refine wpAnyH_ready (rs := [6]) (by kernel_rfl) (by simp) (ready_cons rfl (fun K hK => ?_) (AllReadyH.nil))
          · go_simp
            have U6 := under_of S5.out.b
            have z6 := S5.out.h.size
            have S6 := Lib.hid (S5.out.step (below_alloc w5 (.cells #[.bool false, .slice none 0 0] 24)))
            have V6_6 := Lib.hid (Box.new w5 w5.heap.size false none 0 0 24 rfl)
            have ne7_6 := Nat.ne_of_lt V7_5.out.lt
            have V7_6 := Lib.hid (V7_5.out.below (below_alloc w5 (.cells #[.bool false, .slice none 0 0] 24)))
            clear V7_5
            clear S5
            refine hK.out _ _ ⟨S6.out.b.c, S6.out.b.t.c, S6.out.b.t.t.c⟩ (fun h2 => ?_)
            clear hK K hH
            have hH := h2
            clear h2
            try simp only [nrm]
            refine anyH_world (fun w6 hW => ?_)
            rw [← hW] at S6 hH V7_6 V6_6
            clear hW
            have sb0 := V6_6.out.c0
            have sb1 := V6_6.out.c1
            have sb2 := V6_6.out.f0
            have sb3 := V6_6.out.f1
            refine step_one 8 rfl (by kernel_rfl) (fun K hK => ?_)
            go_simp
            have S7 := Lib.hid (S6.out.put V6_6.out (.bool s_m) (.slice s_0 s_n s_c) z6 (under_apart U6) (nums_apart rfl))
            have V6_7 := Lib.hid (V6_6.out.set s_m s_0 s_n s_c)
            have V7_7 := Lib.hid (V7_6.out.far (c := w5.heap.size) (by omega) (.bool s_m) (.slice s_0 s_n s_c))
            clear S6 V6_6 V7_6 sb0 sb1 sb2 sb3
            refine hK.out _ _ ⟨S7.out.b.c, S7.out.b.t.c, S7.out.b.t.t.c⟩ (fun h2 => ?_)
            clear hK K hH
            have hH := h2
            clear h2
            try simp only [nrm]
            refine anyH_world (fun w7 hW => ?_)
            rw [← hW] at S7 hH V6_7 V7_7
            clear hW
            have sb0 := V7_7.out.c0
            have sb1 := V7_7.out.c1
            have sb2 := V7_7.out.f0
            have sb3 := V7_7.out.f1
            refine step_one 9 rfl (by kernel_rfl) (fun K hK => ?_)
            go_simp
            have S8 := Lib.hid (S7.out.put V7_7.out (.bool p_m) (.slice p_0 p_n p_c) z7 (under_apart U7) (nums_apart rfl))
            have V7_8 := Lib.hid (V7_7.out.set p_m p_0 p_n p_c)
            have V6_8 := Lib.hid (V6_7.out.far (c := w4.heap.size) (by omega) (.bool p_m) (.slice p_0 p_n p_c))
            clear S7 V6_7 V7_7 sb0 sb1 sb2 sb3
            refine hK.out _ _ ⟨S8.out.b.c, S8.out.b.t.c, S8.out.b.t.t.c⟩ (fun h2 => ?_)
            clear hK K hH
            have hH := h2
            clear h2
            try simp only [nrm]
            refine anyH_world (fun w8 hW => ?_)
            rw [← hW] at S8 hH V6_8 V7_8
            clear hW
            refine wpAnyH_done (by kernel_rfl) ?_ _
            go_wp2_with fail
            go_meet
            case rel => exact ⟨_, _, _, _, _, _, _, _, _, _, rfl, rfl, (Live.add_box V6_8.out (Live.add_box V7_8.out S8.out.b)), (Live.add_can S8.out.n.t.can (Live.add_can S8.out.n.can S8.out.n.t.t)), S8.out.h⟩
      · go_simp
        have U6 := under_of S3.out.b
        have z6 := S3.out.h.size
        have S4 := Lib.hid (S3.out.step (below_alloc w3 (.cells #[.bool false, .slice none 0 0] 24)))
        have V6_4 := Lib.hid (Box.new w3 w3.heap.size false none 0 0 24 rfl)
        clear S3
        refine hK.out _ _ ⟨S4.out.b.c, S4.out.b.t.c, S4.out.b.t.t.c⟩ (fun h2 => ?_)
        clear hK K hH
        have hH := h2
        clear h2
        try simp only [nrm]
        refine anyH_world (fun w4 hW => ?_)
        rw [← hW] at S4 hH V6_4
        clear hW
        refine wpAnyH_ready (rs := [5, 7]) (by kernel_rfl) (by simp) (ready_cons rfl (fun K hK => ?_) (ready_cons rfl (fun K hK => ?_) (AllReadyH.nil)))
        · go_simp
          refine (wmul_any S4.out.n.t.num S4.out.n.t.t.num).mono ?_
          rintro e w5 ⟨p_m, p_0, p_n, p_c, rfl, hX, hB⟩
          have S5 := Lib.hid ((S4.out.step hB).can (hX.cx bd_p (by omega)))
          clear S4 hX
          have V6_5 := Lib.hid (V6_4.out.below hB)
          clear V6_4
          clear hB
          go_wp2_with fail
          refine hK.out _ _ ⟨S5.out.b.c, S5.out.b.t.c, S5.out.b.t.t.c⟩ (fun h2 => ?_)
          clear hK K hH
          have hH := h2
          clear h2
          try simp only [nrm]
          refine wpAnyH_ready (rs := [7]) (by kernel_rfl) (by simp) (ready_cons rfl (fun K hK => ?_) (AllReadyH.nil))
          · go_simp
            have U7 := under_of S5.out.b
            have z7 := S5.out.h.size
            have S6 := Lib.hid (S5.out.step (below_alloc w5 (.cells #[.bool false, .slice none 0 0] 24)))
            have V7_6 := Lib.hid (Box.new w5 w5.heap.size false none 0 0 24 rfl)
            have ne6_7 := Nat.ne_of_lt V6_5.out.lt
            have V6_6 := Lib.hid (V6_5.out.below (below_alloc w5 (.cells #[.bool false, .slice none 0 0] 24)))
            clear V6_5
            clear S5
            refine hK.out _ _ ⟨S6.out.b.c, S6.out.b.t.c, S6.out.b.t.t.c⟩ (fun h2 => ?_)
            clear hK K hH
            have hH := h2
            clear h2
            try simp only [nrm]
            refine anyH_world (fun w6 hW => ?_)
            rw [← hW] at S6 hH V6_6 V7_6
            clear hW
            have sb0 := V6_6.out.c0
            have sb1 := V6_6.out.c1
            have sb2 := V6_6.out.f0
            have sb3 := V6_6.out.f1
            refine step_one 8 rfl (by kernel_rfl) (fun K hK => ?_)
            go_simp
            have S7 := Lib.hid (S6.out.put V6_6.out (.bool s_m) (.slice s_0 s_n s_c) z6 (under_apart U6) (nums_apart rfl))
            have V6_7 := Lib.hid (V6_6.out.set s_m s_0 s_n s_c)
            have V7_7 := Lib.hid (V7_6.out.far (c := w3.heap.size) (by omega) (.bool s_m) (.slice s_0 s_n s_c))
            clear S6 V6_6 V7_6 sb0 sb1 sb2 sb3
            refine hK.out _ _ ⟨S7.out.b.c, S7.out.b.t.c, S7.out.b.t.t.c⟩ (fun h2 => ?_)
            clear hK K hH
            have hH := h2
            clear h2
            try simp only [nrm]
            refine anyH_world (fun w7 hW => ?_)
            rw [← hW] at S7 hH V6_7 V7_7
            clear hW
            have sb0 := V7_7.out.c0
            have sb1 := V7_7.out.c1
            have sb2 := V7_7.out.f0
            have sb3 := V7_7.out.f1
            refine step_one 9 rfl (by kernel_rfl) (fun K hK => ?_)
            go_simp
            have S8 := Lib.hid (S7.out.put V7_7.out (.bool p_m) (.slice p_0 p_n p_c) z7 (under_apart U7) (nums_apart rfl))
            have V7_8 := Lib.hid (V7_7.out.set p_m p_0 p_n p_c)
            have V6_8 := Lib.hid (V6_7.out.far (c := w5.heap.size) (by omega) (.bool p_m) (.slice p_0 p_n p_c))
            clear S7 V6_7 V7_7 sb0 sb1 sb2 sb3
            refine hK.out _ _ ⟨S8.out.b.c, S8.out.b.t.c, S8.out.b.t.t.c⟩ (fun h2 => ?_)
            clear hK K hH
            have hH := h2
            clear h2
            try simp only [nrm]
            refine anyH_world (fun w8 hW => ?_)
            rw [← hW] at S8 hH V6_8 V7_8
            clear hW
            refine wpAnyH_done (by kernel_rfl) ?_ _
            go_wp2_with fail
            go_meet
            case rel => exact ⟨_, _, _, _, _, _, _, _, _, _, rfl, rfl, (Live.add_box V6_8.out (Live.add_box V7_8.out S8.out.b)), (Live.add_can S8.out.n.t.can (Live.add_can S8.out.n.can S8.out.n.t.t)), S8.out.h⟩
        · go_simp
          have U7 := under_of S4.out.b
          have z7 := S4.out.h.size
          have S5 := Lib.hid (S4.out.step (below_alloc w4 (.cells #[.bool false, .slice none 0 0] 24)))
          have V7_5 := Lib.hid (Box.new w4 w4.heap.size false none 0 0 24 rfl)
          have ne6_7 := Nat.ne_of_lt V6_4.out.lt
          have V6_5 := Lib.hid (V6_4.out.below (below_alloc w4 (.cells #[.bool false, .slice none 0 0] 24)))
          clear V6_4
          clear S4
          refine hK.out _ _ ⟨S5.out.b.c, S5.out.b.t.c, S5.out.b.t.t.c⟩ (fun h2 => ?_)
          clear hK K hH
          have hH := h2
          clear h2
          try simp only [nrm]
          refine anyH_world (fun w5 hW => ?_)
          rw [← hW] at S5 hH V6_5 V7_5
          clear hW
          refine wpAnyH_ready (rs := [5]) (by kernel_rfl) (by simp) (ready_cons rfl (fun K hK => ?_) (AllReadyH.nil))
          · go_simp
            refine (wmul_any S5.out.n.t.num S5.out.n.t.t.num).mono ?_
            rintro e w6 ⟨p_m, p_0, p_n, p_c, rfl, hX, hB⟩
            have S6 := Lib.hid ((S5.out.step hB).can (hX.cx bd_p (by omega)))
            clear S5 hX
            have V6_6 := Lib.hid (V6_5.out.below hB)
            clear V6_5
            have V7_6 := Lib.hid (V7_5.out.below hB)
            clear V7_5
            clear hB
            go_wp2_with fail
            refine hK.out _ _ ⟨S6.out.b.c, S6.out.b.t.c, S6.out.b.t.t.c⟩ (fun h2 => ?_)
            clear hK K hH
            have hH := h2
            clear h2
            try simp only [nrm]
            have sb0 := V6_6.out.c0
            have sb1 := V6_6.out.c1
            have sb2 := V6_6.out.f0
            have sb3 := V6_6.out.f1
            refine step_one 8 rfl (by kernel_rfl) (fun K hK => ?_)
            go_simp
            have S7 := Lib.hid (S6.out.put V6_6.out (.bool s_m) (.slice s_0 s_n s_c) z6 (under_apart U6) (nums_apart rfl))
            have V6_7 := Lib.hid (V6_6.out.set s_m s_0 s_n s_c)
            have V7_7 := Lib.hid (V7_6.out.far (c := w3.heap.size) (by omega) (.bool s_m) (.slice s_0 s_n s_c))
            clear S6 V6_6 V7_6 sb0 sb1 sb2 sb3
            refine hK.out _ _ ⟨S7.out.b.c, S7.out.b.t.c, S7.out.b.t.t.c⟩ (fun h2 => ?_)
            clear hK K hH
            have hH := h2
            clear h2
            try simp only [nrm]
            refine anyH_world (fun w7 hW => ?_)
            rw [← hW] at S7 hH V6_7 V7_7
            clear hW
            have sb0 := V7_7.out.c0
            have sb1 := V7_7.out.c1
            have sb2 := V7_7.out.f0
            have sb3 := V7_7.out.f1
            refine step_one 9 rfl (by kernel_rfl) (fun K hK => ?_)
            go_simp
            have S8 := Lib.hid (S7.out.put V7_7.out (.bool p_m) (.slice p_0 p_n p_c) z7 (under_apart U7) (nums_apart rfl))
            have V7_8 := Lib.hid (V7_7.out.set p_m p_0 p_n p_c)
            have V6_8 := Lib.hid (V6_7.out.far (c := w4.heap.size) (by omega) (.bool p_m) (.slice p_0 p_n p_c))
            clear S7 V6_7 V7_7 sb0 sb1 sb2 sb3
            refine hK.out _ _ ⟨S8.out.b.c, S8.out.b.t.c, S8.out.b.t.t.c⟩ (fun h2 => ?_)
            clear hK K hH
            have hH := h2
            clear h2
            try simp only [nrm]
            refine anyH_world (fun w8 hW => ?_)
            rw [← hW] at S8 hH V6_8 V7_8
            clear hW
            refine wpAnyH_done (by kernel_rfl) ?_ _
            go_wp2_with fail
            go_meet
            case rel => exact ⟨_, _, _, _, _, _, _, _, _, _, rfl, rfl, (Live.add_box V6_8.out (Live.add_box V7_8.out S8.out.b)), (Live.add_can S8.out.n.t.can (Live.add_can S8.out.n.can S8.out.n.t.t)), S8.out.h⟩
      · go_simp
        have U7 := under_of S3.out.b
        have z7 := S3.out.h.size
        have S4 := Lib.hid (S3.out.step (below_alloc w3 (.cells #[.bool false, .slice none 0 0] 24)))
        have V7_4 := Lib.hid (Box.new w3 w3.heap.size false none 0 0 24 rfl)
        clear S3
        refine hK.out _ _ ⟨S4.out.b.c, S4.out.b.t.c, S4.out.b.t.t.c⟩ (fun h2 => ?_)
        clear hK K hH
        have hH := h2
        clear h2
        try simp only [nrm]
        refine anyH_world (fun w4 hW => ?_)
        rw [← hW] at S4 hH V7_4
        clear hW
        refine wpAnyH_ready (rs := [5, 6]) (by kernel_rfl) (by simp) (ready_cons rfl (fun K hK => ?_) (ready_cons rfl (fun K hK => ?_) (AllReadyH.nil)))
        · go_simp
          refine (wmul_any S4.out.n.t.num S4.out.n.t.t.num).mono ?_
          rintro e w5 ⟨p_m, p_0, p_n, p_c, rfl, hX, hB⟩
          have S5 := Lib.hid ((S4.out.step hB).can (hX.cx bd_p (by omega)))
          clear S4 hX
          have V7_5 := Lib.hid (V7_4.out.below hB)
          clear V7_4
          clear hB
          go_wp2_with fail
          refine hK.out _ _ ⟨S5.out.b.c, S5.out.b.t.c, S5.out.b.t.t.c⟩ (fun h2 => ?_)
          clear hK K hH
          have hH := h2
          clear h2
          try simp only [nrm]
          refine wpAnyH_ready (rs := [6]) (by kernel_rfl) (by simp) (ready_cons rfl (fun K hK => ?_) (AllReadyH.nil))
          · go_simp
            have U6 := under_of S5.out.b
            have z6 := S5.out.h.size
            have S6 := Lib.hid (S5.out.step (below_alloc w5 (.cells #[.bool false, .slice none 0 0] 24)))
            have V6_6 := Lib.hid (Box.new w5 w5.heap.size false none 0 0 24 rfl)
            have ne7_6 := Nat.ne_of_lt V7_5.out.lt
            have V7_6 := Lib.hid (V7_5.out.below (below_alloc w5 (.cells #[.bool false, .slice none 0 0] 24)))
            clear V7_5
            clear S5
            refine hK.out _ _ ⟨S6.out.b.c, S6.out.b.t.c, S6.out.b.t.t.c⟩ (fun h2 => ?_)
            clear hK K hH
            have hH := h2
            clear h2
            try simp only [nrm]
            refine anyH_world (fun w6 hW => ?_)
            rw [← hW] at S6 hH V7_6 V6_6
            clear hW
            have sb0 := V6_6.out.c0
            have sb1 := V6_6.out.c1
            have sb2 := V6_6.out.f0
            have sb3 := V6_6.out.f1
            refine step_one 8 rfl (by kernel_rfl) (fun K hK => ?_)
            go_simp
            have S7 := Lib.hid (S6.out.put V6_6.out (.bool s_m) (.slice s_0 s_n s_c) z6 (under_apart U6) (nums_apart rfl))
            have V6_7 := Lib.hid (V6_6.out.set s_m s_0 s_n s_c)
            have V7_7 := Lib.hid (V7_6.out.far (c := w5.heap.size) (by omega) (.bool s_m) (.slice s_0 s_n s_c))
            clear S6 V6_6 V7_6 sb0 sb1 sb2 sb3
            refine hK.out _ _ ⟨S7.out.b.c, S7.out.b.t.c, S7.out.b.t.t.c⟩ (fun h2 => ?_)
            clear hK K hH
            have hH := h2
            clear h2
            try simp only [nrm]
            refine anyH_world (fun w7 hW => ?_)
            rw [← hW] at S7 hH V6_7 V7_7
            clear hW
            have sb0 := V7_7.out.c0
            have sb1 := V7_7.out.c1
            have sb2 := V7_7.out.f0
            have sb3 := V7_7.out.f1
            refine step_one 9 rfl (by kernel_rfl) (fun K hK => ?_)
            go_simp
            have S8 := Lib.hid (S7.out.put V7_7.out (.bool p_m) (.slice p_0 p_n p_c) z7 (under_apart U7) (nums_apart rfl))
            have V7_8 := Lib.hid (V7_7.out.set p_m p_0 p_n p_c)
            have V6_8 := Lib.hid (V6_7.out.far (c := w3.heap.size) (by omega) (.bool p_m) (.slice p_0 p_n p_c))
            clear S7 V6_7 V7_7 sb0 sb1 sb2 sb3
            refine hK.out _ _ ⟨S8.out.b.c, S8.out.b.t.c, S8.out.b.t.t.c⟩ (fun h2 => ?_)
            clear hK K hH
            have hH := h2
            clear h2
            try simp only [nrm]
            refine anyH_world (fun w8 hW => ?_)
            rw [← hW] at S8 hH V6_8 V7_8
            clear hW
            refine wpAnyH_done (by kernel_rfl) ?_ _
            go_wp2_with fail
            go_meet
            case rel => exact ⟨_, _, _, _, _, _, _, _, _, _, rfl, rfl, (Live.add_box V6_8.out (Live.add_box V7_8.out S8.out.b)), (Live.add_can S8.out.n.t.can (Live.add_can S8.out.n.can S8.out.n.t.t)), S8.out.h⟩
        · go_simp
          have U6 := under_of S4.out.b
          have z6 := S4.out.h.size
          have S5 := Lib.hid (S4.out.step (below_alloc w4 (.cells #[.bool false, .slice none 0 0] 24)))
          have V6_5 := Lib.hid (Box.new w4 w4.heap.size false none 0 0 24 rfl)
          have ne7_6 := Nat.ne_of_lt V7_4.out.lt
          have V7_5 := Lib.hid (V7_4.out.below (below_alloc w4 (.cells #[.bool false, .slice none 0 0] 24)))
          clear V7_4
          clear S4
          refine hK.out _ _ ⟨S5.out.b.c, S5.out.b.t.c, S5.out.b.t.t.c⟩ (fun h2 => ?_)
          clear hK K hH
          have hH := h2
          clear h2
          try simp only [nrm]
          refine anyH_world (fun w5 hW => ?_)
          rw [← hW] at S5 hH V7_5 V6_5
          clear hW
          refine wpAnyH_ready (rs := [5]) (by kernel_rfl) (by simp) (ready_cons rfl (fun K hK => ?_) (AllReadyH.nil))
          · go_simp
            refine (wmul_any S5.out.n.t.num S5.out.n.t.t.num).mono ?_
            rintro e w6 ⟨p_m, p_0, p_n, p_c, rfl, hX, hB⟩
            have S6 := Lib.hid ((S5.out.step hB).can (hX.cx bd_p (by omega)))
            clear S5 hX
            have V7_6 := Lib.hid (V7_5.out.below hB)
            clear V7_5
            have V6_6 := Lib.hid (V6_5.out.below hB)
            clear V6_5
            clear hB
            go_wp2_with fail
            refine hK.out _ _ ⟨S6.out.b.c, S6.out.b.t.c, S6.out.b.t.t.c⟩ (fun h2 => ?_)
            clear hK K hH
            have hH := h2
            clear h2
            try simp only [nrm]
            have sb0 := V6_6.out.c0
            have sb1 := V6_6.out.c1
            have sb2 := V6_6.out.f0
            have sb3 := V6_6.out.f1
            refine step_one 8 rfl (by kernel_rfl) (fun K hK => ?_)
            go_simp
            have S7 := Lib.hid (S6.out.put V6_6.out (.bool s_m) (.slice s_0 s_n s_c) z6 (under_apart U6) (nums_apart rfl))
            have V6_7 := Lib.hid (V6_6.out.set s_m s_0 s_n s_c)
            have V7_7 := Lib.hid (V7_6.out.far (c := w4.heap.size) (by omega) (.bool s_m) (.slice s_0 s_n s_c))
            clear S6 V6_6 V7_6 sb0 sb1 sb2 sb3
            refine hK.out _ _ ⟨S7.out.b.c, S7.out.b.t.c, S7.out.b.t.t.c⟩ (fun h2 => ?_)
            clear hK K hH
            have hH := h2
            clear h2
            try simp only [nrm]
            refine anyH_world (fun w7 hW => ?_)
            rw [← hW] at S7 hH V6_7 V7_7
            clear hW
            have sb0 := V7_7.out.c0
            have sb1 := V7_7.out.c1
            have sb2 := V7_7.out.f0
            have sb3 := V7_7.out.f1
            refine step_one 9 rfl (by kernel_rfl) (fun K hK => ?_)
            go_simp
            have S8 := Lib.hid (S7.out.put V7_7.out (.bool p_m) (.slice p_0 p_n p_c) z7 (under_apart U7) (nums_apart rfl))
            have V7_8 := Lib.hid (V7_7.out.set p_m p_0 p_n p_c)
            have V6_8 := Lib.hid (V6_7.out.far (c := w3.heap.size) (by omega) (.bool p_m) (.slice p_0 p_n p_c))
            clear S7 V6_7 V7_7 sb0 sb1 sb2 sb3
            refine hK.out _ _ ⟨S8.out.b.c, S8.out.b.t.c, S8.out.b.t.t.c⟩ (fun h2 => ?_)
            clear hK K hH
            have hH := h2
            clear h2
            try simp only [nrm]
            refine anyH_world (fun w8 hW => ?_)
            rw [← hW] at S8 hH V6_8 V7_8
            clear hW
            refine wpAnyH_done (by kernel_rfl) ?_ _
            go_wp2_with fail
            go_meet
            case rel => exact ⟨_, _, _, _, _, _, _, _, _, _, rfl, rfl, (Live.add_box V6_8.out (Live.add_box V7_8.out S8.out.b)), (Live.add_can S8.out.n.t.can (Live.add_can S8.out.n.can S8.out.n.t.t)), S8.out.h⟩
    · go_simp
      have U6 := under_of S2.out.b
      have z6 := S2.out.h.size
      have S3 := Lib.hid (S2.out.step (below_alloc w2 (.cells #[.bool false, .slice none 0 0] 24)))
      have V6_3 := Lib.hid (Box.new w2 w2.heap.size false none 0 0 24 rfl)
      clear S2
      refine hK.out _ _ ⟨S3.out.b.c, S3.out.b.t.c, S3.out.b.t.t.c⟩ (fun h2 => ?_)
      clear hK K hH
      have hH := h2
      clear h2
      try simp only [nrm]
      refine anyH_world (fun w3 hW => ?_)
      rw [← hW] at S3 hH V6_3
      clear hW
      refine wpAnyH_ready (rs := [2, 7]) (by kernel_rfl) (by simp) (ready_cons rfl (fun K hK => ?_) (ready_cons rfl (fun K hK => ?_) (AllReadyH.nil)))
      · go_simp
        refine (wadd_any S3.out.n.num S3.out.n.t.num).mono ?_
        rintro e w4 ⟨s_m, s_0, s_n, s_c, rfl, hX, hB⟩
        have S4 := Lib.hid ((S3.out.step hB).can (hX.cx bd_s (by omega)))
        clear S3 hX
        have V6_4 := Lib.hid (V6_3.out.below hB)
        clear V6_3
        clear hB
        go_wp2_with fail
        refine hK.out _ _ ⟨S4.out.b.c, S4.out.b.t.c, S4.out.b.t.t.c⟩ (fun h2 => ?_)
        clear hK K hH
        have hH := h2
        clear h2
        try simp only [nrm]
        refine wpAnyH_ready (rs := [5, 7]) (by kernel_rfl) (by simp) (ready_cons rfl (fun K hK => ?_) (ready_cons rfl (fun K hK => ?_) (AllReadyH.nil)))
        · go_simp
          refine (wmul_any S4.out.n.t.num S4.out.n.t.t.num).mono ?_
          rintro e w5 ⟨p_m, p_0, p_n, p_c, rfl, hX, hB⟩
          have S5 := Lib.hid ((S4.out.step hB).can (hX.cx bd_p (by omega)))
          clear S4 hX
          have V6_5 := Lib.hid (V6_4.out.below hB)
          clear V6_4
          clear hB
          go_wp2_with fail
          refine hK.out _ _ ⟨S5.out.b.c, S5.out.b.t.c, S5.out.b.t.t.c⟩ (fun h2 => ?_)
          clear hK K hH
          have hH := h2
          clear h2
          try simp only [nrm]
          refine wpAnyH_ready (rs := [7]) (by kernel_rfl) (by simp) (ready_cons rfl (fun K hK => ?_) (AllReadyH.nil))
          · go_simp
            have U7 := under_of S5.out.b
            have z7 := S5.out.h.size
            have S6 := Lib.hid (S5.out.step (below_alloc w5 (.cells #[.bool false, .slice none 0 0] 24)))
            have V7_6 := Lib.hid (Box.new w5 w5.heap.size false none 0 0 24 rfl)
            have ne6_7 := Nat.ne_of_lt V6_5.out.lt
            have V6_6 := Lib.hid (V6_5.out.below (below_alloc w5 (.cells #[.bool false, .slice none 0 0] 24)))
            clear V6_5
            clear S5
            refine hK.out _ _ ⟨S6.out.b.c, S6.out.b.t.c, S6.out.b.t.t.c⟩ (fun h2 => ?_)
            clear hK K hH
            have hH := h2
            clear h2
            try simp only [nrm]
            refine anyH_world (fun w6 hW => ?_)
            rw [← hW] at S6 hH V6_6 V7_6
            clear hW
            have sb0 := V6_6.out.c0
            have sb1 := V6_6.out.c1
            have sb2 := V6_6.out.f0
            have sb3 := V6_6.out.f1
            refine step_one 8 rfl (by kernel_rfl) (fun K hK => ?_)
            go_simp
            have S7 := Lib.hid (S6.out.put V6_6.out (.bool s_m) (.slice s_0 s_n s_c) z6 (under_apart U6) (nums_apart rfl))
            have V6_7 := Lib.hid (V6_6.out.set s_m s_0 s_n s_c)
            have V7_7 := Lib.hid (V7_6.out.far (c := w2.heap.size) (by omega) (.bool s_m) (.slice s_0 s_n s_c))
            clear S6 V6_6 V7_6 sb0 sb1 sb2 sb3
            refine hK.out _ _ ⟨S7.out.b.c, S7.out.b.t.c, S7.out.b.t.t.c⟩ (fun h2 => ?_)
            clear hK K hH
            have hH := h2
            clear h2
            try simp only [nrm]
            refine anyH_world (fun w7 hW => ?_)
            rw [← hW] at S7 hH V6_7 V7_7
            clear hW
            have sb0 := V7_7.out.c0
            have sb1 := V7_7.out.c1
            have sb2 := V7_7.out.f0
            have sb3 := V7_7.out.f1
            refine step_one 9 rfl (by kernel_rfl) (fun K hK => ?_)
            go_simp
            have S8 := Lib.hid (S7.out.put V7_7.out (.bool p_m) (.slice p_0 p_n p_c) z7 (under_apart U7) (nums_apart rfl))
            have V7_8 := Lib.hid (V7_7.out.set p_m p_0 p_n p_c)
            have V6_8 := Lib.hid (V6_7.out.far (c := w5.heap.size) (by omega) (.bool p_m) (.slice p_0 p_n p_c))
            clear S7 V6_7 V7_7 sb0 sb1 sb2 sb3
            refine hK.out _ _ ⟨S8.out.b.c, S8.out.b.t.c, S8.out.b.t.t.c⟩ (fun h2 => ?_)
            clear hK K hH
            have hH := h2
            clear h2
            try simp only [nrm]
            refine anyH_world (fun w8 hW => ?_)
            rw [← hW] at S8 hH V6_8 V7_8
            clear hW
            refine wpAnyH_done (by kernel_rfl) ?_ _
            go_wp2_with fail
            go_meet
            case rel => exact ⟨_, _, _, _, _, _, _, _, _, _, rfl, rfl, (Live.add_box V6_8.out (Live.add_box V7_8.out S8.out.b)), (Live.add_can S8.out.n.t.can (Live.add_can S8.out.n.can S8.out.n.t.t)), S8.out.h⟩
        · go_simp
          have U7 := under_of S4.out.b
          have z7 := S4.out.h.size
          have S5 := Lib.hid (S4.out.step (below_alloc w4 (.cells #[.bool false, .slice none 0 0] 24)))
          have V7_5 := Lib.hid (Box.new w4 w4.heap.size false none 0 0 24 rfl)
          have ne6_7 := Nat.ne_of_lt V6_4.out.lt
          have V6_5 := Lib.hid (V6_4.out.below (below_alloc w4 (.cells #[.bool false, .slice none 0 0] 24)))
          clear V6_4
          clear S4
          refine hK.out _ _ ⟨S5.out.b.c, S5.out.b.t.c, S5.out.b.t.t.c⟩ (fun h2 => ?_)
          clear hK K hH
          have hH := h2
          clear h2
          try simp only [nrm]
          refine anyH_world (fun w5 hW => ?_)
          rw [← hW] at S5 hH V6_5 V7_5
          clear hW
          refine wpAnyH_ready (rs := [5]) (by kernel_rfl) (by simp) (ready_cons rfl (fun K hK => ?_) (AllReadyH.nil))
          · go_simp
            refine (wmul_any S5.out.n.t.num S5.out.n.t.t.num).mono ?_
            rintro e w6 ⟨p_m, p_0, p_n, p_c, rfl, hX, hB⟩
            have S6 := Lib.hid ((S5.out.step hB).can (hX.cx bd_p (by omega)))
            clear S5 hX
            have V6_6 := Lib.hid (V6_5.out.below hB)
            clear V6_5
            have V7_6 := Lib.hid (V7_5.out.below hB)
            clear V7_5
            clear hB
            go_wp2_with fail
            refine hK.out _ _ ⟨S6.out.b.c, S6.out.b.t.c, S6.out.b.t.t.c⟩ (fun h2 => ?_)
            clear hK K hH
            have hH := h2
            clear h2
            try simp only [nrm]
            have sb0 := V6_6.out.c0
            have sb1 := V6_6.out.c1
            have sb2 := V6_6.out.f0
            have sb3 := V6_6.out.f1
            refine step_one 8 rfl (by kernel_rfl) (fun K hK => ?_)
            go_simp
            have S7 := Lib.hid (S6.out.put V6_6.out (.bool s_m) (.slice s_0 s_n s_c) z6 (under_apart U6) (nums_apart rfl))
            have V6_7 := Lib.hid (V6_6.out.set s_m s_0 s_n s_c)
            have V7_7 := Lib.hid (V7_6.out.far (c := w2.heap.size) (by omega) (.bool s_m) (.slice s_0 s_n s_c))
            clear S6 V6_6 V7_6 sb0 sb1 sb2 sb3
            refine hK.out _ _ ⟨S7.out.b.c, S7.out.b.t.c, S7.out.b.t.t.c⟩ (fun h2 => ?_)
            clear hK K hH
            have hH := h2
            clear h2
            try simp only [nrm]
            refine anyH_world (fun w7 hW => ?_)
            rw [← hW] at S7 hH V6_7 V7_7
            clear hW
            have sb0 := V7_7.out.c0
            have sb1 := V7_7.out.c1
            have sb2 := V7_7.out.f0
            have sb3 := V7_7.out.f1
            refine step_one 9 rfl (by kernel_rfl) (fun K hK => ?_)
            go_simp
            have S8 := Lib.hid (S7.out.put V7_7.out (.bool p_m) (.slice p_0 p_n p_c) z7 (under_apart U7) (nums_apart rfl))
            have V7_8 := Lib.hid (V7_7.out.set p_m p_0 p_n p_c)
            have V6_8 := Lib.hid (V6_7.out.far (c := w4.heap.size) (by omega) (.bool p_m) (.slice p_0 p_n p_c))
            clear S7 V6_7 V7_7 sb0 sb1 sb2 sb3
            refine hK.out _ _ ⟨S8.out.b.c, S8.out.b.t.c, S8.out.b.t.t.c⟩ (fun h2 => ?_)
            clear hK K hH
            have hH := h2
            clear h2
            try simp only [nrm]
            refine anyH_world (fun w8 hW => ?_)
            rw [← hW] at S8 hH V6_8 V7_8
            clear hW
            refine wpAnyH_done (by kernel_rfl) ?_ _
            go_wp2_with fail
            go_meet
            case rel => exact ⟨_, _, _, _, _, _, _, _, _, _, rfl, rfl, (Live.add_box V6_8.out (Live.add_box V7_8.out S8.out.b)), (Live.add_can S8.out.n.t.can (Live.add_can S8.out.n.can S8.out.n.t.t)), S8.out.h⟩
      · go_simp
        have U7 := under_of S3.out.b
        have z7 := S3.out.h.size
        have S4 := Lib.hid (S3.out.step (below_alloc w3 (.cells #[.bool false, .slice none 0 0] 24)))
        have V7_4 := Lib.hid (Box.new w3 w3.heap.size false none 0 0 24 rfl)
        have ne6_7 := Nat.ne_of_lt V6_3.out.lt
        have V6_4 := Lib.hid (V6_3.out.below (below_alloc w3 (.cells #[.bool false, .slice none 0 0] 24)))
        clear V6_3
        clear S3
        refine hK.out _ _ ⟨S4.out.b.c, S4.out.b.t.c, S4.out.b.t.t.c⟩ (fun h2 => ?_)
        clear hK K hH
        have hH := h2
        clear h2
        try simp only [nrm]
        refine anyH_world (fun w4 hW => ?_)
        rw [← hW] at S4 hH V6_4 V7_4
        clear hW
        refine wpAnyH_ready (rs := [2]) (by kernel_rfl) (by simp) (ready_cons rfl (fun K hK => ?_) (AllReadyH.nil))
        · go_simp
          refine (wadd_any S4.out.n.num S4.out.n.t.num).mono ?_
          rintro e w5 ⟨s_m, s_0, s_n, s_c, rfl, hX, hB⟩
          have S5 := Lib.hid ((S4.out.step hB).can (hX.cx bd_s (by omega)))
          clear S4 hX
          have V6_5 := Lib.hid (V6_4.out.below hB)
          clear V6_4
          have V7_5 := Lib.hid (V7_4.out.below hB)
          clear V7_4
          clear hB
          go_wp2_with fail
          refine hK.out _ _ ⟨S5.out.b.c, S5.out.b.t.c, S5.out.b.t.t.c⟩ (fun h2 => ?_)
          clear hK K hH
          have hH := h2
          clear h2
          try simp only [nrm]
          refine wpAnyH_ready (rs := [5]) (by kernel_rfl) (by simp) (ready_cons rfl (fun K hK => ?_) (AllReadyH.nil))
          · go_simp
            refine (wmul_any S5.out.n.t.num S5.out.n.t.t.num).mono ?_
            rintro e w6 ⟨p_m, p_0, p_n, p_c, rfl, hX, hB⟩
            have S6 := Lib.hid ((S5.out.step hB).can (hX.cx bd_p (by omega)))
            clear S5 hX
            have V6_6 := Lib.hid (V6_5.out.below hB)
            clear V6_5
            have V7_6 := Lib.hid (V7_5.out.below hB)
            clear V7_5
            clear hB
            go_wp2_with fail
            refine hK.out _ _ ⟨S6.out.b.c, S6.out.b.t.c, S6.out.b.t.t.c⟩ (fun h2 => ?_)
            clear hK K hH
            have hH := h2
            clear h2
            try simp only [nrm]
            have sb0 := V6_6.out.c0
            have sb1 := V6_6.out.c1
            have sb2 := V6_6.out.f0
            have sb3 := V6_6.out.f1
            refine step_one 8 rfl (by kernel_rfl) (fun K hK => ?_)
            go_simp
            have S7 := Lib.hid (S6.out.put V6_6.out (.bool s_m) (.slice s_0 s_n s_c) z6 (under_apart U6) (nums_apart rfl))
            have V6_7 := Lib.hid (V6_6.out.set s_m s_0 s_n s_c)
            have V7_7 := Lib.hid (V7_6.out.far (c := w2.heap.size) (by omega) (.bool s_m) (.slice s_0 s_n s_c))
            clear S6 V6_6 V7_6 sb0 sb1 sb2 sb3
            refine hK.out _ _ ⟨S7.out.b.c, S7.out.b.t.c, S7.out.b.t.t.c⟩ (fun h2 => ?_)
            clear hK K hH
            have hH := h2
            clear h2
            try simp only [nrm]
            refine anyH_world (fun w7 hW => ?_)
            rw [← hW] at S7 hH V6_7 V7_7
            clear hW
            have sb0 := V7_7.out.c0
            have sb1 := V7_7.out.c1
            have sb2 := V7_7.out.f0
            have sb3 := V7_7.out.f1
            refine step_one 9 rfl (by kernel_rfl) (fun K hK => ?_)
            go_simp
            have S8 := Lib.hid (S7.out.put V7_7.out (.bool p_m) (.slice p_0 p_n p_c) z7 (under_apart U7) (nums_apart rfl))
            have V7_8 := Lib.hid (V7_7.out.set p_m p_0 p_n p_c)
            have V6_8 := Lib.hid (V6_7.out.far (c := w3.heap.size) (by omega) (.bool p_m) (.slice p_0 p_n p_c))
            clear S7 V6_7 V7_7 sb0 sb1 sb2 sb3
            refine hK.out _ _ ⟨S8.out.b.c, S8.out.b.t.c, S8.out.b.t.t.c⟩ (fun h2 => ?_)
            clear hK K hH
            have hH := h2
            clear h2
            try simp only [nrm]
            refine anyH_world (fun w8 hW => ?_)
            rw [← hW] at S8 hH V6_8 V7_8
            clear hW
            refine wpAnyH_done (by kernel_rfl) ?_ _
            go_wp2_with fail
            go_meet
            case rel => exact ⟨_, _, _, _, _, _, _, _, _, _, rfl, rfl, (Live.add_box V6_8.out (Live.add_box V7_8.out S8.out.b)), (Live.add_can S8.out.n.t.can (Live.add_can S8.out.n.can S8.out.n.t.t)), S8.out.h⟩
    · go_simp
      have U7 := under_of S2.out.b
      have z7 := S2.out.h.size
      have S3 := Lib.hid (S2.out.step (below_alloc w2 (.cells #[.bool false, .slice none 0 0] 24)))
      have V7_3 := Lib.hid (Box.new w2 w2.heap.size false none 0 0 24 rfl)
      clear S2
      refine hK.out _ _ ⟨S3.out.b.c, S3.out.b.t.c, S3.out.b.t.t.c⟩ (fun h2 => ?_)
      clear hK K hH
      have hH := h2
      clear h2
      try simp only [nrm]
      refine anyH_world (fun w3 hW => ?_)
      rw [← hW] at S3 hH V7_3
      clear hW
      refine wpAnyH_ready (rs := [2, 6]) (by kernel_rfl) (by simp) (ready_cons rfl (fun K hK => ?_) (ready_cons rfl (fun K hK => ?_) (AllReadyH.nil)))
      · go_simp
        refine (wadd_any S3.out.n.num S3.out.n.t.num).mono ?_
        rintro e w4 ⟨s_m, s_0, s_n, s_c, rfl, hX, hB⟩
        have S4 := Lib.hid ((S3.out.step hB).can (hX.cx bd_s (by omega)))
        clear S3 hX
        have V7_4 := Lib.hid (V7_3.out.below hB)
        clear V7_3
        clear hB
        go_wp2_with fail
        refine hK.out _ _ ⟨S4.out.b.c, S4.out.b.t.c, S4.out.b.t.t.c⟩ (fun h2 => ?_)
        clear hK K hH
        have hH := h2
        clear h2
        try simp only [nrm]
        refine wpAnyH_ready (rs := [5, 6]) (by kernel_rfl) (by simp) (ready_cons rfl (fun K hK => ?_) (ready_cons rfl (fun K hK => ?_) (AllReadyH.nil)))
        · go_simp
          refine (wmul_any S4.out.n.t.num S4.out.n.t.t.num).mono ?_
          rintro e w5 ⟨p_m, p_0, p_n, p_c, rfl, hX, hB⟩
          have S5 := Lib.hid ((S4.out.step hB).can (hX.cx bd_p (by omega)))
          clear S4 hX
          have V7_5 := Lib.hid (V7_4.out.below hB)
          clear V7_4
          clear hB
          go_wp2_with fail
          refine hK.out _ _ ⟨S5.out.b.c, S5.out.b.t.c, S5.out.b.t.t.c⟩ (fun h2 => ?_)
          clear hK K hH
          have hH := h2
          clear h2
          try simp only [nrm]
          refine wpAnyH_ready (rs := [6]) (by kernel_rfl) (by simp) (ready_cons rfl (fun K hK => ?_) (AllReadyH.nil))
          · go_simp
            have U6 := under_of S5.out.b
            have z6 := S5.out.h.size
            have S6 := Lib.hid (S5.out.step (below_alloc w5 (.cells #[.bool false, .slice none 0 0] 24)))
            have V6_6 := Lib.hid (Box.new w5 w5.heap.size false none 0 0 24 rfl)
            have ne7_6 := Nat.ne_of_lt V7_5.out.lt
            have V7_6 := Lib.hid (V7_5.out.below (below_alloc w5 (.cells #[.bool false, .slice none 0 0] 24)))
            clear V7_5
            clear S5
            refine hK.out _ _ ⟨S6.out.b.c, S6.out.b.t.c, S6.out.b.t.t.c⟩ (fun h2 => ?_)
            clear hK K hH
            have hH := h2
            clear h2
            try simp only [nrm]
            refine anyH_world (fun w6 hW => ?_)
            rw [← hW] at S6 hH V7_6 V6_6
            clear hW
            have sb0 := V6_6.out.c0
            have sb1 := V6_6.out.c1
            have sb2 := V6_6.out.f0
            have sb3 := V6_6.out.f1
            refine step_one 8 rfl (by kernel_rfl) (fun K hK => ?_)
            go_simp
            have S7 := Lib.hid (S6.out.put V6_6.out (.bool s_m) (.slice s_0 s_n s_c) z6 (under_apart U6) (nums_apart rfl))
            have V6_7 := Lib.hid (V6_6.out.set s_m s_0 s_n s_c)
            have V7_7 := Lib.hid (V7_6.out.far (c := w5.heap.size) (by omega) (.bool s_m) (.slice s_0 s_n s_c))
            clear S6 V6_6 V7_6 sb0 sb1 sb2 sb3
            refine hK.out _ _ ⟨S7.out.b.c, S7.out.b.t.c, S7.out.b.t.t.c⟩ (fun h2 => ?_)
            clear hK K hH
            have hH := h2
            clear h2
            try simp only [nrm]
            refine anyH_world (fun w7 hW => ?_)
            rw [← hW] at S7 hH V6_7 V7_7
            clear hW
            have sb0 := V7_7.out.c0
            have sb1 := V7_7.out.c1
            have sb2 := V7_7.out.f0
            have sb3 := V7_7.out.f1
            refine step_one 9 rfl (by kernel_rfl) (fun K hK => ?_)
            go_simp
            have S8 := Lib.hid (S7.out.put V7_7.out (.bool p_m) (.slice p_0 p_n p_c) z7 (under_apart U7) (nums_apart rfl))
            have V7_8 := Lib.hid (V7_7.out.set p_m p_0 p_n p_c)
            have V6_8 := Lib.hid (V6_7.out.far (c := w2.heap.size) (by omega) (.bool p_m) (.slice p_0 p_n p_c))
            clear S7 V6_7 V7_7 sb0 sb1 sb2 sb3
            refine hK.out _ _ ⟨S8.out.b.c, S8.out.b.t.c, S8.out.b.t.t.c⟩ (fun h2 => ?_)
            clear hK K hH
            have hH := h2
            clear h2
            try simp only [nrm]
            refine anyH_world (fun w8 hW => ?_)
            rw [← hW] at S8 hH V6_8 V7_8
            clear hW
            refine wpAnyH_done (by kernel_rfl) ?_ _
            go_wp2_with fail
            go_meet
            case rel => exact ⟨_, _, _, _, _, _, _, _, _, _, rfl, rfl, (Live.add_box V6_8.out (Live.add_box V7_8.out S8.out.b)), (Live.add_can S8.out.n.t.can (Live.add_can S8.out.n.can S8.out.n.t.t)), S8.out.h⟩
        · go_simp
          have U6 := under_of S4.out.b
          have z6 := S4.out.h.size
          have S5 := Lib.hid (S4.out.step (below_alloc w4 (.cells #[.bool false, .slice none 0 0] 24)))
          have V6_5 := Lib.hid (Box.new w4 w4.heap.size false none 0 0 24 rfl)
          have ne7_6 := Nat.ne_of_lt V7_4.out.lt
          have V7_5 := Lib.hid (V7_4.out.below (below_alloc w4 (.cells #[.bool false, .slice none 0 0] 24)))
          clear V7_4
          clear S4
          refine hK.out _ _ ⟨S5.out.b.c, S5.out.b.t.c, S5.out.b.t.t.c⟩ (fun h2 => ?_)
          clear hK K hH
          have hH := h2
          clear h2
          try simp only [nrm]
          refine anyH_world (fun w5 hW => ?_)
          rw [← hW] at S5 hH V7_5 V6_5
          clear hW
          refine wpAnyH_ready (rs := [5]) (by kernel_rfl) (by simp) (ready_cons rfl (fun K hK => ?_) (AllReadyH.nil))
          · go_simp
            refine (wmul_any S5.out.n.t.num S5.out.n.t.t.num).mono ?_
            rintro e w6 ⟨p_m, p_0, p_n, p_c, rfl, hX, hB⟩
            have S6 := Lib.hid ((S5.out.step hB).can (hX.cx bd_p (by omega)))
            clear S5 hX
            have V7_6 := Lib.hid (V7_5.out.below hB)
            clear V7_5
            have V6_6 := Lib.hid (V6_5.out.below hB)
            clear V6_5
            clear hB
            go_wp2_with fail
            refine hK.out _ _ ⟨S6.out.b.c, S6.out.b.t.c, S6.out.b.t.t.c⟩ (fun h2 => ?_)
            clear hK K hH
            have hH := h2
            clear h2
            try simp only [nrm]
            have sb0 := V6_6.out.c0
            have sb1 := V6_6.out.c1
            have sb2 := V6_6.out.f0
            have sb3 := V6_6.out.f1
            refine step_one 8 rfl (by kernel_rfl) (fun K hK => ?_)
            go_simp
            have S7 := Lib.hid (S6.out.put V6_6.out (.bool s_m) (.slice s_0 s_n s_c) z6 (under_apart U6) (nums_apart rfl))
            have V6_7 := Lib.hid (V6_6.out.set s_m s_0 s_n s_c)
            have V7_7 := Lib.hid (V7_6.out.far (c := w4.heap.size) (by omega) (.bool s_m) (.slice s_0 s_n s_c))
            clear S6 V6_6 V7_6 sb0 sb1 sb2 sb3
            refine hK.out _ _ ⟨S7.out.b.c, S7.out.b.t.c, S7.out.b.t.t.c⟩ (fun h2 => ?_)
            clear hK K hH
            have hH := h2
            clear h2
            try simp only [nrm]
            refine anyH_world (fun w7 hW => ?_)
            rw [← hW] at S7 hH V6_7 V7_7
            clear hW
            have sb0 := V7_7.out.c0
            have sb1 := V7_7.out.c1
            have sb2 := V7_7.out.f0
            have sb3 := V7_7.out.f1
            refine step_one 9 rfl (by kernel_rfl) (fun K hK => ?_)
            go_simp
            have S8 := Lib.hid (S7.out.put V7_7.out (.bool p_m) (.slice p_0 p_n p_c) z7 (under_apart U7) (nums_apart rfl))
            have V7_8 := Lib.hid (V7_7.out.set p_m p_0 p_n p_c)
            have V6_8 := Lib.hid (V6_7.out.far (c := w2.heap.size) (by omega) (.bool p_m) (.slice p_0 p_n p_c))
            clear S7 V6_7 V7_7 sb0 sb1 sb2 sb3
            refine hK.out _ _ ⟨S8.out.b.c, S8.out.b.t.c, S8.out.b.t.t.c⟩ (fun h2 => ?_)
            clear hK K hH
            have hH := h2
            clear h2
            try simp only [nrm]
            refine anyH_world (fun w8 hW => ?_)
            rw [← hW] at S8 hH V6_8 V7_8
            clear hW
            refine wpAnyH_done (by kernel_rfl) ?_ _
            go_wp2_with fail
            go_meet
            case rel => exact ⟨_, _, _, _, _, _, _, _, _, _, rfl, rfl, (Live.add_box V6_8.out (Live.add_box V7_8.out S8.out.b)), (Live.add_can S8.out.n.t.can (Live.add_can S8.out.n.can S8.out.n.t.t)), S8.out.h⟩
      · go_simp
        have U6 := under_of S3.out.b
        have z6 := S3.out.h.size
        have S4 := Lib.hid (S3.out.step (below_alloc w3 (.cells #[.bool false, .slice none 0 0] 24)))
        have V6_4 := Lib.hid (Box.new w3 w3.heap.size false none 0 0 24 rfl)
        have ne7_6 := Nat.ne_of_lt V7_3.out.lt
        have V7_4 := Lib.hid (V7_3.out.below (below_alloc w3 (.cells #[.bool false, .slice none 0 0] 24)))
        clear V7_3
        clear S3
        refine hK.out _ _ ⟨S4.out.b.c, S4.out.b.t.c, S4.out.b.t.t.c⟩ (fun h2 => ?_)
        clear hK K hH
        have hH := h2
        clear h2
        try simp only [nrm]
        refine anyH_world (fun w4 hW => ?_)
        rw [← hW] at S4 hH V7_4 V6_4
        clear hW
        refine wpAnyH_ready (rs := [2]) (by kernel_rfl) (by simp) (ready_cons rfl (fun K hK => ?_) (AllReadyH.nil))
        · go_simp
          refine (wadd_any S4.out.n.num S4.out.n.t.num).mono ?_
          rintro e w5 ⟨s_m, s_0, s_n, s_c, rfl, hX, hB⟩
          have S5 := Lib.hid ((S4.out.step hB).can (hX.cx bd_s (by omega)))
          clear S4 hX
          have V7_5 := Lib.hid (V7_4.out.below hB)
          clear V7_4
          have V6_5 := Lib.hid (V6_4.out.below hB)
          clear V6_4
          clear hB
          go_wp2_with fail
          refine hK.out _ _ ⟨S5.out.b.c, S5.out.b.t.c, S5.out.b.t.t.c⟩ (fun h2 => ?_)
          clear hK K hH
          have hH := h2
          clear h2
          try simp only [nrm]
          refine wpAnyH_ready (rs := [5]) (by kernel_rfl) (by simp) (ready_cons rfl (fun K hK => ?_) (AllReadyH.nil))
          · go_simp
            refine (wmul_any S5.out.n.t.num S5.out.n.t.t.num).mono ?_
            rintro e w6 ⟨p_m, p_0, p_n, p_c, rfl, hX, hB⟩
            have S6 := Lib.hid ((S5.out.step hB).can (hX.cx bd_p (by omega)))
            clear S5 hX
            have V7_6 := Lib.hid (V7_5.out.below hB)
            clear V7_5
            have V6_6 := Lib.hid (V6_5.out.below hB)
            clear V6_5
            clear hB
            go_wp2_with fail
            refine hK.out _ _ ⟨S6.out.b.c, S6.out.b.t.c, S6.out.b.t.t.c⟩ (fun h2 => ?_)
            clear hK K hH
            have hH := h2
            clear h2
            try simp only [nrm]
            have sb0 := V6_6.out.c0
            have sb1 := V6_6.out.c1
            have sb2 := V6_6.out.f0
            have sb3 := V6_6.out.f1
            refine step_one 8 rfl (by kernel_rfl) (fun K hK => ?_)
            go_simp
            have S7 := Lib.hid (S6.out.put V6_6.out (.bool s_m) (.slice s_0 s_n s_c) z6 (under_apart U6) (nums_apart rfl))
            have V6_7 := Lib.hid (V6_6.out.set s_m s_0 s_n s_c)
            have V7_7 := Lib.hid (V7_6.out.far (c := w3.heap.size) (by omega) (.bool s_m) (.slice s_0 s_n s_c))
            clear S6 V6_6 V7_6 sb0 sb1 sb2 sb3
            refine hK.out _ _ ⟨S7.out.b.c, S7.out.b.t.c, S7.out.b.t.t.c⟩ (fun h2 => ?_)
            clear hK K hH
            have hH := h2
            clear h2
            try simp only [nrm]
            refine anyH_world (fun w7 hW => ?_)
            rw [← hW] at S7 hH V6_7 V7_7
            clear hW
            have sb0 := V7_7.out.c0
            have sb1 := V7_7.out.c1
            have sb2 := V7_7.out.f0
            have sb3 := V7_7.out.f1
            refine step_one 9 rfl (by kernel_rfl) (fun K hK => ?_)
            go_simp
            have S8 := Lib.hid (S7.out.put V7_7.out (.bool p_m) (.slice p_0 p_n p_c) z7 (under_apart U7) (nums_apart rfl))
            have V7_8 := Lib.hid (V7_7.out.set p_m p_0 p_n p_c)
            have V6_8 := Lib.hid (V6_7.out.far (c := w2.heap.size) (by omega) (.bool p_m) (.slice p_0 p_n p_c))
            clear S7 V6_7 V7_7 sb0 sb1 sb2 sb3
            refine hK.out _ _ ⟨S8.out.b.c, S8.out.b.t.c, S8.out.b.t.t.c⟩ (fun h2 => ?_)
            clear hK K hH
            have hH := h2
            clear h2
            try simp only [nrm]
            refine anyH_world (fun w8 hW => ?_)
            rw [← hW] at S8 hH V6_8 V7_8
            clear hW
            refine wpAnyH_done (by kernel_rfl) ?_ _
            go_wp2_with fail
            go_meet
            case rel => exact ⟨_, _, _, _, _, _, _, _, _, _, rfl, rfl, (Live.add_box V6_8.out (Live.add_box V7_8.out S8.out.b)), (Live.add_can S8.out.n.t.can (Live.add_can S8.out.n.can S8.out.n.t.t)), S8.out.h⟩
  case rest =>
  clear bx_0 bx_1 by_0 by_1 bz_0 bz_1
  clear S1
  obtain ⟨b_s, s_m, s_0, s_n, s_c, b_p, p_m, p_0, p_n, p_c, rfl, rfl, S2⟩ := hcut
  obtain ⟨w2, hW⟩ : ∃ w2, w2 = wc := ⟨_, rfl⟩
  rw [← hW] at S2 ⊢
  clear hW
  obtain ⟨bx_0, bx_1⟩ := S2.out.b.t.t.c
  obtain ⟨by_0, by_1⟩ := S2.out.b.t.t.t.c
  obtain ⟨bz_0, bz_1⟩ := S2.out.b.t.t.t.t.c
  obtain ⟨b_s_0, b_s_1⟩ := S2.out.b.c
  obtain ⟨b_p_0, b_p_1⟩ := S2.out.b.t.c
  go_wp2_with fail
  have bd_yx : Bd ((y + x)) 26 := (bd_y.mono (show 25 ≤ 25 by omega)).add (bd_x.mono (show 25 ≤ 25 by omega)) (by omega)
  have EQ1 := Lib.hid (show (x + y) = (y + x) from Int.add_comm _ _)
  have bd_pyx : Bd ((y * x)) 50 := bd_y.mul bd_x
  have EQ2 := Lib.hid (show (x * y) = (y * x) from Int.mul_comm _ _)
  have bd_sz : Bd (((x + y) + z)) 27 := (bd_s.mono (show 26 ≤ 26 by omega)).add (bd_z.mono (show 25 ≤ 26 by omega)) (by omega)
  have bd_yz : Bd ((y + z)) 26 := (bd_y.mono (show 25 ≤ 25 by omega)).add (bd_z.mono (show 25 ≤ 25 by omega)) (by omega)
  have bd_xyz : Bd ((x + (y + z))) 27 := (bd_x.mono (show 25 ≤ 26 by omega)).add (bd_yz.mono (show 26 ≤ 26 by omega)) (by omega)
  have EQ3 := Lib.hid (show ((x + y) + z) = (x + (y + z)) from Int.add_assoc _ _ _)
  have bd_pz : Bd (((x * y) * z)) 75 := bd_p.mul bd_z
  have bd_myz : Bd ((y * z)) 50 := bd_y.mul bd_z
  have bd_mxyz : Bd ((x * (y * z))) 75 := bd_x.mul bd_myz
  have EQ4 := Lib.hid (show ((x * y) * z) = (x * (y * z)) from Int.mul_assoc _ _ _)
  clear bx_0 bx_1 by_0 by_1 bz_0 bz_1 b_s_0 b_s_1 b_p_0 b_p_1
  have S3 := Lib.hid S2.out.drew
  clear S2
  refine wp_region_held_drew (S := fun w' => (w'.cell? ⟨(w.heap.size), 0, none⟩ = some (.bool m0) ∧ w'.cell? ⟨(w.heap.size), 1, none⟩ = some (.slice a0 n0 c0)) ∧ (w'.cell? ⟨(w.heap.size + 1), 0, none⟩ = some (.bool m1) ∧ w'.cell? ⟨(w.heap.size + 1), 1, none⟩ = some (.slice a1 n1 c1)) ∧ (w'.cell? ⟨(w.heap.size + 2), 0, none⟩ = some (.bool m2) ∧ w'.cell? ⟨(w.heap.size + 2), 1, none⟩ = some (.slice a2 n2 c2)) ∧ (w'.cell? ⟨b_s, 0, none⟩ = some (.bool s_m) ∧ w'.cell? ⟨b_s, 1, none⟩ = some (.slice s_0 s_n s_c)) ∧ (w'.cell? ⟨b_p, 0, none⟩ = some (.bool p_m) ∧ w'.cell? ⟨b_p, 1, none⟩ = some (.slice p_0 p_n p_c))) (by kernel_rfl) (⟨S3.out.b.t.t.c, S3.out.b.t.t.t.c, S3.out.b.t.t.t.t.c, S3.out.b.c, S3.out.b.t.c⟩) (fun hH => ?_)
  refine anyH_world (fun w3 hW => ?_)
  rw [← hW] at S3 hH
  clear hW
  refine step_on 0 rfl (by kernel_rfl) (fun _ _ _ h => h) (by rfl) hH (by intro w hS; go_simp <;> with_reducible rfl) ?_
  try simp only [nrm]
  refine step_one 1 rfl (by kernel_rfl) (fun K hK => ?_)
  go_simp
  refine (wmay_can S3.out.n.can).mono ?_
  rintro e w4 ⟨rfl, hB⟩
  have S4 := Lib.hid (S3.out.step hB)
  clear S3 hB
  go_wp2_with fail
  refine hK.out _ _ ⟨S4.out.b.t.t.c, S4.out.b.t.t.t.c, S4.out.b.t.t.t.t.c, S4.out.b.c, S4.out.b.t.c⟩ (fun h2 => ?_)
  clear hK K hH
  have hH := h2
  clear h2
  try simp only [nrm]
  refine step_on 2 rfl (by kernel_rfl) (fun _ _ _ h => h) (by rfl) hH (by intro w hS; go_simp <;> with_reducible rfl) ?_
  try simp only [nrm]
  refine step_on 3 rfl (by kernel_rfl) (fun _ _ _ h => h) (by rfl) hH (by intro w hS; go_simp <;> with_reducible rfl) ?_
  try simp only [nrm]
  refine step_on 4 rfl (by kernel_rfl) (fun _ _ _ h => h) (by rfl) hH (by intro w hS; go_simp <;> with_reducible rfl) ?_
  try simp only [nrm]
  refine step_one 5 rfl (by kernel_rfl) (fun K hK => ?_)
  go_simp
  refine (wmay_can S4.out.n.t.can).mono ?_
  rintro e w5 ⟨rfl, hB⟩
  have S5 := Lib.hid (S4.out.step hB)
  clear S4 hB
  go_wp2_with fail
  refine hK.out _ _ ⟨S5.out.b.t.t.c, S5.out.b.t.t.t.c, S5.out.b.t.t.t.t.c, S5.out.b.c, S5.out.b.t.c⟩ (fun h2 => ?_)
  clear hK K hH
  have hH := h2
  clear h2
  try simp only [nrm]
  refine step_on 6 rfl (by kernel_rfl) (fun _ _ _ h => h) (by rfl) hH (by intro w hS; go_simp <;> with_reducible rfl) ?_
  try simp only [nrm]
  refine step_on 7 rfl (by kernel_rfl) (fun _ _ _ h => h) (by rfl) hH (by intro w hS; go_simp <;> with_reducible rfl) ?_
  try simp only [nrm]
  refine step_on 8 rfl (by kernel_rfl) (fun _ _ _ h => h) (by rfl) hH (by intro w hS; go_simp <;> with_reducible rfl) ?_
  try simp only [nrm]
  refine step_on 9 rfl (by kernel_rfl) (fun _ _ _ h => h) (by rfl) hH (by intro w hS; go_simp <;> with_reducible rfl) ?_
  try simp only [nrm]
  refine step_on 10 rfl (by kernel_rfl) (fun _ _ _ h => h) (by rfl) hH (by intro w hS; go_simp <;> with_reducible rfl) ?_
  try simp only [nrm]
  refine step_on 11 rfl (by kernel_rfl) (fun _ _ _ h => h) (by rfl) hH (by intro w hS; go_simp <;> with_reducible rfl) ?_
  try simp only [nrm]
  refine step_one 12 rfl (by kernel_rfl) (fun K hK => ?_)
  go_simp
  refine (wadd_any S5.out.n.t.t.t.num S5.out.n.t.t.num).mono ?_
  rintro e w6 ⟨yx_m, yx_0, yx_n, yx_c, rfl, hX, hB⟩
  have S6 := Lib.hid ((S5.out.step hB).can (hX.cx bd_yx (by omega)))
  clear S5 hX hB
  go_wp2_with fail
  refine hK.out _ _ ⟨S6.out.b.t.t.c, S6.out.b.t.t.t.c, S6.out.b.t.t.t.t.c, S6.out.b.c, S6.out.b.t.c⟩ (fun h2 => ?_)
  clear hK K hH
  have hH := h2
  clear h2
  try simp only [nrm]
  refine step_one 13 rfl (by kernel_rfl) (fun K hK => ?_)
  go_simp
  refine (zsame S6.out.n.t.can S6.out.n.can EQ1.out).mono ?_
  rintro e w7 ⟨rfl, hB⟩
  have S7 := Lib.hid (S6.out.step hB)
  clear S6 hB
  go_wp2_with fail
  refine hK.out _ _ ⟨S7.out.b.t.t.c, S7.out.b.t.t.t.c, S7.out.b.t.t.t.t.c, S7.out.b.c, S7.out.b.t.c⟩ (fun h2 => ?_)
  clear hK K hH
  have hH := h2
  clear h2
  try simp only [nrm]
  refine step_on 14 rfl (by kernel_rfl) (fun _ _ _ h => h) (by rfl) hH (by intro w hS; go_simp <;> with_reducible rfl) ?_
  try simp only [nrm]
  refine step_on 15 rfl (by kernel_rfl) (fun _ _ _ h => h) (by rfl) hH (by intro w hS; go_simp <;> with_reducible rfl) ?_
  try simp only [nrm]
  refine step_on 16 rfl (by kernel_rfl) (fun _ _ _ h => h) (by rfl) hH (by intro w hS; go_simp <;> with_reducible rfl) ?_
  try simp only [nrm]
  refine step_on 17 rfl (by kernel_rfl) (fun _ _ _ h => h) (by rfl) hH (by intro w hS; go_simp <;> with_reducible rfl) ?_
  try simp only [nrm]
  refine step_on 18 rfl (by kernel_rfl) (fun _ _ _ h => h) (by rfl) hH (by intro w hS; go_simp <;> with_reducible rfl) ?_
  try simp only [nrm]
  refine step_on 19 rfl (by kernel_rfl) (fun _ _ _ h => h) (by rfl) hH (by intro w hS; go_simp <;> with_reducible rfl) ?_
  try simp only [nrm]
  refine step_one 20 rfl (by kernel_rfl) (fun K hK => ?_)
  go_simp
  refine (wmul_any S7.out.n.t.t.t.t.num S7.out.n.t.t.t.num).mono ?_
  rintro e w8 ⟨pyx_m, pyx_0, pyx_n, pyx_c, rfl, hX, hB⟩
  have S8 := Lib.hid ((S7.out.step hB).can (hX.cx bd_pyx (by omega)))
  clear S7 hX hB
  go_wp2_with fail
  refine hK.out _ _ ⟨S8.out.b.t.t.c, S8.out.b.t.t.t.c, S8.out.b.t.t.t.t.c, S8.out.b.c, S8.out.b.t.c⟩ (fun h2 => ?_)
  clear hK K hH
  have hH := h2
  clear h2
  try simp only [nrm]
  refine step_one 21 rfl (by kernel_rfl) (fun K hK => ?_)
  go_simp
  refine (zsame S8.out.n.t.t.t.can S8.out.n.can EQ2.out).mono ?_
  rintro e w9 ⟨rfl, hB⟩
  have S9 := Lib.hid (S8.out.step hB)
  clear S8 hB
  go_wp2_with fail
  refine hK.out _ _ ⟨S9.out.b.t.t.c, S9.out.b.t.t.t.c, S9.out.b.t.t.t.t.c, S9.out.b.c, S9.out.b.t.c⟩ (fun h2 => ?_)
  clear hK K hH
  have hH := h2
  clear h2
  try simp only [nrm]
  refine step_on 22 rfl (by kernel_rfl) (fun _ _ _ h => h) (by rfl) hH (by intro w hS; go_simp <;> with_reducible rfl) ?_
  try simp only [nrm]
  refine step_on 23 rfl (by kernel_rfl) (fun _ _ _ h => h) (by rfl) hH (by intro w hS; go_simp <;> with_reducible rfl) ?_
  try simp only [nrm]
  refine step_on 24 rfl (by kernel_rfl) (fun _ _ _ h => h) (by rfl) hH (by intro w hS; go_simp <;> with_reducible rfl) ?_
  try simp only [nrm]
  refine step_on 25 rfl (by kernel_rfl) (fun _ _ _ h => h) (by rfl) hH (by intro w hS; go_simp <;> with_reducible rfl) ?_
  try simp only [nrm]
  refine step_on 26 rfl (by kernel_rfl) (fun _ _ _ h => h) (by rfl) hH (by intro w hS; go_simp <;> with_reducible rfl) ?_
  try simp only [nrm]
  refine step_on 28 rfl (by kernel_rfl) (fun _ _ _ h => h) (by rfl) hH (by intro w hS; go_simp <;> with_reducible rfl) ?_
  try simp only [nrm]
  refine step_on 29 rfl (by kernel_rfl) (fun _ _ _ h => h) (by rfl) hH (by intro w hS; go_simp <;> with_reducible rfl) ?_
  try simp only [nrm]
  refine step_on 30 rfl (by kernel_rfl) (fun _ _ _ h => h) (by rfl) hH (by intro w hS; go_simp <;> with_reducible rfl) ?_
  try simp only [nrm]
  refine step_one 27 rfl (by kernel_rfl) (fun K hK => ?_)
  go_simp
  refine (wadd_any S9.out.n.t.t.can.nx S9.out.n.t.t.t.t.t.t.num).mono ?_
  rintro e w10 ⟨sz_m, sz_0, sz_n, sz_c, rfl, hX, hB⟩
  have S10 := Lib.hid ((S9.out.step hB).can (hX.cx bd_sz (by omega)))
  clear S9 hX hB
  go_wp2_with fail
  refine hK.out _ _ ⟨S10.out.b.t.t.c, S10.out.b.t.t.t.c, S10.out.b.t.t.t.t.c, S10.out.b.c, S10.out.b.t.c⟩ (fun h2 => ?_)
  clear hK K hH
  have hH := h2
  clear h2
  try simp only [nrm]
  refine step_one 31 rfl (by kernel_rfl) (fun K hK => ?_)
  go_simp
  refine (wadd_any S10.out.n.t.t.t.t.t.t.num S10.out.n.t.t.t.t.t.t.t.num).mono ?_
  rintro e w11 ⟨yz_m, yz_0, yz_n, yz_c, rfl, hX, hB⟩
  have S11 := Lib.hid ((S10.out.step hB).can (hX.cx bd_yz (by omega)))
  clear S10 hX hB
  go_wp2_with fail
  refine hK.out _ _ ⟨S11.out.b.t.t.c, S11.out.b.t.t.t.c, S11.out.b.t.t.t.t.c, S11.out.b.c, S11.out.b.t.c⟩ (fun h2 => ?_)
  clear hK K hH
  have hH := h2
  clear h2
  try simp only [nrm]
  refine step_one 32 rfl (by kernel_rfl) (fun K hK => ?_)
  go_simp
  refine (wadd_any S11.out.n.t.t.t.t.t.t.num S11.out.n.can.nx).mono ?_
  rintro e w12 ⟨xyz_m, xyz_0, xyz_n, xyz_c, rfl, hX, hB⟩
  have S12 := Lib.hid ((S11.out.step hB).can (hX.cx bd_xyz (by omega)))
  clear S11 hX hB
  go_wp2_with fail
  refine hK.out _ _ ⟨S12.out.b.t.t.c, S12.out.b.t.t.t.c, S12.out.b.t.t.t.t.c, S12.out.b.c, S12.out.b.t.c⟩ (fun h2 => ?_)
  clear hK K hH
  have hH := h2
  clear h2
  try simp only [nrm]
  refine step_one 33 rfl (by kernel_rfl) (fun K hK => ?_)
  go_simp
  refine (zsame S12.out.n.t.t.can S12.out.n.can EQ3.out).mono ?_
  rintro e w13 ⟨rfl, hB⟩
  have S13 := Lib.hid (S12.out.step hB)
  clear S12 hB
  go_wp2_with fail
  refine hK.out _ _ ⟨S13.out.b.t.t.c, S13.out.b.t.t.t.c, S13.out.b.t.t.t.t.c, S13.out.b.c, S13.out.b.t.c⟩ (fun h2 => ?_)
  clear hK K hH
  have hH := h2
  clear h2
  try simp only [nrm]
  refine step_on 34 rfl (by kernel_rfl) (fun _ _ _ h => h) (by rfl) hH (by intro w hS; go_simp <;> with_reducible rfl) ?_
  try simp only [nrm]
  refine step_on 35 rfl (by kernel_rfl) (fun _ _ _ h => h) (by rfl) hH (by intro w hS; go_simp <;> with_reducible rfl) ?_
  try simp only [nrm]
  refine step_on 36 rfl (by kernel_rfl) (fun _ _ _ h => h) (by rfl) hH (by intro w hS; go_simp <;> with_reducible rfl) ?_
  try simp only [nrm]
  refine step_on 37 rfl (by kernel_rfl) (fun _ _ _ h => h) (by rfl) hH (by intro w hS; go_simp <;> with_reducible rfl) ?_
  try simp only [nrm]
  refine step_on 38 rfl (by kernel_rfl) (fun _ _ _ h => h) (by rfl) hH (by intro w hS; go_simp <;> with_reducible rfl) ?_
  try simp only [nrm]
  refine step_on 40 rfl (by kernel_rfl) (fun _ _ _ h => h) (by rfl) hH (by intro w hS; go_simp <;> with_reducible rfl) ?_
  try simp only [nrm]
  refine step_on 41 rfl (by kernel_rfl) (fun _ _ _ h => h) (by rfl) hH (by intro w hS; go_simp <;> with_reducible rfl) ?_
  try simp only [nrm]
  refine step_on 42 rfl (by kernel_rfl) (fun _ _ _ h => h) (by rfl) hH (by intro w hS; go_simp <;> with_reducible rfl) ?_
  try simp only [nrm]
  refine step_one 39 rfl (by kernel_rfl) (fun K hK => ?_)
  go_simp
  refine (wmul_any S13.out.n.t.t.t.t.t.t.can.nx S13.out.n.t.t.t.t.t.t.t.t.t.num).mono ?_
  rintro e w14 ⟨pz_m, pz_0, pz_n, pz_c, rfl, hX, hB⟩
  have S14 := Lib.hid ((S13.out.step hB).can (hX.cx bd_pz (by omega)))
  clear S13 hX hB
  go_wp2_with fail
  refine hK.out _ _ ⟨S14.out.b.t.t.c, S14.out.b.t.t.t.c, S14.out.b.t.t.t.t.c, S14.out.b.c, S14.out.b.t.c⟩ (fun h2 => ?_)
  clear hK K hH
  have hH := h2
  clear h2
  try simp only [nrm]
  refine step_one 43 rfl (by kernel_rfl) (fun K hK => ?_)
  go_simp
  refine (wmul_any S14.out.n.t.t.t.t.t.t.t.t.t.num S14.out.n.t.t.t.t.t.t.t.t.t.t.num).mono ?_
  rintro e w15 ⟨myz_m, myz_0, myz_n, myz_c, rfl, hX, hB⟩
  have S15 := Lib.hid ((S14.out.step hB).can (hX.cx bd_myz (by omega)))
  clear S14 hX hB
  go_wp2_with fail
  refine hK.out _ _ ⟨S15.out.b.t.t.c, S15.out.b.t.t.t.c, S15.out.b.t.t.t.t.c, S15.out.b.c, S15.out.b.t.c⟩ (fun h2 => ?_)
  clear hK K hH
  have hH := h2
  clear h2
  try simp only [nrm]
  refine step_one 44 rfl (by kernel_rfl) (fun K hK => ?_)
  go_simp
  refine (wmul_any S15.out.n.t.t.t.t.t.t.t.t.t.num S15.out.n.can.nx).mono ?_
  rintro e w16 ⟨mxyz_m, mxyz_0, mxyz_n, mxyz_c, rfl, hX, hB⟩
  have S16 := Lib.hid ((S15.out.step hB).can (hX.cx bd_mxyz (by omega)))
  clear S15 hX hB
  go_wp2_with fail
  refine hK.out _ _ ⟨S16.out.b.t.t.c, S16.out.b.t.t.t.c, S16.out.b.t.t.t.t.c, S16.out.b.c, S16.out.b.t.c⟩ (fun h2 => ?_)
  clear hK K hH
  have hH := h2
  clear h2
  try simp only [nrm]
  refine step_one 45 rfl (by kernel_rfl) (fun K hK => ?_)
  go_simp
  refine (zsame S16.out.n.t.t.can S16.out.n.can EQ4.out).mono ?_
  rintro e w17 ⟨rfl, hB⟩
  have S17 := Lib.hid (S16.out.step hB)
  clear S16 hB
  go_wp2_with fail
  refine hK.out _ _ ⟨S17.out.b.t.t.c, S17.out.b.t.t.t.c, S17.out.b.t.t.t.t.c, S17.out.b.c, S17.out.b.t.c⟩ (fun h2 => ?_)
  clear hK K hH
  have hH := h2
  clear h2
  try simp only [nrm]
  refine step_on 46 rfl (by kernel_rfl) (fun _ _ _ h => h) (by rfl) hH (by intro w hS; go_simp <;> with_reducible rfl) ?_
  try simp only [nrm]
  refine step_on 47 rfl (by kernel_rfl) (fun _ _ _ h => h) (by rfl) hH (by intro w hS; go_simp <;> with_reducible rfl) ?_
  try simp only [nrm]
  refine wpAnyH_done (by kernel_rfl) ?_ _
  clear hH
  obtain ⟨bx_0, bx_1⟩ := S17.out.b.t.t.c
  obtain ⟨by_0, by_1⟩ := S17.out.b.t.t.t.c
  obtain ⟨bz_0, bz_1⟩ := S17.out.b.t.t.t.t.c
  obtain ⟨b_s_0, b_s_1⟩ := S17.out.b.c
  obtain ⟨b_p_0, b_p_1⟩ := S17.out.b.t.c
  go_wp2_with fail
  obtain ⟨sx, hsx⟩ : ∃ sx, x.sign = sx := ⟨_, rfl⟩
  obtain ⟨sy, hsy⟩ : ∃ sy, y.sign = sy := ⟨_, rfl⟩
  obtain ⟨sp, hsp⟩ : ∃ sp, (x * y).sign = sp := ⟨_, rfl⟩
  obtain ⟨c, hc⟩ : ∃ c, cmpZ x y = c := ⟨_, rfl⟩
  obtain ⟨d, hd⟩ : ∃ d, cmpZ y x = d := ⟨_, rfl⟩
  have ew1 : IntKind.i64.wrap (sx * sy) = sp := by rw [← hsx, ← hsy, ← hsp]; exact sign_wrap x y
  have ew3 : IntKind.i64.wrap (-d) = c := by rw [← hc, ← hd]; exact cmp_wrap x y
  have HSX := Lib.hid hsx
  have HSY := Lib.hid hsy
  have HSP := Lib.hid hsp
  have HC := Lib.hid hc
  have HD := Lib.hid hd
  clear hsx hsy hsp hc hd
  have bd_yz2 : Bd ((y + z)) 26 := (bd_y.mono (show 25 ≤ 25 by omega)).add (bd_z.mono (show 25 ≤ 25 by omega)) (by omega)
  have bd_l1 : Bd ((x * (y + z))) 51 := bd_x.mul bd_yz2
  have bd_xz : Bd ((x * z)) 50 := bd_x.mul bd_z
  have bd_l2 : Bd (((x * y) + (x * z))) 51 := (bd_p.mono (show 50 ≤ 50 by omega)).add (bd_xz.mono (show 50 ≤ 50 by omega)) (by omega)
  have EQ5 := Lib.hid (show (x * (y + z)) = ((x * y) + (x * z)) from Int.mul_add _ _ _)
  have bd_d1 : Bd (((x + y) - y)) 27 := (bd_s.mono (show 26 ≤ 26 by omega)).sub (bd_y.mono (show 25 ≤ 26 by omega)) (by omega)
  have bd_xo : Bd ((x + (0 : Int))) 26 := (bd_x.mono (show 25 ≤ 25 by omega)).add (bd_o.mono (show 1 ≤ 25 by omega)) (by omega)
  have EQ6 := Lib.hid (show ((x + y) - y) = (x + (0 : Int)) from by omega)
  have EQ7 := Lib.hid (show ((x * y) : Int).sign = sp from HSP.out)
  have EQ8 := Lib.hid (show (x : Int).sign = sx from HSX.out)
  have EQ9 := Lib.hid (show (y : Int).sign = sy from HSY.out)
  have EQ10 := Lib.hid (show cmpZ x y = c from HC.out)
  have EQ11 := Lib.hid (show cmpZ y x = d from HD.out)
  clear bx_0 bx_1 by_0 by_1 bz_0 bz_1 b_s_0 b_s_1 b_p_0 b_p_1
  have S18 := Lib.hid S17.out.drew
  clear S17
  refine wp_region_held_drew (S := fun w' => (w'.cell? ⟨(w.heap.size), 0, none⟩ = some (.bool m0) ∧ w'.cell? ⟨(w.heap.size), 1, none⟩ = some (.slice a0 n0 c0)) ∧ (w'.cell? ⟨(w.heap.size + 1), 0, none⟩ = some (.bool m1) ∧ w'.cell? ⟨(w.heap.size + 1), 1, none⟩ = some (.slice a1 n1 c1)) ∧ (w'.cell? ⟨(w.heap.size + 2), 0, none⟩ = some (.bool m2) ∧ w'.cell? ⟨(w.heap.size + 2), 1, none⟩ = some (.slice a2 n2 c2)) ∧ (w'.cell? ⟨b_s, 0, none⟩ = some (.bool s_m) ∧ w'.cell? ⟨b_s, 1, none⟩ = some (.slice s_0 s_n s_c)) ∧ (w'.cell? ⟨b_p, 0, none⟩ = some (.bool p_m) ∧ w'.cell? ⟨b_p, 1, none⟩ = some (.slice p_0 p_n p_c))) (by kernel_rfl) (⟨S18.out.b.t.t.c, S18.out.b.t.t.t.c, S18.out.b.t.t.t.t.c, S18.out.b.c, S18.out.b.t.c⟩) (fun hH => ?_)
  refine anyH_world (fun w18 hW => ?_)
  rw [← hW] at S18 hH
  clear hW
  refine step_on 0 rfl (by kernel_rfl) (fun _ _ _ h => h) (by rfl) hH (by intro w hS; go_simp <;> with_reducible rfl) ?_
  try simp only [nrm]
  refine step_on 1 rfl (by kernel_rfl) (fun _ _ _ h => h) (by rfl) hH (by intro w hS; go_simp <;> with_reducible rfl) ?_
  try simp only [nrm]
  refine step_on 2 rfl (by kernel_rfl) (fun _ _ _ h => h) (by rfl) hH (by intro w hS; go_simp <;> with_reducible rfl) ?_
  try simp only [nrm]
  refine step_on 5 rfl (by kernel_rfl) (fun _ _ _ h => h) (by rfl) hH (by intro w hS; go_simp <;> with_reducible rfl) ?_
  try simp only [nrm]
  refine step_on 6 rfl (by kernel_rfl) (fun _ _ _ h => h) (by rfl) hH (by intro w hS; go_simp <;> with_reducible rfl) ?_
  try simp only [nrm]
  refine step_on 7 rfl (by kernel_rfl) (fun _ _ _ h => h) (by rfl) hH (by intro w hS; go_simp <;> with_reducible rfl) ?_
  try simp only [nrm]
  refine step_one 3 rfl (by kernel_rfl) (fun K hK => ?_)
  go_simp
  refine (wadd_any S18.out.n.t.t.t.t.t.t.t.t.t.t.t.num S18.out.n.t.t.t.t.t.t.t.t.t.t.t.t.num).mono ?_
  rintro e w19 ⟨yz2_m, yz2_0, yz2_n, yz2_c, rfl, hX, hB⟩
  have S19 := Lib.hid ((S18.out.step hB).can (hX.cx bd_yz2 (by omega)))
  clear S18 hX hB
  go_wp2_with fail
  refine hK.out _ _ ⟨S19.out.b.t.t.c, S19.out.b.t.t.t.c, S19.out.b.t.t.t.t.c, S19.out.b.c, S19.out.b.t.c⟩ (fun h2 => ?_)
  clear hK K hH
  have hH := h2
  clear h2
  try simp only [nrm]
  refine step_one 4 rfl (by kernel_rfl) (fun K hK => ?_)
  go_simp
  refine (wmul_any S19.out.n.t.t.t.t.t.t.t.t.t.t.t.num S19.out.n.can.nx).mono ?_
  rintro e w20 ⟨l1_m, l1_0, l1_n, l1_c, rfl, hX, hB⟩
  have S20 := Lib.hid ((S19.out.step hB).can (hX.cx bd_l1 (by omega)))
  clear S19 hX hB
  go_wp2_with fail
  refine hK.out _ _ ⟨S20.out.b.t.t.c, S20.out.b.t.t.t.c, S20.out.b.t.t.t.t.c, S20.out.b.c, S20.out.b.t.c⟩ (fun h2 => ?_)
  clear hK K hH
  have hH := h2
  clear h2
  try simp only [nrm]
  refine step_one 8 rfl (by kernel_rfl) (fun K hK => ?_)
  go_simp
  refine (wmul_any S20.out.n.t.t.t.t.t.t.t.t.t.t.t.t.num S20.out.n.t.t.t.t.t.t.t.t.t.t.t.t.t.t.num).mono ?_
  rintro e w21 ⟨xz_m, xz_0, xz_n, xz_c, rfl, hX, hB⟩
  have S21 := Lib.hid ((S20.out.step hB).can (hX.cx bd_xz (by omega)))
  clear S20 hX hB
  go_wp2_with fail
  refine hK.out _ _ ⟨S21.out.b.t.t.c, S21.out.b.t.t.t.c, S21.out.b.t.t.t.t.c, S21.out.b.c, S21.out.b.t.c⟩ (fun h2 => ?_)
  clear hK K hH
  have hH := h2
  clear h2
  try simp only [nrm]
  refine step_one 9 rfl (by kernel_rfl) (fun K hK => ?_)
  go_simp
  refine (wadd_any S21.out.n.t.t.t.t.t.t.t.t.t.t.t.t.can.nx S21.out.n.can.nx).mono ?_
  rintro e w22 ⟨l2_m, l2_0, l2_n, l2_c, rfl, hX, hB⟩
  have S22 := Lib.hid ((S21.out.step hB).can (hX.cx bd_l2 (by omega)))
  clear S21 hX hB
  go_wp2_with fail
  refine hK.out _ _ ⟨S22.out.b.t.t.c, S22.out.b.t.t.t.c, S22.out.b.t.t.t.t.c, S22.out.b.c, S22.out.b.t.c⟩ (fun h2 => ?_)
  clear hK K hH
  have hH := h2
  clear h2
  try simp only [nrm]
  refine step_one 10 rfl (by kernel_rfl) (fun K hK => ?_)
  go_simp
  refine (zsame S22.out.n.t.t.can S22.out.n.can EQ5.out).mono ?_
  rintro e w23 ⟨rfl, hB⟩
  have S23 := Lib.hid (S22.out.step hB)
  clear S22 hB
  go_wp2_with fail
  refine hK.out _ _ ⟨S23.out.b.t.t.c, S23.out.b.t.t.t.c, S23.out.b.t.t.t.t.c, S23.out.b.c, S23.out.b.t.c⟩ (fun h2 => ?_)
  clear hK K hH
  have hH := h2
  clear h2
  try simp only [nrm]
  refine step_on 11 rfl (by kernel_rfl) (fun _ _ _ h => h) (by rfl) hH (by intro w hS; go_simp <;> with_reducible rfl) ?_
  try simp only [nrm]
  refine step_on 12 rfl (by kernel_rfl) (fun _ _ _ h => h) (by rfl) hH (by intro w hS; go_simp <;> with_reducible rfl) ?_
  try simp only [nrm]
  refine step_on 13 rfl (by kernel_rfl) (fun _ _ _ h => h) (by rfl) hH (by intro w hS; go_simp <;> with_reducible rfl) ?_
  try simp only [nrm]
  refine step_on 14 rfl (by kernel_rfl) (fun _ _ _ h => h) (by rfl) hH (by intro w hS; go_simp <;> with_reducible rfl) ?_
  try simp only [nrm]
  refine step_on 16 rfl (by kernel_rfl) (fun _ _ _ h => h) (by rfl) hH (by intro w hS; go_simp <;> with_reducible rfl) ?_
  try simp only [nrm]
  refine step_on 17 rfl (by kernel_rfl) (fun _ _ _ h => h) (by rfl) hH (by intro w hS; go_simp <;> with_reducible rfl) ?_
  try simp only [nrm]
  refine step_one 15 rfl (by kernel_rfl) (fun K hK => ?_)
  go_simp
  refine (wsub_any S23.out.n.t.t.t.t.t.t.t.t.t.t.t.t.can.nx S23.out.n.t.t.t.t.t.t.t.t.t.t.t.t.t.t.t.num).mono ?_
  rintro e w24 ⟨d1_m, d1_0, d1_n, d1_c, rfl, hX, hB⟩
  have S24 := Lib.hid ((S23.out.step hB).can (hX.cx bd_d1 (by omega)))
  clear S23 hX hB
  go_wp2_with fail
  refine hK.out _ _ ⟨S24.out.b.t.t.c, S24.out.b.t.t.t.c, S24.out.b.t.t.t.t.c, S24.out.b.c, S24.out.b.t.c⟩ (fun h2 => ?_)
  clear hK K hH
  have hH := h2
  clear h2
  try simp only [nrm]
  refine step_one 18 rfl (by kernel_rfl) (fun K hK => ?_)
  go_simp
  refine (wadd_any S24.out.n.t.t.t.t.t.t.t.t.t.t.t.t.t.t.t.num S24.out.n.t.t.t.t.t.t.t.t.t.t.t.t.t.t.t.t.t.t.can.nx).mono ?_
  rintro e w25 ⟨xo_m, xo_0, xo_n, xo_c, rfl, hX, hB⟩
  have S25 := Lib.hid ((S24.out.step hB).can (hX.cx bd_xo (by omega)))
  clear S24 hX hB
  go_wp2_with fail
  refine hK.out _ _ ⟨S25.out.b.t.t.c, S25.out.b.t.t.t.c, S25.out.b.t.t.t.t.c, S25.out.b.c, S25.out.b.t.c⟩ (fun h2 => ?_)
  clear hK K hH
  have hH := h2
  clear h2
  try simp only [nrm]
  refine step_one 19 rfl (by kernel_rfl) (fun K hK => ?_)
  go_simp
  refine (zsame S25.out.n.t.can S25.out.n.can EQ6.out).mono ?_
  rintro e w26 ⟨rfl, hB⟩
  have S26 := Lib.hid (S25.out.step hB)
  clear S25 hB
  go_wp2_with fail
  refine hK.out _ _ ⟨S26.out.b.t.t.c, S26.out.b.t.t.t.c, S26.out.b.t.t.t.t.c, S26.out.b.c, S26.out.b.t.c⟩ (fun h2 => ?_)
  clear hK K hH
  have hH := h2
  clear h2
  try simp only [nrm]
  refine step_on 20 rfl (by kernel_rfl) (fun _ _ _ h => h) (by rfl) hH (by intro w hS; go_simp <;> with_reducible rfl) ?_
  try simp only [nrm]
  refine step_on 21 rfl (by kernel_rfl) (fun _ _ _ h => h) (by rfl) hH (by intro w hS; go_simp <;> with_reducible rfl) ?_
  try simp only [nrm]
  refine step_on 22 rfl (by kernel_rfl) (fun _ _ _ h => h) (by rfl) hH (by intro w hS; go_simp <;> with_reducible rfl) ?_
  try simp only [nrm]
  refine step_on 23 rfl (by kernel_rfl) (fun _ _ _ h => h) (by rfl) hH (by intro w hS; go_simp <;> with_reducible rfl) ?_
  try simp only [nrm]
  refine step_on 25 rfl (by kernel_rfl) (fun _ _ _ h => h) (by rfl) hH (by intro w hS; go_simp <;> with_reducible rfl) ?_
  try simp only [nrm]
  refine step_on 27 rfl (by kernel_rfl) (fun _ _ _ h => h) (by rfl) hH (by intro w hS; go_simp <;> with_reducible rfl) ?_
  try simp only [nrm]
  refine step_one 24 rfl (by kernel_rfl) (fun K hK => ?_)
  go_simp
  refine (wsign_is (sp) S26.out.n.t.t.t.t.t.t.t.t.t.t.t.t.t.t.t.can.nx EQ7.out).mono ?_
  rintro e w27 ⟨rfl, hB⟩
  have S27 := Lib.hid (S26.out.step hB)
  clear S26 hB
  go_wp2_with fail
  refine hK.out _ _ ⟨S27.out.b.t.t.c, S27.out.b.t.t.t.c, S27.out.b.t.t.t.t.c, S27.out.b.c, S27.out.b.t.c⟩ (fun h2 => ?_)
  clear hK K hH
  have hH := h2
  clear h2
  try simp only [nrm]
  refine step_one 26 rfl (by kernel_rfl) (fun K hK => ?_)
  go_simp
  refine (wsign_is (sx) S27.out.n.t.t.t.t.t.t.t.t.t.t.t.t.t.t.t.t.num EQ8.out).mono ?_
  rintro e w28 ⟨rfl, hB⟩
  have S28 := Lib.hid (S27.out.step hB)
  clear S27 hB
  go_wp2_with fail
  refine hK.out _ _ ⟨S28.out.b.t.t.c, S28.out.b.t.t.t.c, S28.out.b.t.t.t.t.c, S28.out.b.c, S28.out.b.t.c⟩ (fun h2 => ?_)
  clear hK K hH
  have hH := h2
  clear h2
  try simp only [nrm]
  refine step_one 28 rfl (by kernel_rfl) (fun K hK => ?_)
  go_simp
  refine (wsign_is (sy) S28.out.n.t.t.t.t.t.t.t.t.t.t.t.t.t.t.t.t.t.num EQ9.out).mono ?_
  rintro e w29 ⟨rfl, hB⟩
  have S29 := Lib.hid (S28.out.step hB)
  clear S28 hB
  go_wp2_with fail
  refine hK.out _ _ ⟨S29.out.b.t.t.c, S29.out.b.t.t.t.c, S29.out.b.t.t.t.t.c, S29.out.b.c, S29.out.b.t.c⟩ (fun h2 => ?_)
  clear hK K hH
  have hH := h2
  clear h2
  try simp only [nrm]
  refine step_on 29 rfl (by kernel_rfl) (fun _ _ _ h => h) (by rfl) hH (by intro w hS; go_simp <;> with_reducible rfl) ?_
  try simp only [nrm]
  refine step_on 30 rfl (by kernel_rfl) (fun _ _ _ h => h) (by rfl) hH (by intro w hS; go_simp <;> with_reducible rfl) ?_
  try simp only [nrm]
  refine step_on 31 rfl (by kernel_rfl) (fun _ _ _ h => h) (by rfl) hH (by intro w hS; go_simp <;> with_reducible rfl) ?_
  try simp only [nrm]
  refine step_on 32 rfl (by kernel_rfl) (fun _ _ _ h => h) (by rfl) hH (by intro w hS; go_simp <;> with_reducible rfl) ?_
  try simp only [nrm]
  refine step_on 33 rfl (by kernel_rfl) (fun _ _ _ h => h) (by rfl) hH (by intro w hS; go_simp <;> with_reducible rfl) ?_
  try simp only [nrm]
  refine step_on 34 rfl (by kernel_rfl) (fun _ _ _ h => h) (by rfl) hH (by intro w hS; go_simp <;> with_reducible rfl) ?_
  try simp only [nrm]
  refine step_on 36 rfl (by kernel_rfl) (fun _ _ _ h => h) (by rfl) hH (by intro w hS; go_simp <;> with_reducible rfl) ?_
  try simp only [nrm]
  refine step_on 37 rfl (by kernel_rfl) (fun _ _ _ h => h) (by rfl) hH (by intro w hS; go_simp <;> with_reducible rfl) ?_
  try simp only [nrm]
  refine step_one 35 rfl (by kernel_rfl) (fun K hK => ?_)
  go_simp
  refine (wcmp_is (c) S29.out.n.t.t.t.t.t.t.t.t.t.t.t.t.t.t.t.t.num S29.out.n.t.t.t.t.t.t.t.t.t.t.t.t.t.t.t.t.t.num EQ10.out).mono ?_
  rintro e w30 ⟨rfl, hB⟩
  have S30 := Lib.hid (S29.out.step hB)
  clear S29 hB
  go_wp2_with fail
  refine hK.out _ _ ⟨S30.out.b.t.t.c, S30.out.b.t.t.t.c, S30.out.b.t.t.t.t.c, S30.out.b.c, S30.out.b.t.c⟩ (fun h2 => ?_)
  clear hK K hH
  have hH := h2
  clear h2
  try simp only [nrm]
  refine step_one 38 rfl (by kernel_rfl) (fun K hK => ?_)
  go_simp
  refine (wcmp_is (d) S30.out.n.t.t.t.t.t.t.t.t.t.t.t.t.t.t.t.t.t.num S30.out.n.t.t.t.t.t.t.t.t.t.t.t.t.t.t.t.t.num EQ11.out).mono ?_
  rintro e w31 ⟨rfl, hB⟩
  have S31 := Lib.hid (S30.out.step hB)
  clear S30 hB
  go_wp2_with fail
  refine hK.out _ _ ⟨S31.out.b.t.t.c, S31.out.b.t.t.t.c, S31.out.b.t.t.t.t.c, S31.out.b.c, S31.out.b.t.c⟩ (fun h2 => ?_)
  clear hK K hH
  have hH := h2
  clear h2
  try simp only [nrm]
  refine step_on 39 rfl (by kernel_rfl) (fun _ _ _ h => h) (by rfl) hH (by intro w hS; go_simp <;> with_reducible rfl) ?_
  try simp only [nrm]
  refine step_on 40 rfl (by kernel_rfl) (fun _ _ _ h => h) (by rfl) hH (by intro w hS; go_simp <;> with_reducible rfl) ?_
  try simp only [nrm]
  refine step_on 41 rfl (by kernel_rfl) (fun _ _ _ h => h) (by rfl) hH (by intro w hS; go_simp <;> with_reducible rfl) ?_
  try simp only [nrm]
  refine wpAnyH_done (by kernel_rfl) ?_ _
  clear hH
  obtain ⟨bx_0, bx_1⟩ := S31.out.b.t.t.c
  obtain ⟨by_0, by_1⟩ := S31.out.b.t.t.t.c
  obtain ⟨bz_0, bz_1⟩ := S31.out.b.t.t.t.t.c
  obtain ⟨b_s_0, b_s_1⟩ := S31.out.b.c
  obtain ⟨b_p_0, b_p_1⟩ := S31.out.b.t.c
  go_wp2_with fail
  clear ew1 ew3
  have bd_nx : Bd ((-x)) 25 := bd_x.neg
  have bd_nnx : Bd ((-(-x))) 25 := bd_nx.neg
  have bd_xo2 : Bd ((x + (0 : Int))) 26 := (bd_x.mono (show 25 ≤ 25 by omega)).add (bd_o.mono (show 1 ≤ 25 by omega)) (by omega)
  have EQ12 := Lib.hid (show (-(-x)) = (x + (0 : Int)) from by omega)
  have bd_dd : Bd ((x - x)) 26 := (bd_x.mono (show 25 ≤ 25 by omega)).sub (bd_x.mono (show 25 ≤ 25 by omega)) (by omega)
  have EQ13 := Lib.hid (show ((x - x) : Int).sign = 0 from by rw [Int.sub_self]; rfl)
  clear bx_0 bx_1 by_0 by_1 bz_0 bz_1 b_s_0 b_s_1 b_p_0 b_p_1
  have S32 := Lib.hid S31.out.drew
  clear S31
  refine wp_region_held_drew (S := fun w' => (w'.cell? ⟨(w.heap.size), 0, none⟩ = some (.bool m0) ∧ w'.cell? ⟨(w.heap.size), 1, none⟩ = some (.slice a0 n0 c0))) (by kernel_rfl) (S32.out.b.t.t.c) (fun hH => ?_)
  refine anyH_world (fun w32 hW => ?_)
  rw [← hW] at S32 hH
  clear hW
  refine step_on 0 rfl (by kernel_rfl) (fun _ _ _ h => h) (by rfl) hH (by intro w hS; go_simp <;> with_reducible rfl) ?_
  try simp only [nrm]
  refine step_on 3 rfl (by kernel_rfl) (fun _ _ _ h => h) (by rfl) hH (by intro w hS; go_simp <;> with_reducible rfl) ?_
  try simp only [nrm]
  refine step_on 4 rfl (by kernel_rfl) (fun _ _ _ h => h) (by rfl) hH (by intro w hS; go_simp <;> with_reducible rfl) ?_
  try simp only [nrm]
  refine step_one 1 rfl (by kernel_rfl) (fun K hK => ?_)
  go_simp
  refine (wneg_any S32.out.n.t.t.t.t.t.t.t.t.t.t.t.t.t.t.t.t.num).mono ?_
  rintro e w33 ⟨nx_m, nx_0, nx_n, nx_c, rfl, hX, hB⟩
  have S33 := Lib.hid ((S32.out.step hB).can (hX.cx bd_nx (by omega)))
  clear S32 hX hB
  go_wp2_with fail
  refine hK.out _ _ (S33.out.b.t.t.c) (fun h2 => ?_)
  clear hK K hH
  have hH := h2
  clear h2
  try simp only [nrm]
  refine step_one 2 rfl (by kernel_rfl) (fun K hK => ?_)
  go_simp
  refine (wneg_any S33.out.n.can.nx).mono ?_
  rintro e w34 ⟨nnx_m, nnx_0, nnx_n, nnx_c, rfl, hX, hB⟩
  have S34 := Lib.hid ((S33.out.step hB).can (hX.cx bd_nnx (by omega)))
  clear S33 hX hB
  go_wp2_with fail
  refine hK.out _ _ (S34.out.b.t.t.c) (fun h2 => ?_)
  clear hK K hH
  have hH := h2
  clear h2
  try simp only [nrm]
  refine step_one 5 rfl (by kernel_rfl) (fun K hK => ?_)
  go_simp
  refine (wadd_any S34.out.n.t.t.t.t.t.t.t.t.t.t.t.t.t.t.t.t.t.t.num S34.out.n.t.t.t.t.t.t.t.t.t.t.t.t.t.t.t.t.t.t.t.t.t.can.nx).mono ?_
  rintro e w35 ⟨xo2_m, xo2_0, xo2_n, xo2_c, rfl, hX, hB⟩
  have S35 := Lib.hid ((S34.out.step hB).can (hX.cx bd_xo2 (by omega)))
  clear S34 hX hB
  go_wp2_with fail
  refine hK.out _ _ (S35.out.b.t.t.c) (fun h2 => ?_)
  clear hK K hH
  have hH := h2
  clear h2
  try simp only [nrm]
  refine step_one 6 rfl (by kernel_rfl) (fun K hK => ?_)
  go_simp
  refine (zsame S35.out.n.t.can S35.out.n.can EQ12.out).mono ?_
  rintro e w36 ⟨rfl, hB⟩
  have S36 := Lib.hid (S35.out.step hB)
  clear S35 hB
  go_wp2_with fail
  refine hK.out _ _ (S36.out.b.t.t.c) (fun h2 => ?_)
  clear hK K hH
  have hH := h2
  clear h2
  try simp only [nrm]
  refine step_on 7 rfl (by kernel_rfl) (fun _ _ _ h => h) (by rfl) hH (by intro w hS; go_simp <;> with_reducible rfl) ?_
  try simp only [nrm]
  refine step_on 8 rfl (by kernel_rfl) (fun _ _ _ h => h) (by rfl) hH (by intro w hS; go_simp <;> with_reducible rfl) ?_
  try simp only [nrm]
  refine step_on 9 rfl (by kernel_rfl) (fun _ _ _ h => h) (by rfl) hH (by intro w hS; go_simp <;> with_reducible rfl) ?_
  try simp only [nrm]
  refine step_one 10 rfl (by kernel_rfl) (fun K hK => ?_)
  go_simp
  refine (wsub_any S36.out.n.t.t.t.t.t.t.t.t.t.t.t.t.t.t.t.t.t.t.t.num S36.out.n.t.t.t.t.t.t.t.t.t.t.t.t.t.t.t.t.t.t.t.num).mono ?_
  rintro e w37 ⟨dd_m, dd_0, dd_n, dd_c, rfl, hX, hB⟩
  have S37 := Lib.hid ((S36.out.step hB).can (hX.cx bd_dd (by omega)))
  clear S36 hX hB
  go_wp2_with fail
  refine hK.out _ _ (S37.out.b.t.t.c) (fun h2 => ?_)
  clear hK K hH
  have hH := h2
  clear h2
  try simp only [nrm]
  refine step_one 11 rfl (by kernel_rfl) (fun K hK => ?_)
  go_simp
  refine (wsign_is (0) S37.out.n.can.nx EQ13.out).mono ?_
  rintro e w38 ⟨rfl, hB⟩
  have S38 := Lib.hid (S37.out.step hB)
  clear S37 hB
  go_wp2_with fail
  refine hK.out _ _ (S38.out.b.t.t.c) (fun h2 => ?_)
  clear hK K hH
  have hH := h2
  clear h2
  try simp only [nrm]
  refine step_on 12 rfl (by kernel_rfl) (fun _ _ _ h => h) (by rfl) hH (by intro w hS; go_simp <;> with_reducible rfl) ?_
  try simp only [nrm]
  refine step_on 13 rfl (by kernel_rfl) (fun _ _ _ h => h) (by rfl) hH (by intro w hS; go_simp <;> with_reducible rfl) ?_
  try simp only [nrm]
  refine step_on 14 rfl (by kernel_rfl) (fun _ _ _ h => h) (by rfl) hH (by intro w hS; go_simp <;> with_reducible rfl) ?_
  try simp only [nrm]
  refine step_one 15 rfl (by kernel_rfl) (fun K hK => ?_)
  go_simp
  refine (known4_any _).mono ?_
  rintro e w39 ⟨rfl, hB⟩
  have S39 := Lib.hid (S38.out.step hB)
  clear S38 hB
  go_wp2_with fail
  refine hK.out _ _ (S39.out.b.t.t.c) (fun h2 => ?_)
  clear hK K hH
  have hH := h2
  clear h2
  try simp only [nrm]
  refine step_on 16 rfl (by kernel_rfl) (fun _ _ _ h => h) (by rfl) hH (by intro w hS; go_simp <;> with_reducible rfl) ?_
  try simp only [nrm]
  refine step_on 17 rfl (by kernel_rfl) (fun _ _ _ h => h) (by rfl) hH (by intro w hS; go_simp <;> with_reducible rfl) ?_
  try simp only [nrm]
  refine wpAnyH_done (by kernel_rfl) ?_ _
  clear hH
  obtain ⟨bx_0, bx_1⟩ := S39.out.b.t.t.c
  obtain ⟨by_0, by_1⟩ := S39.out.b.t.t.t.c
  obtain ⟨bz_0, bz_1⟩ := S39.out.b.t.t.t.t.c
  obtain ⟨b_s_0, b_s_1⟩ := S39.out.b.c
  obtain ⟨b_p_0, b_p_1⟩ := S39.out.b.t.c
  go_wp2_with fail
  go_ret
  exact ⟨rfl, S39.out.h⟩

set_option maxHeartbeats 4000000 in
theorem wholeLaws_long0  {m0 : Bool} {a0 : Option Addr} {n0 c0 : Nat} {m1 : Bool} {a1 : Option Addr} {n1 c1 : Nat} {m2 : Bool} {a2 : Option Addr} {n2 c2 : Nat} {w : World} (l0 : 25 < n0) :
    Calls Try.prog 5 #[.agg #[.bool m0, .slice a0 n0 c0], .agg #[.bool m1, .slice a1 n1 c1], .agg #[.bool m2, .slice a2 n2 c2]] w (RetB (.bool true) w) := by
  go_enter Try.func5, Try.ntmps5
  go_upto_region 1 with (fail)
  refine wp_world (fun W hW => ?_)
  have HB0 : Hid (Below w.heap.size w W) := by rw [hW]; exact step_alloc (step_alloc (below_alloc _ _))
  have S0 : Hid (St w W _ _) := Lib.hid (St.mk (Live.add_box (show Box W (w.heap.size) m0 a0 n0 c0 from by rw [hW]; exact ((Box.new _ _ _ _ _ _ _ (by simp)).below (below_alloc _ _)).below (below_alloc _ _)) (Live.add_box (show Box W (w.heap.size + 1) m1 a1 n1 c1 from by rw [hW]; exact (Box.new _ _ _ _ _ _ _ (by simp)).below (below_alloc _ _)) (Live.add_box (show Box W (w.heap.size + 2) m2 a2 n2 c2 from by rw [hW]; exact Box.new _ _ _ _ _ _ _ (by simp)) (Live.nil W)))) (Live.nil W) HB0.out)
  clear hW HB0
  obtain ⟨bx_0, bx_1⟩ := S0.out.b.c
  obtain ⟨by_0, by_1⟩ := S0.out.b.t.c
  obtain ⟨bz_0, bz_1⟩ := S0.out.b.t.t.c
  go_wp2_with fail
  refine (great3_yes0 _ _ _ _ _ _ _ _ _ _ _ _ W l0).mono ?_
  rintro e w1 ⟨rfl, hB⟩
  have HB1 := Lib.hid (Below.steps S0.out.h (step_alloc hB))
  clear bx_0 bx_1 by_0 by_1 bz_0 bz_1
  clear hB S0
  go_wp2_with fail
  refine (known4_any _).mono ?_
  rintro e w2 ⟨rfl, hB⟩
  go_wp2_with fail
  go_ret
  exact ⟨rfl, Below.steps HB1.out hB⟩

set_option maxHeartbeats 4000000 in
theorem wholeLaws_long1  {m0 : Bool} {a0 : Option Addr} {n0 c0 : Nat} {m1 : Bool} {a1 : Option Addr} {n1 c1 : Nat} {m2 : Bool} {a2 : Option Addr} {n2 c2 : Nat} {w : World} (l0 : n0 ≤ 25) (l1 : 25 < n1) :
    Calls Try.prog 5 #[.agg #[.bool m0, .slice a0 n0 c0], .agg #[.bool m1, .slice a1 n1 c1], .agg #[.bool m2, .slice a2 n2 c2]] w (RetB (.bool true) w) := by
  go_enter Try.func5, Try.ntmps5
  go_upto_region 1 with (fail)
  refine wp_world (fun W hW => ?_)
  have HB0 : Hid (Below w.heap.size w W) := by rw [hW]; exact step_alloc (step_alloc (below_alloc _ _))
  have S0 : Hid (St w W _ _) := Lib.hid (St.mk (Live.add_box (show Box W (w.heap.size) m0 a0 n0 c0 from by rw [hW]; exact ((Box.new _ _ _ _ _ _ _ (by simp)).below (below_alloc _ _)).below (below_alloc _ _)) (Live.add_box (show Box W (w.heap.size + 1) m1 a1 n1 c1 from by rw [hW]; exact (Box.new _ _ _ _ _ _ _ (by simp)).below (below_alloc _ _)) (Live.add_box (show Box W (w.heap.size + 2) m2 a2 n2 c2 from by rw [hW]; exact Box.new _ _ _ _ _ _ _ (by simp)) (Live.nil W)))) (Live.nil W) HB0.out)
  clear hW HB0
  obtain ⟨bx_0, bx_1⟩ := S0.out.b.c
  obtain ⟨by_0, by_1⟩ := S0.out.b.t.c
  obtain ⟨bz_0, bz_1⟩ := S0.out.b.t.t.c
  go_wp2_with fail
  refine (great3_yes1 _ _ _ _ _ _ _ _ _ _ _ _ W l0 l1).mono ?_
  rintro e w1 ⟨rfl, hB⟩
  have HB1 := Lib.hid (Below.steps S0.out.h (step_alloc hB))
  clear bx_0 bx_1 by_0 by_1 bz_0 bz_1
  clear hB S0
  go_wp2_with fail
  refine (known4_any _).mono ?_
  rintro e w2 ⟨rfl, hB⟩
  go_wp2_with fail
  go_ret
  exact ⟨rfl, Below.steps HB1.out hB⟩

set_option maxHeartbeats 4000000 in
theorem wholeLaws_long2  {m0 : Bool} {a0 : Option Addr} {n0 c0 : Nat} {m1 : Bool} {a1 : Option Addr} {n1 c1 : Nat} {m2 : Bool} {a2 : Option Addr} {n2 c2 : Nat} {w : World} (l0 : n0 ≤ 25) (l1 : n1 ≤ 25) (l2 : 25 < n2) :
    Calls Try.prog 5 #[.agg #[.bool m0, .slice a0 n0 c0], .agg #[.bool m1, .slice a1 n1 c1], .agg #[.bool m2, .slice a2 n2 c2]] w (RetB (.bool true) w) := by
  go_enter Try.func5, Try.ntmps5
  go_upto_region 1 with (fail)
  refine wp_world (fun W hW => ?_)
  have HB0 : Hid (Below w.heap.size w W) := by rw [hW]; exact step_alloc (step_alloc (below_alloc _ _))
  have S0 : Hid (St w W _ _) := Lib.hid (St.mk (Live.add_box (show Box W (w.heap.size) m0 a0 n0 c0 from by rw [hW]; exact ((Box.new _ _ _ _ _ _ _ (by simp)).below (below_alloc _ _)).below (below_alloc _ _)) (Live.add_box (show Box W (w.heap.size + 1) m1 a1 n1 c1 from by rw [hW]; exact (Box.new _ _ _ _ _ _ _ (by simp)).below (below_alloc _ _)) (Live.add_box (show Box W (w.heap.size + 2) m2 a2 n2 c2 from by rw [hW]; exact Box.new _ _ _ _ _ _ _ (by simp)) (Live.nil W)))) (Live.nil W) HB0.out)
  clear hW HB0
  obtain ⟨bx_0, bx_1⟩ := S0.out.b.c
  obtain ⟨by_0, by_1⟩ := S0.out.b.t.c
  obtain ⟨bz_0, bz_1⟩ := S0.out.b.t.t.c
  go_wp2_with fail
  refine (great3_yes2 _ _ _ _ _ _ _ _ _ _ _ _ W l0 l1 l2).mono ?_
  rintro e w1 ⟨rfl, hB⟩
  have HB1 := Lib.hid (Below.steps S0.out.h (step_alloc hB))
  clear bx_0 bx_1 by_0 by_1 bz_0 bz_1
  clear hB S0
  go_wp2_with fail
  refine (known4_any _).mono ?_
  rintro e w2 ⟨rfl, hB⟩
  go_wp2_with fail
  go_ret
  exact ⟨rfl, Below.steps HB1.out hB⟩

theorem wholeLaws_any  {m0 : Bool} {a0 : Option Addr} {n0 c0 : Nat} {m1 : Bool} {a1 : Option Addr} {n1 c1 : Nat} {m2 : Bool} {a2 : Option Addr} {n2 c2 : Nat} {xs0 xs1 xs2 : List Nat} {w : World} (s0 : Sl w a0 n0 c0 xs0) (s1 : Sl w a1 n1 c1 xs1) (s2 : Sl w a2 n2 c2 xs2) :
    Calls Try.prog 5 #[.agg #[.bool m0, .slice a0 n0 c0], .agg #[.bool m1, .slice a1 n1 c1], .agg #[.bool m2, .slice a2 n2 c2]] w (RetB (.bool true) w) := by
  by_cases l0 : 25 < n0
  · exact wholeLaws_long0 l0
  by_cases l1 : 25 < n1
  · exact wholeLaws_long1 (by omega) l1
  by_cases l2 : 25 < n2
  · exact wholeLaws_long2 (by omega) (by omega) l2
  exact wholeLaws_short ⟨⟨xs0, s0, rfl⟩, by omega⟩ ⟨⟨xs1, s1, rfl⟩, by omega⟩ ⟨⟨xs2, s2, rfl⟩, by omega⟩ (by omega) (by omega) (by omega)

end Go.Proofs.Ytponiigpmjnffaa

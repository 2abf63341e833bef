/-
  A walk of the law WholeRing.
-/
import Derived.Test.YtponiigpmjnffaaWSt
import Derived.Test.YtponiigpmjnffaaWKnown
import Derived.Test.YtponiigpmjnffaaWLaw
import Derived.Test.YtponiigpmjnffaaWAdd
import Derived.Test.YtponiigpmjnffaaWMul
import Derived.Test.YtponiigpmjnffaaWLawPlain
import Derived.Test.YtponiigpmjnffaaWMay
import Derived.Test.YtponiigpmjnffaaWSmall
import Derived.Test.YtponiigpmjnffaaWZSame
import Derived.Test.YtponiigpmjnffaaWZAdd
import Derived.Test.YtponiigpmjnffaaWZMul
import Derived.Test.YtponiigpmjnffaaWZDiv
import Derived.Test.YtponiigpmjnffaaWZPow
import Derived.Deep.Cut
import Derived.Deep.CutRange
set_option maxRecDepth 8192
namespace Go.Proofs.Ytponiigpmjnffaa
open Go.RowKit

set_option maxHeartbeats 40000000 in
set_option maxRecDepth 100000 in
theorem wholeRing_low (i : Int) {m0 : Bool} {a0 : Option Addr} {n0 c0 : Nat} {m1 : Bool} {a1 : Option Addr} {n1 c1 : Nat} {x y : Int} {xs ys : List Nat} {w : World} (s0 : Sl w a0 n0 c0 xs) (s1 : Sl w a1 n1 c1 ys) (hx : zOf m0 (val xs) = x) (hy : zOf m1 (val ys) = y) (l0 : n0 ≤ 25) (l1 : n1 ≤ 25) (hi : -9223372036854775808 ≤ i ∧ i ≤ 9223372036854775807) (hf : x < -9223372036854775808) :
    Calls Try.prog 3 #[.agg #[.bool m0, .slice a0 n0 c0], .agg #[.bool m1, .slice a1 n1 c1], .int .i64 i] w (RetB (.bool true) w) := by
  have HX0 := Lib.hid hx
  have HY0 := Lib.hid hy
  have h0 : Nx w m0 a0 n0 c0 x := ⟨⟨xs, s0, hx⟩, by omega⟩
  have h1 : Nx w m1 a1 n1 c1 y := ⟨⟨ys, s1, hy⟩, by omega⟩
  clear hx hy
  have HF := Lib.hid hf
  clear hf
  have bd_x : Bd (x) 25 := h0.inn.bd l0
  have bd_y : Bd (y) 25 := h1.inn.bd l1
  go_enter Try.func3, Try.ntmps3
  go_upto_region 1 with (fail)
  refine wp_world (fun W hW => ?_)
  have HB0 : Hid (Below w.heap.size w W) := by rw [hW]; exact step_alloc (below_alloc _ _)
  have S0 : Hid (St w W _ _) := Lib.hid (St.mk (Live.add_box (show Box W (w.heap.size) m0 a0 n0 c0 from by rw [hW]; exact (Box.new _ _ _ _ _ _ _ (by simp)).below (below_alloc _ _)) (Live.add_box (show Box W (w.heap.size + 1) m1 a1 n1 c1 from by rw [hW]; exact Box.new _ _ _ _ _ _ _ (by simp)) (Live.nil W))) (Live.add_num (h0.below HB0.out) (Live.add_num (h1.below HB0.out) (Live.add_sl (s0.below HB0.out) (Live.add_sl (s1.below HB0.out) (Live.nil W))))) HB0.out)
  clear hW HB0
  obtain ⟨bx_0, bx_1⟩ := S0.out.b.c
  obtain ⟨by_0, by_1⟩ := S0.out.b.t.c
  clear h0 h1
  go_wp2_with fail
  refine (great2_no _ _ _ _ _ _ _ _ W l0 l1).mono ?_
  rintro e w1 ⟨rfl, hB⟩
  have S1 := Lib.hid (S0.out.step (step_alloc hB))
  clear bx_0 bx_1 by_0 by_1
  clear S0 hB
  obtain ⟨bx_0, bx_1⟩ := S1.out.b.c
  obtain ⟨by_0, by_1⟩ := S1.out.b.t.c
  go_upto_region 3 with (fail)
  go_cut [7, 8] from 20 to 23 (fun sl0 sl1 w9 => ∃ (bb0 : Nat) (q0 : Option Addr) (qc0 : Nat) (bb1 : Nat) (q1 : Option Addr) (qc1 : Nat), sl0 = .pointer (some ⟨bb0, 0, none⟩) ∧ sl1 = .pointer (some ⟨bb1, 0, none⟩) ∧ Hid (St w w9 [.box bb0 m0 q0 n0 qc0, .box bb1 m1 q1 n1 qc1, .box (w.heap.size) m0 a0 n0 c0, .box (w.heap.size + 1) m1 a1 n1 c1] [.sl q0 n0 qc0 xs, .sl q1 n1 qc1 ys, .num m0 a0 n0 c0 x, .num m1 a1 n1 c1 y, .sl a0 n0 c0 xs, .sl a1 n1 c1 ys]))
  case first =>
    clear bx_0 bx_1 by_0 by_1
    have S2 := Lib.hid S1.out.drew
    clear S1
    refine wp_region_held_drew (S := fun w' => (w'.cell? ⟨(w.heap.size), 0, none⟩ = some (.bool m0) ∧ w'.cell? ⟨(w.heap.size), 1, none⟩ = some (.slice a0 n0 c0)) ∧ (w'.cell? ⟨(w.heap.size + 1), 0, none⟩ = some (.bool m1) ∧ w'.cell? ⟨(w.heap.size + 1), 1, none⟩ = some (.slice a1 n1 c1))) (by kernel_rfl) (⟨S2.out.b.c, S2.out.b.t.c⟩) (fun hH => ?_)
    refine anyH_world (fun w2 hW => ?_)
    rw [← hW] at S2 hH
    clear hW
    refine step_on 0 rfl (by kernel_rfl) (fun _ _ _ h => h) (by rfl) hH (by intro w hS; go_simp <;> with_reducible rfl) ?_
    try simp only [nrm]
    refine step_on 2 rfl (by kernel_rfl) (fun _ _ _ h => h) (by rfl) hH (by intro w hS; go_simp <;> with_reducible rfl) ?_
    try simp only [nrm]
    refine wpAnyH_ready (rs := [1, 4, 5]) (by kernel_rfl) (by simp) (ready_cons rfl (fun K hK => ?_) (ready_cons rfl (fun K hK => ?_) (ready_cons rfl (fun K hK => ?_) (AllReadyH.nil))))
    · go_simp
      refine (own_any S2.out.n.t.t.sl).mono ?_
      rintro e w3 ⟨a_0, a_c, rfl, hT, hB⟩
      have S3 := Lib.hid ((S2.out.step hB).sl hT)
      clear S2 hT
      clear hB
      go_wp2_with fail
      refine hK.out _ _ ⟨S3.out.b.c, S3.out.b.t.c⟩ (fun h2 => ?_)
      clear hK K hH
      have hH := h2
      clear h2
      try simp only [nrm]
      refine wpAnyH_ready (rs := [3, 4, 5]) (by kernel_rfl) (by simp) (ready_cons rfl (fun K hK => ?_) (ready_cons rfl (fun K hK => ?_) (ready_cons rfl (fun K hK => ?_) (AllReadyH.nil))))
      · go_simp
        refine (own_any S3.out.n.t.t.t.t.sl).mono ?_
        rintro e w4 ⟨b_0, b_c, rfl, hT, hB⟩
        have S4 := Lib.hid ((S3.out.step hB).sl hT)
        clear S3 hT
        clear hB
        go_wp2_with fail
        refine hK.out _ _ ⟨S4.out.b.c, S4.out.b.t.c⟩ (fun h2 => ?_)
        clear hK K hH
        have hH := h2
        clear h2
        try simp only [nrm]
        refine wpAnyH_ready (rs := [4, 5]) (by kernel_rfl) (by simp) (ready_cons rfl (fun K hK => ?_) (ready_cons rfl (fun K hK => ?_) (AllReadyH.nil)))
        · go_simp
          have U4 := under_of S4.out.b
          have z4 := S4.out.h.size
          have S5 := Lib.hid (S4.out.step (below_alloc w4 (.cells #[.bool false, .slice none 0 0] 24)))
          have V4_5 := Lib.hid (Box.new w4 w4.heap.size false none 0 0 24 rfl)
          clear S4
          refine hK.out _ _ ⟨S5.out.b.c, S5.out.b.t.c⟩ (fun h2 => ?_)
          clear hK K hH
          have hH := h2
          clear h2
          try simp only [nrm]
          refine anyH_world (fun w5 hW => ?_)
          rw [← hW] at S5 hH V4_5
          clear hW
          refine wpAnyH_ready (rs := [5]) (by kernel_rfl) (by simp) (ready_cons rfl (fun K hK => ?_) (AllReadyH.nil))
          · go_simp
            have U5 := under_of S5.out.b
            have z5 := S5.out.h.size
            have S6 := Lib.hid (S5.out.step (below_alloc w5 (.cells #[.bool false, .slice none 0 0] 24)))
            have V5_6 := Lib.hid (Box.new w5 w5.heap.size false none 0 0 24 rfl)
            have ne4_5 := Nat.ne_of_lt V4_5.out.lt
            have V4_6 := Lib.hid (V4_5.out.below (below_alloc w5 (.cells #[.bool false, .slice none 0 0] 24)))
            clear V4_5
            clear S5
            refine hK.out _ _ ⟨S6.out.b.c, S6.out.b.t.c⟩ (fun h2 => ?_)
            clear hK K hH
            have hH := h2
            clear h2
            try simp only [nrm]
            refine anyH_world (fun w6 hW => ?_)
            rw [← hW] at S6 hH V4_6 V5_6
            clear hW
            have sb0 := V4_6.out.c0
            have sb1 := V4_6.out.c1
            have sb2 := V4_6.out.f0
            have sb3 := V4_6.out.f1
            refine step_one 6 rfl (by kernel_rfl) (fun K hK => ?_)
            go_simp
            have S7 := Lib.hid (S6.out.put V4_6.out (.bool m0) (.slice a_0 n0 a_c) z4 (under_apart U4) (nums_apart rfl))
            have V4_7 := Lib.hid (V4_6.out.set m0 a_0 n0 a_c)
            have V5_7 := Lib.hid (V5_6.out.far (c := w4.heap.size) (by omega) (.bool m0) (.slice a_0 n0 a_c))
            clear S6 V4_6 V5_6 sb0 sb1 sb2 sb3
            refine hK.out _ _ ⟨S7.out.b.c, S7.out.b.t.c⟩ (fun h2 => ?_)
            clear hK K hH
            have hH := h2
            clear h2
            try simp only [nrm]
            refine anyH_world (fun w7 hW => ?_)
            rw [← hW] at S7 hH V4_7 V5_7
            clear hW
            have sb0 := V5_7.out.c0
            have sb1 := V5_7.out.c1
            have sb2 := V5_7.out.f0
            have sb3 := V5_7.out.f1
            refine step_one 7 rfl (by kernel_rfl) (fun K hK => ?_)
            go_simp
            have S8 := Lib.hid (S7.out.put V5_7.out (.bool m1) (.slice b_0 n1 b_c) z5 (under_apart U5) (nums_apart rfl))
            have V5_8 := Lib.hid (V5_7.out.set m1 b_0 n1 b_c)
            have V4_8 := Lib.hid (V4_7.out.far (c := w5.heap.size) (by omega) (.bool m1) (.slice b_0 n1 b_c))
            clear S7 V4_7 V5_7 sb0 sb1 sb2 sb3
            refine hK.out _ _ ⟨S8.out.b.c, S8.out.b.t.c⟩ (fun h2 => ?_)
            clear hK K hH
            have hH := h2
            clear h2
            try simp only [nrm]
            refine anyH_world (fun w8 hW => ?_)
            rw [← hW] at S8 hH V4_8 V5_8
            clear hW
            refine wpAnyH_done (by kernel_rfl) ?_ _
            go_wp2_with fail
            go_meet
            case rel => exact ⟨_, _, _, _, _, _, rfl, rfl, (Live.add_box V4_8.out (Live.add_box V5_8.out S8.out.b)), (Live.add_sl S8.out.n.t.sl (Live.add_sl S8.out.n.sl S8.out.n.t.t)), S8.out.h⟩
        · go_simp
          have U5 := under_of S4.out.b
          have z5 := S4.out.h.size
          have S5 := Lib.hid (S4.out.step (below_alloc w4 (.cells #[.bool false, .slice none 0 0] 24)))
          have V5_5 := Lib.hid (Box.new w4 w4.heap.size false none 0 0 24 rfl)
          clear S4
          refine hK.out _ _ ⟨S5.out.b.c, S5.out.b.t.c⟩ (fun h2 => ?_)
          clear hK K hH
          have hH := h2
          clear h2
          try simp only [nrm]
          refine anyH_world (fun w5 hW => ?_)
          rw [← hW] at S5 hH V5_5
          clear hW
          refine wpAnyH_ready (rs := [4]) (by kernel_rfl) (by simp) (ready_cons rfl (fun K hK => ?_) (AllReadyH.nil))
          · go_simp
            have U4 := under_of S5.out.b
            have z4 := S5.out.h.size
            have S6 := Lib.hid (S5.out.step (below_alloc w5 (.cells #[.bool false, .slice none 0 0] 24)))
            have V4_6 := Lib.hid (Box.new w5 w5.heap.size false none 0 0 24 rfl)
            have ne5_4 := Nat.ne_of_lt V5_5.out.lt
            have V5_6 := Lib.hid (V5_5.out.below (below_alloc w5 (.cells #[.bool false, .slice none 0 0] 24)))
            clear V5_5
            clear S5
            refine hK.out _ _ ⟨S6.out.b.c, S6.out.b.t.c⟩ (fun h2 => ?_)
            clear hK K hH
            have hH := h2
            clear h2
            try simp only [nrm]
            refine anyH_world (fun w6 hW => ?_)
            rw [← hW] at S6 hH V5_6 V4_6
            clear hW
            have sb0 := V4_6.out.c0
            have sb1 := V4_6.out.c1
            have sb2 := V4_6.out.f0
            have sb3 := V4_6.out.f1
            refine step_one 6 rfl (by kernel_rfl) (fun K hK => ?_)
            go_simp
            have S7 := Lib.hid (S6.out.put V4_6.out (.bool m0) (.slice a_0 n0 a_c) z4 (under_apart U4) (nums_apart rfl))
            have V4_7 := Lib.hid (V4_6.out.set m0 a_0 n0 a_c)
            have V5_7 := Lib.hid (V5_6.out.far (c := w5.heap.size) (by omega) (.bool m0) (.slice a_0 n0 a_c))
            clear S6 V4_6 V5_6 sb0 sb1 sb2 sb3
            refine hK.out _ _ ⟨S7.out.b.c, S7.out.b.t.c⟩ (fun h2 => ?_)
            clear hK K hH
            have hH := h2
            clear h2
            try simp only [nrm]
            refine anyH_world (fun w7 hW => ?_)
            rw [← hW] at S7 hH V4_7 V5_7
            clear hW
            have sb0 := V5_7.out.c0
            have sb1 := V5_7.out.c1
            have sb2 := V5_7.out.f0
            have sb3 := V5_7.out.f1
            refine step_one 7 rfl (by kernel_rfl) (fun K hK => ?_)
            go_simp
            have S8 := Lib.hid (S7.out.put V5_7.out (.bool m1) (.slice b_0 n1 b_c) z5 (under_apart U5) (nums_apart rfl))
            have V5_8 := Lib.hid (V5_7.out.set m1 b_0 n1 b_c)
            have V4_8 := Lib.hid (V4_7.out.far (c := w4.heap.size) (by omega) (.bool m1) (.slice b_0 n1 b_c))
            clear S7 V4_7 V5_7 sb0 sb1 sb2 sb3
            refine hK.out _ _ ⟨S8.out.b.c, S8.out.b.t.c⟩ (fun h2 => ?_)
            clear hK K hH
            have hH := h2
            clear h2
            try simp only [nrm]
            refine anyH_world (fun w8 hW => ?_)
            rw [← hW] at S8 hH V4_8 V5_8
            clear hW
            refine wpAnyH_done (by kernel_rfl) ?_ _
            go_wp2_with fail
            go_meet
            case rel => exact ⟨_, _, _, _, _, _, rfl, rfl, (Live.add_box V4_8.out (Live.add_box V5_8.out S8.out.b)), (Live.add_sl S8.out.n.t.sl (Live.add_sl S8.out.n.sl S8.out.n.t.t)), S8.out.h⟩
      · go_simp
        have U4 := under_of S3.out.b
        have z4 := S3.out.h.size
        have S4 := Lib.hid (S3.out.step (below_alloc w3 (.cells #[.bool false, .slice none 0 0] 24)))
        have V4_4 := Lib.hid (Box.new w3 w3.heap.size false none 0 0 24 rfl)
        clear S3
        refine hK.out _ _ ⟨S4.out.b.c, S4.out.b.t.c⟩ (fun h2 => ?_)
        clear hK K hH
        have hH := h2
        clear h2
        try simp only [nrm]
        refine anyH_world (fun w4 hW => ?_)
        rw [← hW] at S4 hH V4_4
        clear hW
        refine wpAnyH_ready (rs := [3, 5]) (by kernel_rfl) (by simp) (ready_cons rfl (fun K hK => ?_) (ready_cons rfl (fun K hK => ?_) (AllReadyH.nil)))
        · go_simp
          refine (own_any S4.out.n.t.t.t.t.sl).mono ?_
          rintro e w5 ⟨b_0, b_c, rfl, hT, hB⟩
          have S5 := Lib.hid ((S4.out.step hB).sl hT)
          clear S4 hT
          have V4_5 := Lib.hid (V4_4.out.below hB)
          clear V4_4
          clear hB
          go_wp2_with fail
          refine hK.out _ _ ⟨S5.out.b.c, S5.out.b.t.c⟩ (fun h2 => ?_)
          clear hK K hH
          have hH := h2
          clear h2
          try simp only [nrm]
          refine wpAnyH_ready (rs := [5]) (by kernel_rfl) (by simp) (ready_cons rfl (fun K hK => ?_) (AllReadyH.nil))
          · go_simp
            have U5 := under_of S5.out.b
            have z5 := S5.out.h.size
            have S6 := Lib.hid (S5.out.step (below_alloc w5 (.cells #[.bool false, .slice none 0 0] 24)))
            have V5_6 := Lib.hid (Box.new w5 w5.heap.size false none 0 0 24 rfl)
            have ne4_5 := Nat.ne_of_lt V4_5.out.lt
            have V4_6 := Lib.hid (V4_5.out.below (below_alloc w5 (.cells #[.bool false, .slice none 0 0] 24)))
            clear V4_5
            clear S5
            refine hK.out _ _ ⟨S6.out.b.c, S6.out.b.t.c⟩ (fun h2 => ?_)
            clear hK K hH
            have hH := h2
            clear h2
            try simp only [nrm]
            refine anyH_world (fun w6 hW => ?_)
            rw [← hW] at S6 hH V4_6 V5_6
            clear hW
            have sb0 := V4_6.out.c0
            have sb1 := V4_6.out.c1
            have sb2 := V4_6.out.f0
            have sb3 := V4_6.out.f1
            refine step_one 6 rfl (by kernel_rfl) (fun K hK => ?_)
            go_simp
            have S7 := Lib.hid (S6.out.put V4_6.out (.bool m0) (.slice a_0 n0 a_c) z4 (under_apart U4) (nums_apart rfl))
            have V4_7 := Lib.hid (V4_6.out.set m0 a_0 n0 a_c)
            have V5_7 := Lib.hid (V5_6.out.far (c := w3.heap.size) (by omega) (.bool m0) (.slice a_0 n0 a_c))
            clear S6 V4_6 V5_6 sb0 sb1 sb2 sb3
            refine hK.out _ _ ⟨S7.out.b.c, S7.out.b.t.c⟩ (fun h2 => ?_)
            clear hK K hH
            have hH := h2
            clear h2
            try simp only [nrm]
            refine anyH_world (fun w7 hW => ?_)
            rw [← hW] at S7 hH V4_7 V5_7
            clear hW
            have sb0 := V5_7.out.c0
            have sb1 := V5_7.out.c1
            have sb2 := V5_7.out.f0
            have sb3 := V5_7.out.f1
            refine step_one 7 rfl (by kernel_rfl) (fun K hK => ?_)
            go_simp
            have S8 := Lib.hid (S7.out.put V5_7.out (.bool m1) (.slice b_0 n1 b_c) z5 (under_apart U5) (nums_apart rfl))
            have V5_8 := Lib.hid (V5_7.out.set m1 b_0 n1 b_c)
            have V4_8 := Lib.hid (V4_7.out.far (c := w5.heap.size) (by omega) (.bool m1) (.slice b_0 n1 b_c))
            clear S7 V4_7 V5_7 sb0 sb1 sb2 sb3
            refine hK.out _ _ ⟨S8.out.b.c, S8.out.b.t.c⟩ (fun h2 => ?_)
            clear hK K hH
            have hH := h2
            clear h2
            try simp only [nrm]
            refine anyH_world (fun w8 hW => ?_)
            rw [← hW] at S8 hH V4_8 V5_8
            clear hW
            refine wpAnyH_done (by kernel_rfl) ?_ _
            go_wp2_with fail
            go_meet
            case rel => exact ⟨_, _, _, _, _, _, rfl, rfl, (Live.add_box V4_8.out (Live.add_box V5_8.out S8.out.b)), (Live.add_sl S8.out.n.t.sl (Live.add_sl S8.out.n.sl S8.out.n.t.t)), S8.out.h⟩
        · go_simp
          have U5 := under_of S4.out.b
          have z5 := S4.out.h.size
          have S5 := Lib.hid (S4.out.step (below_alloc w4 (.cells #[.bool false, .slice none 0 0] 24)))
          have V5_5 := Lib.hid (Box.new w4 w4.heap.size false none 0 0 24 rfl)
          have ne4_5 := Nat.ne_of_lt V4_4.out.lt
          have V4_5 := Lib.hid (V4_4.out.below (below_alloc w4 (.cells #[.bool false, .slice none 0 0] 24)))
          clear V4_4
          clear S4
          refine hK.out _ _ ⟨S5.out.b.c, S5.out.b.t.c⟩ (fun h2 => ?_)
          clear hK K hH
          have hH := h2
          clear h2
          try simp only [nrm]
          refine anyH_world (fun w5 hW => ?_)
          rw [← hW] at S5 hH V4_5 V5_5
          clear hW
          refine wpAnyH_ready (rs := [3]) (by kernel_rfl) (by simp) (ready_cons rfl (fun K hK => ?_) (AllReadyH.nil))
          · go_simp
            refine (own_any S5.out.n.t.t.t.t.sl).mono ?_
            rintro e w6 ⟨b_0, b_c, rfl, hT, hB⟩
            have S6 := Lib.hid ((S5.out.step hB).sl hT)
            clear S5 hT
            have V4_6 := Lib.hid (V4_5.out.below hB)
            clear V4_5
            have V5_6 := Lib.hid (V5_5.out.below hB)
            clear V5_5
            clear hB
            go_wp2_with fail
            refine hK.out _ _ ⟨S6.out.b.c, S6.out.b.t.c⟩ (fun h2 => ?_)
            clear hK K hH
            have hH := h2
            clear h2
            try simp only [nrm]
            have sb0 := V4_6.out.c0
            have sb1 := V4_6.out.c1
            have sb2 := V4_6.out.f0
            have sb3 := V4_6.out.f1
            refine step_one 6 rfl (by kernel_rfl) (fun K hK => ?_)
            go_simp
            have S7 := Lib.hid (S6.out.put V4_6.out (.bool m0) (.slice a_0 n0 a_c) z4 (under_apart U4) (nums_apart rfl))
            have V4_7 := Lib.hid (V4_6.out.set m0 a_0 n0 a_c)
            have V5_7 := Lib.hid (V5_6.out.far (c := w3.heap.size) (by omega) (.bool m0) (.slice a_0 n0 a_c))
            clear S6 V4_6 V5_6 sb0 sb1 sb2 sb3
            refine hK.out _ _ ⟨S7.out.b.c, S7.out.b.t.c⟩ (fun h2 => ?_)
            clear hK K hH
            have hH := h2
            clear h2
            try simp only [nrm]
            refine anyH_world (fun w7 hW => ?_)
            rw [← hW] at S7 hH V4_7 V5_7
            clear hW
            have sb0 := V5_7.out.c0
            have sb1 := V5_7.out.c1
            have sb2 := V5_7.out.f0
            have sb3 := V5_7.out.f1
            refine step_one 7 rfl (by kernel_rfl) (fun K hK => ?_)
            go_simp
            have S8 := Lib.hid (S7.out.put V5_7.out (.bool m1) (.slice b_0 n1 b_c) z5 (under_apart U5) (nums_apart rfl))
            have V5_8 := Lib.hid (V5_7.out.set m1 b_0 n1 b_c)
            have V4_8 := Lib.hid (V4_7.out.far (c := w4.heap.size) (by omega) (.bool m1) (.slice b_0 n1 b_c))
            clear S7 V4_7 V5_7 sb0 sb1 sb2 sb3
            refine hK.out _ _ ⟨S8.out.b.c, S8.out.b.t.c⟩ (fun h2 => ?_)
            clear hK K hH
            have hH := h2
            clear h2
            try simp only [nrm]
            refine anyH_world (fun w8 hW => ?_)
            rw [← hW] at S8 hH V4_8 V5_8
            clear hW
            refine wpAnyH_done (by kernel_rfl) ?_ _
            go_wp2_with fail
            go_meet
            case rel => exact ⟨_, _, _, _, _, _, rfl, rfl, (Live.add_box V4_8.out (Live.add_box V5_8.out S8.out.b)), (Live.add_sl S8.out.n.t.sl (Live.add_sl S8.out.n.sl S8.out.n.t.t)), S8.out.h⟩
      · go_simp
        have U5 := under_of S3.out.b
        have z5 := S3.out.h.size
        have S4 := Lib.hid (S3.out.step (below_alloc w3 (.cells #[.bool false, .slice none 0 0] 24)))
        have V5_4 := Lib.hid (Box.new w3 w3.heap.size false none 0 0 24 rfl)
        clear S3
        refine hK.out _ _ ⟨S4.out.b.c, S4.out.b.t.c⟩ (fun h2 => ?_)
        clear hK K hH
        have hH := h2
        clear h2
        try simp only [nrm]
        refine anyH_world (fun w4 hW => ?_)
        rw [← hW] at S4 hH V5_4
        clear hW
        refine wpAnyH_ready (rs := [3, 4]) (by kernel_rfl) (by simp) (ready_cons rfl (fun K hK => ?_) (ready_cons rfl (fun K hK => ?_) (AllReadyH.nil)))
        · go_simp
          refine (own_any S4.out.n.t.t.t.t.sl).mono ?_
          rintro e w5 ⟨b_0, b_c, rfl, hT, hB⟩
          have S5 := Lib.hid ((S4.out.step hB).sl hT)
          clear S4 hT
          have V5_5 := Lib.hid (V5_4.out.below hB)
          clear V5_4
          clear hB
          go_wp2_with fail
          refine hK.out _ _ ⟨S5.out.b.c, S5.out.b.t.c⟩ (fun h2 => ?_)
          clear hK K hH
          have hH := h2
          clear h2
          try simp only [nrm]
          refine wpAnyH_ready (rs := [4]) (by kernel_rfl) (by simp) (ready_cons rfl (fun K hK => ?_) (AllReadyH.nil))
          · go_simp
            have U4 := under_of S5.out.b
            have z4 := S5.out.h.size
            have S6 := Lib.hid (S5.out.step (below_alloc w5 (.cells #[.bool false, .slice none 0 0] 24)))
            have V4_6 := Lib.hid (Box.new w5 w5.heap.size false none 0 0 24 rfl)
            have ne5_4 := Nat.ne_of_lt V5_5.out.lt
            have V5_6 := Lib.hid (V5_5.out.below (below_alloc w5 (.cells #[.bool false, .slice none 0 0] 24)))
            clear V5_5
            clear S5
            refine hK.out _ _ ⟨S6.out.b.c, S6.out.b.t.c⟩ (fun h2 => ?_)
            clear hK K hH
            have hH := h2
            clear h2
            try simp only [nrm]
            refine anyH_world (fun w6 hW => ?_)
            rw [← hW] at S6 hH V5_6 V4_6
            clear hW
            have sb0 := V4_6.out.c0
            have sb1 := V4_6.out.c1
            have sb2 := V4_6.out.f0
            have sb3 := V4_6.out.f1
            refine step_one 6 rfl (by kernel_rfl) (fun K hK => ?_)
            go_simp
            have S7 := Lib.hid (S6.out.put V4_6.out (.bool m0) (.slice a_0 n0 a_c) z4 (under_apart U4) (nums_apart rfl))
            have V4_7 := Lib.hid (V4_6.out.set m0 a_0 n0 a_c)
            have V5_7 := Lib.hid (V5_6.out.far (c := w5.heap.size) (by omega) (.bool m0) (.slice a_0 n0 a_c))
            clear S6 V4_6 V5_6 sb0 sb1 sb2 sb3
            refine hK.out _ _ ⟨S7.out.b.c, S7.out.b.t.c⟩ (fun h2 => ?_)
            clear hK K hH
            have hH := h2
            clear h2
            try simp only [nrm]
            refine anyH_world (fun w7 hW => ?_)
            rw [← hW] at S7 hH V4_7 V5_7
            clear hW
            have sb0 := V5_7.out.c0
            have sb1 := V5_7.out.c1
            have sb2 := V5_7.out.f0
            have sb3 := V5_7.out.f1
            refine step_one 7 rfl (by kernel_rfl) (fun K hK => ?_)
            go_simp
            have S8 := Lib.hid (S7.out.put V5_7.out (.bool m1) (.slice b_0 n1 b_c) z5 (under_apart U5) (nums_apart rfl))
            have V5_8 := Lib.hid (V5_7.out.set m1 b_0 n1 b_c)
            have V4_8 := Lib.hid (V4_7.out.far (c := w3.heap.size) (by omega) (.bool m1) (.slice b_0 n1 b_c))
            clear S7 V4_7 V5_7 sb0 sb1 sb2 sb3
            refine hK.out _ _ ⟨S8.out.b.c, S8.out.b.t.c⟩ (fun h2 => ?_)
            clear hK K hH
            have hH := h2
            clear h2
            try simp only [nrm]
            refine anyH_world (fun w8 hW => ?_)
            rw [← hW] at S8 hH V4_8 V5_8
            clear hW
            refine wpAnyH_done (by kernel_rfl) ?_ _
            go_wp2_with fail
            go_meet
            case rel => exact ⟨_, _, _, _, _, _, rfl, rfl, (Live.add_box V4_8.out (Live.add_box V5_8.out S8.out.b)), (Live.add_sl S8.out.n.t.sl (Live.add_sl S8.out.n.sl S8.out.n.t.t)), S8.out.h⟩
        · go_simp
          have U4 := under_of S4.out.b
          have z4 := S4.out.h.size
          have S5 := Lib.hid (S4.out.step (below_alloc w4 (.cells #[.bool false, .slice none 0 0] 24)))
          have V4_5 := Lib.hid (Box.new w4 w4.heap.size false none 0 0 24 rfl)
          have ne5_4 := Nat.ne_of_lt V5_4.out.lt
          have V5_5 := Lib.hid (V5_4.out.below (below_alloc w4 (.cells #[.bool false, .slice none 0 0] 24)))
          clear V5_4
          clear S4
          refine hK.out _ _ ⟨S5.out.b.c, S5.out.b.t.c⟩ (fun h2 => ?_)
          clear hK K hH
          have hH := h2
          clear h2
          try simp only [nrm]
          refine anyH_world (fun w5 hW => ?_)
          rw [← hW] at S5 hH V5_5 V4_5
          clear hW
          refine wpAnyH_ready (rs := [3]) (by kernel_rfl) (by simp) (ready_cons rfl (fun K hK => ?_) (AllReadyH.nil))
          · go_simp
            refine (own_any S5.out.n.t.t.t.t.sl).mono ?_
            rintro e w6 ⟨b_0, b_c, rfl, hT, hB⟩
            have S6 := Lib.hid ((S5.out.step hB).sl hT)
            clear S5 hT
            have V5_6 := Lib.hid (V5_5.out.below hB)
            clear V5_5
            have V4_6 := Lib.hid (V4_5.out.below hB)
            clear V4_5
            clear hB
            go_wp2_with fail
            refine hK.out _ _ ⟨S6.out.b.c, S6.out.b.t.c⟩ (fun h2 => ?_)
            clear hK K hH
            have hH := h2
            clear h2
            try simp only [nrm]
            have sb0 := V4_6.out.c0
            have sb1 := V4_6.out.c1
            have sb2 := V4_6.out.f0
            have sb3 := V4_6.out.f1
            refine step_one 6 rfl (by kernel_rfl) (fun K hK => ?_)
            go_simp
            have S7 := Lib.hid (S6.out.put V4_6.out (.bool m0) (.slice a_0 n0 a_c) z4 (under_apart U4) (nums_apart rfl))
            have V4_7 := Lib.hid (V4_6.out.set m0 a_0 n0 a_c)
            have V5_7 := Lib.hid (V5_6.out.far (c := w4.heap.size) (by omega) (.bool m0) (.slice a_0 n0 a_c))
            clear S6 V4_6 V5_6 sb0 sb1 sb2 sb3
            refine hK.out _ _ ⟨S7.out.b.c, S7.out.b.t.c⟩ (fun h2 => ?_)
            clear hK K hH
            have hH := h2
            clear h2
            try simp only [nrm]
            refine anyH_world (fun w7 hW => ?_)
            rw [← hW] at S7 hH V4_7 V5_7
            clear hW
            have sb0 := V5_7.out.c0
            have sb1 := V5_7.out.c1
            have sb2 := V5_7.out.f0
            have sb3 := V5_7.out.f1
            refine step_one 7 rfl (by kernel_rfl) (fun K hK => ?_)
            go_simp
            have S8 := Lib.hid (S7.out.put V5_7.out (.bool m1) (.slice b_0 n1 b_c) z5 (under_apart U5) (nums_apart rfl))
            have V5_8 := Lib.hid (V5_7.out.set m1 b_0 n1 b_c)
            have V4_8 := Lib.hid (V4_7.out.far (c := w3.heap.size) (by omega) (.bool m1) (.slice b_0 n1 b_c))
            clear S7 V4_7 V5_7 sb0 sb1 sb2 sb3
            refine hK.out _ _ ⟨S8.out.b.c, S8.out.b.t.c⟩ (fun h2 => ?_)
            clear hK K hH
            have hH := h2
            clear h2
            try simp only [nrm]
            refine anyH_world (fun w8 hW => ?_)
            rw [← hW] at S8 hH V4_8 V5_8
            clear hW
            refine wpAnyH_done (by kernel_rfl) ?_ _
            go_wp2_with fail
            go_meet
            case rel => exact ⟨_, _, _, _, _, _, rfl, rfl, (Live.add_box V4_8.out (Live.add_box V5_8.out S8.out.b)), (Live.add_sl S8.out.n.t.sl (Live.add_sl S8.out.n.sl S8.out.n.t.t)), S8.out.h⟩
    · go_simp
      have U4 := under_of S2.out.b
      have z4 := S2.out.h.size
      have S3 := Lib.hid (S2.out.step (below_alloc w2 (.cells #[.bool false, .slice none 0 0] 24)))
      have V4_3 := Lib.hid (Box.new w2 w2.heap.size false none 0 0 24 rfl)
      clear S2
      refine hK.out _ _ ⟨S3.out.b.c, S3.out.b.t.c⟩ (fun h2 => ?_)
      clear hK K hH
      have hH := h2
      clear h2
      try simp only [nrm]
      refine anyH_world (fun w3 hW => ?_)
      rw [← hW] at S3 hH V4_3
      clear hW
      refine wpAnyH_ready (rs := [1, 5]) (by kernel_rfl) (by simp) (ready_cons rfl (fun K hK => ?_) (ready_cons rfl (fun K hK => ?_) (AllReadyH.nil)))
      · go_simp
        refine (own_any S3.out.n.t.t.sl).mono ?_
        rintro e w4 ⟨a_0, a_c, rfl, hT, hB⟩
        have S4 := Lib.hid ((S3.out.step hB).sl hT)
        clear S3 hT
        have V4_4 := Lib.hid (V4_3.out.below hB)
        clear V4_3
        clear hB
        go_wp2_with fail
        refine hK.out _ _ ⟨S4.out.b.c, S4.out.b.t.c⟩ (fun h2 => ?_)
        clear hK K hH
        have hH := h2
        clear h2
        try simp only [nrm]
        refine wpAnyH_ready (rs := [3, 5]) (by kernel_rfl) (by simp) (ready_cons rfl (fun K hK => ?_) (ready_cons rfl (fun K hK => ?_) (AllReadyH.nil)))
        · go_simp
          refine (own_any S4.out.n.t.t.t.t.sl).mono ?_
          rintro e w5 ⟨b_0, b_c, rfl, hT, hB⟩
          have S5 := Lib.hid ((S4.out.step hB).sl hT)
          clear S4 hT
          have V4_5 := Lib.hid (V4_4.out.below hB)
          clear V4_4
          clear hB
          go_wp2_with fail
          refine hK.out _ _ ⟨S5.out.b.c, S5.out.b.t.c⟩ (fun h2 => ?_)
          clear hK K hH
          have hH := h2
          clear h2
          try simp only [nrm]
          refine wpAnyH_ready (rs := [5]) (by kernel_rfl) (by simp) (ready_cons rfl (fun K hK => ?_) (AllReadyH.nil))
          · go_simp
            have U5 := under_of S5.out.b
            have z5 := S5.out.h.size
            have S6 := Lib.hid (S5.out.step (below_alloc w5 (.cells #[.bool false, .slice none 0 0] 24)))
            have V5_6 := Lib.hid (Box.new w5 w5.heap.size false none 0 0 24 rfl)
            have ne4_5 := Nat.ne_of_lt V4_5.out.lt
            have V4_6 := Lib.hid (V4_5.out.below (below_alloc w5 (.cells #[.bool false, .slice none 0 0] 24)))
            clear V4_5
            clear S5
            refine hK.out _ _ ⟨S6.out.b.c, S6.out.b.t.c⟩ (fun h2 => ?_)
            clear hK K hH
            have hH := h2
            clear h2
            try simp only [nrm]
            refine anyH_world (fun w6 hW => ?_)
            rw [← hW] at S6 hH V4_6 V5_6
            clear hW
            have sb0 := V4_6.out.c0
            have sb1 := V4_6.out.c1
            have sb2 := V4_6.out.f0
            have sb3 := V4_6.out.f1
            refine step_one 6 rfl (by kernel_rfl) (fun K hK => ?_)
            go_simp
            have S7 := Lib.hid (S6.out.put V4_6.out (.bool m0) (.slice a_0 n0 a_c) z4 (under_apart U4) (nums_apart rfl))
            have V4_7 := Lib.hid (V4_6.out.set m0 a_0 n0 a_c)
            have V5_7 := Lib.hid (V5_6.out.far (c := w2.heap.size) (by omega) (.bool m0) (.slice a_0 n0 a_c))
            clear S6 V4_6 V5_6 sb0 sb1 sb2 sb3
            refine hK.out _ _ ⟨S7.out.b.c, S7.out.b.t.c⟩ (fun h2 => ?_)
            clear hK K hH
            have hH := h2
            clear h2
            try simp only [nrm]
            refine anyH_world (fun w7 hW => ?_)
            rw [← hW] at S7 hH V4_7 V5_7
            clear hW
            have sb0 := V5_7.out.c0
            have sb1 := V5_7.out.c1
            have sb2 := V5_7.out.f0
            have sb3 := V5_7.out.f1
            refine step_one 7 rfl (by kernel_rfl) (fun K hK => ?_)
            go_simp
            have S8 := Lib.hid (S7.out.put V5_7.out (.bool m1) (.slice b_0 n1 b_c) z5 (under_apart U5) (nums_apart rfl))
            have V5_8 := Lib.hid (V5_7.out.set m1 b_0 n1 b_c)
            have V4_8 := Lib.hid (V4_7.out.far (c := w5.heap.size) (by omega) (.bool m1) (.slice b_0 n1 b_c))
            clear S7 V4_7 V5_7 sb0 sb1 sb2 sb3
            refine hK.out _ _ ⟨S8.out.b.c, S8.out.b.t.c⟩ (fun h2 => ?_)
            clear hK K hH
            have hH := h2
            clear h2
            try simp only [nrm]
            refine anyH_world (fun w8 hW => ?_)
            rw [← hW] at S8 hH V4_8 V5_8
            clear hW
            refine wpAnyH_done (by kernel_rfl) ?_ _
            go_wp2_with fail
            go_meet
            case rel => exact ⟨_, _, _, _, _, _, rfl, rfl, (Live.add_box V4_8.out (Live.add_box V5_8.out S8.out.b)), (Live.add_sl S8.out.n.t.sl (Live.add_sl S8.out.n.sl S8.out.n.t.t)), S8.out.h⟩
        · go_simp
          have U5 := under_of S4.out.b
          have z5 := S4.out.h.size
          have S5 := Lib.hid (S4.out.step (below_alloc w4 (.cells #[.bool false, .slice none 0 0] 24)))
          have V5_5 := Lib.hid (Box.new w4 w4.heap.size false none 0 0 24 rfl)
          have ne4_5 := Nat.ne_of_lt V4_4.out.lt
          have V4_5 := Lib.hid (V4_4.out.below (below_alloc w4 (.cells #[.bool false, .slice none 0 0] 24)))
          clear V4_4
          clear S4
          refine hK.out _ _ ⟨S5.out.b.c, S5.out.b.t.c⟩ (fun h2 => ?_)
          clear hK K hH
          have hH := h2
          clear h2
          try simp only [nrm]
          refine anyH_world (fun w5 hW => ?_)
          rw [← hW] at S5 hH V4_5 V5_5
          clear hW
          refine wpAnyH_ready (rs := [3]) (by kernel_rfl) (by simp) (ready_cons rfl (fun K hK => ?_) (AllReadyH.nil))
          · go_simp
            refine (own_any S5.out.n.t.t.t.t.sl).mono ?_
            rintro e w6 ⟨b_0, b_c, rfl, hT, hB⟩
            have S6 := Lib.hid ((S5.out.step hB).sl hT)
            clear S5 hT
            have V4_6 := Lib.hid (V4_5.out.below hB)
            clear V4_5
            have V5_6 := Lib.hid (V5_5.out.below hB)
            clear V5_5
            clear hB
            go_wp2_with fail
            refine hK.out _ _ ⟨S6.out.b.c, S6.out.b.t.c⟩ (fun h2 => ?_)
            clear hK K hH
            have hH := h2
            clear h2
            try simp only [nrm]
            have sb0 := V4_6.out.c0
            have sb1 := V4_6.out.c1
            have sb2 := V4_6.out.f0
            have sb3 := V4_6.out.f1
            refine step_one 6 rfl (by kernel_rfl) (fun K hK => ?_)
            go_simp
            have S7 := Lib.hid (S6.out.put V4_6.out (.bool m0) (.slice a_0 n0 a_c) z4 (under_apart U4) (nums_apart rfl))
            have V4_7 := Lib.hid (V4_6.out.set m0 a_0 n0 a_c)
            have V5_7 := Lib.hid (V5_6.out.far (c := w2.heap.size) (by omega) (.bool m0) (.slice a_0 n0 a_c))
            clear S6 V4_6 V5_6 sb0 sb1 sb2 sb3
            refine hK.out _ _ ⟨S7.out.b.c, S7.out.b.t.c⟩ (fun h2 => ?_)
            clear hK K hH
            have hH := h2
            clear h2
            try simp only [nrm]
            refine anyH_world (fun w7 hW => ?_)
            rw [← hW] at S7 hH V4_7 V5_7
            clear hW
            have sb0 := V5_7.out.c0
            have sb1 := V5_7.out.c1
            have sb2 := V5_7.out.f0
            have sb3 := V5_7.out.f1
            refine step_one 7 rfl (by kernel_rfl) (fun K hK => ?_)
            go_simp
            have S8 := Lib.hid (S7.out.put V5_7.out (.bool m1) (.slice b_0 n1 b_c) z5 (under_apart U5) (nums_apart rfl))
            have V5_8 := Lib.hid (V5_7.out.set m1 b_0 n1 b_c)
            have V4_8 := Lib.hid (V4_7.out.far (c := w4.heap.size) (by omega) (.bool m1) (.slice b_0 n1 b_c))
            clear S7 V4_7 V5_7 sb0 sb1 sb2 sb3
            refine hK.out _ _ ⟨S8.out.b.c, S8.out.b.t.c⟩ (fun h2 => ?_)
            clear hK K hH
            have hH := h2
            clear h2
            try simp only [nrm]
            refine anyH_world (fun w8 hW => ?_)
            rw [← hW] at S8 hH V4_8 V5_8
            clear hW
            refine wpAnyH_done (by kernel_rfl) ?_ _
            go_wp2_with fail
            go_meet
            case rel => exact ⟨_, _, _, _, _, _, rfl, rfl, (Live.add_box V4_8.out (Live.add_box V5_8.out S8.out.b)), (Live.add_sl S8.out.n.t.sl (Live.add_sl S8.out.n.sl S8.out.n.t.t)), S8.out.h⟩
      · go_simp
        have U5 := under_of S3.out.b
        have z5 := S3.out.h.size
        have S4 := Lib.hid (S3.out.step (below_alloc w3 (.cells #[.bool false, .slice none 0 0] 24)))
        have V5_4 := Lib.hid (Box.new w3 w3.heap.size false none 0 0 24 rfl)
        have ne4_5 := Nat.ne_of_lt V4_3.out.lt
        have V4_4 := Lib.hid (V4_3.out.below (below_alloc w3 (.cells #[.bool false, .slice none 0 0] 24)))
        clear V4_3
        clear S3
        refine hK.out _ _ ⟨S4.out.b.c, S4.out.b.t.c⟩ (fun h2 => ?_)
        clear hK K hH
        have hH := h2
        clear h2
        try simp only [nrm]
        refine anyH_world (fun w4 hW => ?_)
        rw [← hW] at S4 hH V4_4 V5_4
        clear hW
        refine wpAnyH_ready (rs := [1]) (by kernel_rfl) (by simp) (ready_cons rfl (fun K hK => ?_) (AllReadyH.nil))
        · go_simp
          refine (own_any S4.out.n.t.t.sl).mono ?_
          rintro e w5 ⟨a_0, a_c, rfl, hT, hB⟩
          have S5 := Lib.hid ((S4.out.step hB).sl hT)
          clear S4 hT
          have V4_5 := Lib.hid (V4_4.out.below hB)
          clear V4_4
          have V5_5 := Lib.hid (V5_4.out.below hB)
          clear V5_4
          clear hB
          go_wp2_with fail
          refine hK.out _ _ ⟨S5.out.b.c, S5.out.b.t.c⟩ (fun h2 => ?_)
          clear hK K hH
          have hH := h2
          clear h2
          try simp only [nrm]
          refine wpAnyH_ready (rs := [3]) (by kernel_rfl) (by simp) (ready_cons rfl (fun K hK => ?_) (AllReadyH.nil))
          · go_simp
            refine (own_any S5.out.n.t.t.t.t.sl).mono ?_
            rintro e w6 ⟨b_0, b_c, rfl, hT, hB⟩
            have S6 := Lib.hid ((S5.out.step hB).sl hT)
            clear S5 hT
            have V4_6 := Lib.hid (V4_5.out.below hB)
            clear V4_5
            have V5_6 := Lib.hid (V5_5.out.below hB)
            clear V5_5
            clear hB
            go_wp2_with fail
            refine hK.out _ _ ⟨S6.out.b.c, S6.out.b.t.c⟩ (fun h2 => ?_)
            clear hK K hH
            have hH := h2
            clear h2
            try simp only [nrm]
            have sb0 := V4_6.out.c0
            have sb1 := V4_6.out.c1
            have sb2 := V4_6.out.f0
            have sb3 := V4_6.out.f1
            refine step_one 6 rfl (by kernel_rfl) (fun K hK => ?_)
            go_simp
            have S7 := Lib.hid (S6.out.put V4_6.out (.bool m0) (.slice a_0 n0 a_c) z4 (under_apart U4) (nums_apart rfl))
            have V4_7 := Lib.hid (V4_6.out.set m0 a_0 n0 a_c)
            have V5_7 := Lib.hid (V5_6.out.far (c := w2.heap.size) (by omega) (.bool m0) (.slice a_0 n0 a_c))
            clear S6 V4_6 V5_6 sb0 sb1 sb2 sb3
            refine hK.out _ _ ⟨S7.out.b.c, S7.out.b.t.c⟩ (fun h2 => ?_)
            clear hK K hH
            have hH := h2
            clear h2
            try simp only [nrm]
            refine anyH_world (fun w7 hW => ?_)
            rw [← hW] at S7 hH V4_7 V5_7
            clear hW
            have sb0 := V5_7.out.c0
            have sb1 := V5_7.out.c1
            have sb2 := V5_7.out.f0
            have sb3 := V5_7.out.f1
            refine step_one 7 rfl (by kernel_rfl) (fun K hK => ?_)
            go_simp
            have S8 := Lib.hid (S7.out.put V5_7.out (.bool m1) (.slice b_0 n1 b_c) z5 (under_apart U5) (nums_apart rfl))
            have V5_8 := Lib.hid (V5_7.out.set m1 b_0 n1 b_c)
            have V4_8 := Lib.hid (V4_7.out.far (c := w3.heap.size) (by omega) (.bool m1) (.slice b_0 n1 b_c))
            clear S7 V4_7 V5_7 sb0 sb1 sb2 sb3
            refine hK.out _ _ ⟨S8.out.b.c, S8.out.b.t.c⟩ (fun h2 => ?_)
            clear hK K hH
            have hH := h2
            clear h2
            try simp only [nrm]
            refine anyH_world (fun w8 hW => ?_)
            rw [← hW] at S8 hH V4_8 V5_8
            clear hW
            refine wpAnyH_done (by kernel_rfl) ?_ _
            go_wp2_with fail
            go_meet
            case rel => exact ⟨_, _, _, _, _, _, rfl, rfl, (Live.add_box V4_8.out (Live.add_box V5_8.out S8.out.b)), (Live.add_sl S8.out.n.t.sl (Live.add_sl S8.out.n.sl S8.out.n.t.t)), S8.out.h⟩
    · go_simp
      have U5 := under_of S2.out.b
      have z5 := S2.out.h.size
      have S3 := Lib.hid (S2.out.step (below_alloc w2 (.cells #[.bool false, .slice none 0 0] 24)))
      have V5_3 := Lib.hid (Box.new w2 w2.heap.size false none 0 0 24 rfl)
      clear S2
      refine hK.out _ _ ⟨S3.out.b.c, S3.out.b.t.c⟩ (fun h2 => ?_)
      clear hK K hH
      have hH := h2
      clear h2
      try simp only [nrm]
      refine anyH_world (fun w3 hW => ?_)
      rw [← hW] at S3 hH V5_3
      clear hW
      refine wpAnyH_ready (rs := [1, 4]) (by kernel_rfl) (by simp) (ready_cons rfl (fun K hK => ?_) (ready_cons rfl (fun K hK => ?_) (AllReadyH.nil)))
      · go_simp
        refine (own_any S3.out.n.t.t.sl).mono ?_
        rintro e w4 ⟨a_0, a_c, rfl, hT, hB⟩
        have S4 := Lib.hid ((S3.out.step hB).sl hT)
        clear S3 hT
        have V5_4 := Lib.hid (V5_3.out.below hB)
        clear V5_3
        clear hB
        go_wp2_with fail
        refine hK.out _ _ ⟨S4.out.b.c, S4.out.b.t.c⟩ (fun h2 => ?_)
        clear hK K hH
        have hH := h2
        clear h2
        try simp only [nrm]
        refine wpAnyH_ready (rs := [3, 4]) (by kernel_rfl) (by simp) (ready_cons rfl (fun K hK => ?_) (ready_cons rfl (fun K hK => ?_) (AllReadyH.nil)))
        · go_simp
          refine (own_any S4.out.n.t.t.t.t.sl).mono ?_
          rintro e w5 ⟨b_0, b_c, rfl, hT, hB⟩
          have S5 := Lib.hid ((S4.out.step hB).sl hT)
          clear S4 hT
          have V5_5 := Lib.hid (V5_4.out.below hB)
          clear V5_4
          clear hB
          go_wp2_with fail
          refine hK.out _ _ ⟨S5.out.b.c, S5.out.b.t.c⟩ (fun h2 => ?_)
          clear hK K hH
          have hH := h2
          clear h2
          try simp only [nrm]
          refine wpAnyH_ready (rs := [4]) (by kernel_rfl) (by simp) (ready_cons rfl (fun K hK => ?_) (AllReadyH.nil))
          · go_simp
            have U4 := under_of S5.out.b
            have z4 := S5.out.h.size
            have S6 := Lib.hid (S5.out.step (below_alloc w5 (.cells #[.bool false, .slice none 0 0] 24)))
            have V4_6 := Lib.hid (Box.new w5 w5.heap.size false none 0 0 24 rfl)
            have ne5_4 := Nat.ne_of_lt V5_5.out.lt
            have V5_6 := Lib.hid (V5_5.out.below (below_alloc w5 (.cells #[.bool false, .slice none 0 0] 24)))
            clear V5_5
            clear S5
            refine hK.out _ _ ⟨S6.out.b.c, S6.out.b.t.c⟩ (fun h2 => ?_)
            clear hK K hH
            have hH := h2
            clear h2
            try simp only [nrm]
            refine anyH_world (fun w6 hW => ?_)
            rw [← hW] at S6 hH V5_6 V4_6
            clear hW
            have sb0 := V4_6.out.c0
            have sb1 := V4_6.out.c1
            have sb2 := V4_6.out.f0
            have sb3 := V4_6.out.f1
            refine step_one 6 rfl (by kernel_rfl) (fun K hK => ?_)
            go_simp
            have S7 := Lib.hid (S6.out.put V4_6.out (.bool m0) (.slice a_0 n0 a_c) z4 (under_apart U4) (nums_apart rfl))
            have V4_7 := Lib.hid (V4_6.out.set m0 a_0 n0 a_c)
            have V5_7 := Lib.hid (V5_6.out.far (c := w5.heap.size) (by omega) (.bool m0) (.slice a_0 n0 a_c))
            clear S6 V4_6 V5_6 sb0 sb1 sb2 sb3
            refine hK.out _ _ ⟨S7.out.b.c, S7.out.b.t.c⟩ (fun h2 => ?_)
            clear hK K hH
            have hH := h2
            clear h2
            try simp only [nrm]
            refine anyH_world (fun w7 hW => ?_)
            rw [← hW] at S7 hH V4_7 V5_7
            clear hW
            have sb0 := V5_7.out.c0
            have sb1 := V5_7.out.c1
            have sb2 := V5_7.out.f0
            have sb3 := V5_7.out.f1
            refine step_one 7 rfl (by kernel_rfl) (fun K hK => ?_)
            go_simp
            have S8 := Lib.hid (S7.out.put V5_7.out (.bool m1) (.slice b_0 n1 b_c) z5 (under_apart U5) (nums_apart rfl))
            have V5_8 := Lib.hid (V5_7.out.set m1 b_0 n1 b_c)
            have V4_8 := Lib.hid (V4_7.out.far (c := w2.heap.size) (by omega) (.bool m1) (.slice b_0 n1 b_c))
            clear S7 V4_7 V5_7 sb0 sb1 sb2 sb3
            refine hK.out _ _ ⟨S8.out.b.c, S8.out.b.t.c⟩ (fun h2 => ?_)
            clear hK K hH
            have hH := h2
            clear h2
            try simp only [nrm]
            refine anyH_world (fun w8 hW => ?_)
            rw [← hW] at S8 hH V4_8 V5_8
            clear hW
            refine wpAnyH_done (by kernel_rfl) ?_ _
            go_wp2_with fail
            go_meet
            case rel => exact ⟨_, _, _, _, _, _, rfl, rfl, (Live.add_box V4_8.out (Live.add_box V5_8.out S8.out.b)), (Live.add_sl S8.out.n.t.sl (Live.add_sl S8.out.n.sl S8.out.n.t.t)), S8.out.h⟩
        · go_simp
          have U4 := under_of S4.out.b
          have z4 := S4.out.h.size
          have S5 := Lib.hid (S4.out.step (below_alloc w4 (.cells #[.bool false, .slice none 0 0] 24)))
          have V4_5 := Lib.hid (Box.new w4 w4.heap.size false none 0 0 24 rfl)
          have ne5_4 := Nat.ne_of_lt V5_4.out.lt
          have V5_5 := Lib.hid (V5_4.out.below (below_alloc w4 (.cells #[.bool false, .slice none 0 0] 24)))
          clear V5_4
          clear S4
          refine hK.out _ _ ⟨S5.out.b.c, S5.out.b.t.c⟩ (fun h2 => ?_)
          clear hK K hH
          have hH := h2
          clear h2
          try simp only [nrm]
          refine anyH_world (fun w5 hW => ?_)
          rw [← hW] at S5 hH V5_5 V4_5
          clear hW
          refine wpAnyH_ready (rs := [3]) (by kernel_rfl) (by simp) (ready_cons rfl (fun K hK => ?_) (AllReadyH.nil))
          · go_simp
            refine (own_any S5.out.n.t.t.t.t.sl).mono ?_
            rintro e w6 ⟨b_0, b_c, rfl, hT, hB⟩
            have S6 := Lib.hid ((S5.out.step hB).sl hT)
            clear S5 hT
            have V5_6 := Lib.hid (V5_5.out.below hB)
            clear V5_5
            have V4_6 := Lib.hid (V4_5.out.below hB)
            clear V4_5
            clear hB
            go_wp2_with fail
            refine hK.out _ _ ⟨S6.out.b.c, S6.out.b.t.c⟩ (fun h2 => ?_)
            clear hK K hH
            have hH := h2
            clear h2
            try simp only [nrm]
            have sb0 := V4_6.out.c0
            have sb1 := V4_6.out.c1
            have sb2 := V4_6.out.f0
            have sb3 := V4_6.out.f1
            refine step_one 6 rfl (by kernel_rfl) (fun K hK => ?_)
            go_simp
            have S7 := Lib.hid (S6.out.put V4_6.out (.bool m0) (.slice a_0 n0 a_c) z4 (under_apart U4) (nums_apart rfl))
            have V4_7 := Lib.hid (V4_6.out.set m0 a_0 n0 a_c)
            have V5_7 := Lib.hid (V5_6.out.far (c := w4.heap.size) (by omega) (.bool m0) (.slice a_0 n0 a_c))
            clear S6 V4_6 V5_6 sb0 sb1 sb2 sb3
            refine hK.out _ _ ⟨S7.out.b.c, S7.out.b.t.c⟩ (fun h2 => ?_)
            clear hK K hH
            have hH := h2
            clear h2
            try simp only [nrm]
            refine anyH_world (fun w7 hW => ?_)
            rw [← hW] at S7 hH V4_7 V5_7
            clear hW
            have sb0 := V5_7.out.c0
            have sb1 := V5_7.out.c1
            have sb2 := V5_7.out.f0
            have sb3 := V5_7.out.f1
            refine step_one 7 rfl (by kernel_rfl) (fun K hK => ?_)
            go_simp
            have S8 := Lib.hid (S7.out.put V5_7.out (.bool m1) (.slice b_0 n1 b_c) z5 (under_apart U5) (nums_apart rfl))
            have V5_8 := Lib.hid (V5_7.out.set m1 b_0 n1 b_c)
            have V4_8 := Lib.hid (V4_7.out.far (c := w2.heap.size) (by omega) (.bool m1) (.slice b_0 n1 b_c))
            clear S7 V4_7 V5_7 sb0 sb1 sb2 sb3
            refine hK.out _ _ ⟨S8.out.b.c, S8.out.b.t.c⟩ (fun h2 => ?_)
            clear hK K hH
            have hH := h2
            clear h2
            try simp only [nrm]
            refine anyH_world (fun w8 hW => ?_)
            rw [← hW] at S8 hH V4_8 V5_8
            clear hW
            refine wpAnyH_done (by kernel_rfl) ?_ _
            go_wp2_with fail
            go_meet
            case rel => exact ⟨_, _, _, _, _, _, rfl, rfl, (Live.add_box V4_8.out (Live.add_box V5_8.out S8.out.b)), (Live.add_sl S8.out.n.t.sl (Live.add_sl S8.out.n.sl S8.out.n.t.t)), S8.out.h⟩
      · go_simp
        have U4 := under_of S3.out.b
        have z4 := S3.out.h.size
        have S4 := Lib.hid (S3.out.step (below_alloc w3 (.cells #[.bool false, .slice none 0 0] 24)))
        have V4_4 := Lib.hid (Box.new w3 w3.heap.size false none 0 0 24 rfl)
        have ne5_4 := Nat.ne_of_lt V5_3.out.lt
        have V5_4 := Lib.hid (V5_3.out.below (below_alloc w3 (.cells #[.bool false, .slice none 0 0] 24)))
        clear V5_3
        clear S3
        refine hK.out _ _ ⟨S4.out.b.c, S4.out.b.t.c⟩ (fun h2 => ?_)
        clear hK K hH
        have hH := h2
        clear h2
        try simp only [nrm]
        refine anyH_world (fun w4 hW => ?_)
        rw [← hW] at S4 hH V5_4 V4_4
        clear hW
        refine wpAnyH_ready (rs := [1]) (by kernel_rfl) (by simp) (ready_cons rfl (fun K hK => ?_) (AllReadyH.nil))
        · go_simp
          refine (own_any S4.out.n.t.t.sl).mono ?_
          rintro e w5 ⟨a_0, a_c, rfl, hT, hB⟩
          have S5 := Lib.hid ((S4.out.step hB).sl hT)
          clear S4 hT
          have V5_5 := Lib.hid (V5_4.out.below hB)
          clear V5_4
          have V4_5 := Lib.hid (V4_4.out.below hB)
          clear V4_4
          clear hB
          go_wp2_with fail
          refine hK.out _ _ ⟨S5.out.b.c, S5.out.b.t.c⟩ (fun h2 => ?_)
          clear hK K hH
          have hH := h2
          clear h2
          try simp only [nrm]
          refine wpAnyH_ready (rs := [3]) (by kernel_rfl) (by simp) (ready_cons rfl (fun K hK => ?_) (AllReadyH.nil))
          · go_simp
            refine (own_any S5.out.n.t.t.t.t.sl).mono ?_
            rintro e w6 ⟨b_0, b_c, rfl, hT, hB⟩
            have S6 := Lib.hid ((S5.out.step hB).sl hT)
            clear S5 hT
            have V5_6 := Lib.hid (V5_5.out.below hB)
            clear V5_5
            have V4_6 := Lib.hid (V4_5.out.below hB)
            clear V4_5
            clear hB
            go_wp2_with fail
            refine hK.out _ _ ⟨S6.out.b.c, S6.out.b.t.c⟩ (fun h2 => ?_)
            clear hK K hH
            have hH := h2
            clear h2
            try simp only [nrm]
            have sb0 := V4_6.out.c0
            have sb1 := V4_6.out.c1
            have sb2 := V4_6.out.f0
            have sb3 := V4_6.out.f1
            refine step_one 6 rfl (by kernel_rfl) (fun K hK => ?_)
            go_simp
            have S7 := Lib.hid (S6.out.put V4_6.out (.bool m0) (.slice a_0 n0 a_c) z4 (under_apart U4) (nums_apart rfl))
            have V4_7 := Lib.hid (V4_6.out.set m0 a_0 n0 a_c)
            have V5_7 := Lib.hid (V5_6.out.far (c := w3.heap.size) (by omega) (.bool m0) (.slice a_0 n0 a_c))
            clear S6 V4_6 V5_6 sb0 sb1 sb2 sb3
            refine hK.out _ _ ⟨S7.out.b.c, S7.out.b.t.c⟩ (fun h2 => ?_)
            clear hK K hH
            have hH := h2
            clear h2
            try simp only [nrm]
            refine anyH_world (fun w7 hW => ?_)
            rw [← hW] at S7 hH V4_7 V5_7
            clear hW
            have sb0 := V5_7.out.c0
            have sb1 := V5_7.out.c1
            have sb2 := V5_7.out.f0
            have sb3 := V5_7.out.f1
            refine step_one 7 rfl (by kernel_rfl) (fun K hK => ?_)
            go_simp
            have S8 := Lib.hid (S7.out.put V5_7.out (.bool m1) (.slice b_0 n1 b_c) z5 (under_apart U5) (nums_apart rfl))
            have V5_8 := Lib.hid (V5_7.out.set m1 b_0 n1 b_c)
            have V4_8 := Lib.hid (V4_7.out.far (c := w2.heap.size) (by omega) (.bool m1) (.slice b_0 n1 b_c))
            clear S7 V4_7 V5_7 sb0 sb1 sb2 sb3
            refine hK.out _ _ ⟨S8.out.b.c, S8.out.b.t.c⟩ (fun h2 => ?_)
            clear hK K hH
            have hH := h2
            clear h2
            try simp only [nrm]
            refine anyH_world (fun w8 hW => ?_)
            rw [← hW] at S8 hH V4_8 V5_8
            clear hW
            refine wpAnyH_done (by kernel_rfl) ?_ _
            go_wp2_with fail
            go_meet
            case rel => exact ⟨_, _, _, _, _, _, rfl, rfl, (Live.add_box V4_8.out (Live.add_box V5_8.out S8.out.b)), (Live.add_sl S8.out.n.t.sl (Live.add_sl S8.out.n.sl S8.out.n.t.t)), S8.out.h⟩
  case rest =>
  clear bx_0 bx_1 by_0 by_1
  clear S1
  obtain ⟨b_a, a_0, a_c, b_b, b_0, b_c, rfl, rfl, S2⟩ := hcut
  obtain ⟨w2, hW⟩ : ∃ w2, w2 = wc := ⟨_, rfl⟩
  rw [← hW] at S2 ⊢
  clear hW
  obtain ⟨bx_0, bx_1⟩ := S2.out.b.t.t.c
  obtain ⟨by_0, by_1⟩ := S2.out.b.t.t.t.c
  obtain ⟨b_a_0, b_a_1⟩ := S2.out.b.c
  obtain ⟨b_b_0, b_b_1⟩ := S2.out.b.t.c
  have bd_u : Bd (x) 25 := bd_x
  have bd_v : Bd (y) 25 := bd_y
  go_upto_region 4 with (fail)
  go_cut [9, 10] from 24 to 27 (fun sl0 sl1 w9 => ∃ (bb0 : Nat) (qm0 : Bool) (q0 : Option Addr) (qn0 : Nat) (qc0 : Nat) (bb1 : Nat) (qm1 : Bool) (q1 : Option Addr) (qn1 : Nat) (qc1 : Nat), sl0 = .pointer (some ⟨bb0, 0, none⟩) ∧ sl1 = .pointer (some ⟨bb1, 0, none⟩) ∧ Hid (St w w9 [.box bb0 qm0 q0 qn0 qc0, .box bb1 qm1 q1 qn1 qc1, .box b_a m0 a_0 n0 a_c, .box b_b m1 b_0 n1 b_c, .box (w.heap.size) m0 a0 n0 c0, .box (w.heap.size + 1) m1 a1 n1 c1] [.zed qm0 q0 qn0 qc0 x, .zed qm1 q1 qn1 qc1 y, .sl a_0 n0 a_c xs, .sl b_0 n1 b_c ys, .num m0 a0 n0 c0 x, .num m1 a1 n1 c1 y, .sl a0 n0 c0 xs, .sl a1 n1 c1 ys]))
  case first =>
    clear bx_0 bx_1 by_0 by_1 b_a_0 b_a_1 b_b_0 b_b_1
    have S3 := Lib.hid S2.out.drew
    clear S2
    refine wp_region_held_drew (S := fun w' => (w'.cell? ⟨(w.heap.size), 0, none⟩ = some (.bool m0) ∧ w'.cell? ⟨(w.heap.size), 1, none⟩ = some (.slice a0 n0 c0)) ∧ (w'.cell? ⟨(w.heap.size + 1), 0, none⟩ = some (.bool m1) ∧ w'.cell? ⟨(w.heap.size + 1), 1, none⟩ = some (.slice a1 n1 c1))) (by kernel_rfl) (⟨S3.out.b.t.t.c, S3.out.b.t.t.t.c⟩) (fun hH => ?_)
    refine anyH_world (fun w3 hW => ?_)
    rw [← hW] at S3 hH
    clear hW
    refine step_on 0 rfl (by kernel_rfl) (fun _ _ _ h => h) (by rfl) hH (by intro w hS; go_simp <;> with_reducible rfl) ?_
    try simp only [nrm]
    refine step_on 2 rfl (by kernel_rfl) (fun _ _ _ h => h) (by rfl) hH (by intro w hS; go_simp <;> with_reducible rfl) ?_
    try simp only [nrm]
    refine wpAnyH_ready (rs := [1, 4, 5]) (by kernel_rfl) (by simp) (ready_cons rfl (fun K hK => ?_) (ready_cons rfl (fun K hK => ?_) (ready_cons rfl (fun K hK => ?_) (AllReadyH.nil))))
    · go_simp
      refine (zof_any S3.out.n.t.t.num).mono ?_
      rintro e w4 ⟨u_m, u_0, u_n, u_c, rfl, hX, hB⟩
      have S4 := Lib.hid ((S3.out.step hB).zed (hX.zx bd_u (by omega)))
      clear S3 hX
      clear hB
      go_wp2_with fail
      refine hK.out _ _ ⟨S4.out.b.t.t.c, S4.out.b.t.t.t.c⟩ (fun h2 => ?_)
      clear hK K hH
      have hH := h2
      clear h2
      try simp only [nrm]
      refine wpAnyH_ready (rs := [3, 4, 5]) (by kernel_rfl) (by simp) (ready_cons rfl (fun K hK => ?_) (ready_cons rfl (fun K hK => ?_) (ready_cons rfl (fun K hK => ?_) (AllReadyH.nil))))
      · go_simp
        refine (zof_any S4.out.n.t.t.t.t.num).mono ?_
        rintro e w5 ⟨v_m, v_0, v_n, v_c, rfl, hX, hB⟩
        have S5 := Lib.hid ((S4.out.step hB).zed (hX.zx bd_v (by omega)))
        clear S4 hX
        clear hB
        go_wp2_with fail
        refine hK.out _ _ ⟨S5.out.b.t.t.c, S5.out.b.t.t.t.c⟩ (fun h2 => ?_)
        clear hK K hH
        have hH := h2
        clear h2
        try simp only [nrm]
        refine wpAnyH_ready (rs := [4, 5]) (by kernel_rfl) (by simp) (ready_cons rfl (fun K hK => ?_) (ready_cons rfl (fun K hK => ?_) (AllReadyH.nil)))
        · go_simp
          have U4 := under_of S5.out.b
          have z4 := S5.out.h.size
          have S6 := Lib.hid (S5.out.step (below_alloc w5 (.cells #[.bool false, .slice none 0 0] 31)))
          have V4_6 := Lib.hid (Box.new w5 w5.heap.size false none 0 0 31 rfl)
          clear S5
          refine hK.out _ _ ⟨S6.out.b.t.t.c, S6.out.b.t.t.t.c⟩ (fun h2 => ?_)
          clear hK K hH
          have hH := h2
          clear h2
          try simp only [nrm]
          refine anyH_world (fun w6 hW => ?_)
          rw [← hW] at S6 hH V4_6
          clear hW
          refine wpAnyH_ready (rs := [5]) (by kernel_rfl) (by simp) (ready_cons rfl (fun K hK => ?_) (AllReadyH.nil))
          · go_simp
            have U5 := under_of S6.out.b
            have z5 := S6.out.h.size
            have S7 := Lib.hid (S6.out.step (below_alloc w6 (.cells #[.bool false, .slice none 0 0] 31)))
            have V5_7 := Lib.hid (Box.new w6 w6.heap.size false none 0 0 31 rfl)
            have ne4_5 := Nat.ne_of_lt V4_6.out.lt
            have V4_7 := Lib.hid (V4_6.out.below (below_alloc w6 (.cells #[.bool false, .slice none 0 0] 31)))
            clear V4_6
            clear S6
            refine hK.out _ _ ⟨S7.out.b.t.t.c, S7.out.b.t.t.t.c⟩ (fun h2 => ?_)
            clear hK K hH
            have hH := h2
            clear h2
            try simp only [nrm]
            refine anyH_world (fun w7 hW => ?_)
            rw [← hW] at S7 hH V4_7 V5_7
            clear hW
            have sb0 := V4_7.out.c0
            have sb1 := V4_7.out.c1
            have sb2 := V4_7.out.f0
            have sb3 := V4_7.out.f1
            refine step_one 6 rfl (by kernel_rfl) (fun K hK => ?_)
            go_simp
            have S8 := Lib.hid (S7.out.put V4_7.out (.bool u_m) (.slice u_0 u_n u_c) z4 (under_apart U4) (nums_apart rfl))
            have V4_8 := Lib.hid (V4_7.out.set u_m u_0 u_n u_c)
            have V5_8 := Lib.hid (V5_7.out.far (c := w5.heap.size) (by omega) (.bool u_m) (.slice u_0 u_n u_c))
            clear S7 V4_7 V5_7 sb0 sb1 sb2 sb3
            refine hK.out _ _ ⟨S8.out.b.t.t.c, S8.out.b.t.t.t.c⟩ (fun h2 => ?_)
            clear hK K hH
            have hH := h2
            clear h2
            try simp only [nrm]
            refine anyH_world (fun w8 hW => ?_)
            rw [← hW] at S8 hH V4_8 V5_8
            clear hW
            have sb0 := V5_8.out.c0
            have sb1 := V5_8.out.c1
            have sb2 := V5_8.out.f0
            have sb3 := V5_8.out.f1
            refine step_one 7 rfl (by kernel_rfl) (fun K hK => ?_)
            go_simp
            have S9 := Lib.hid (S8.out.put V5_8.out (.bool v_m) (.slice v_0 v_n v_c) z5 (under_apart U5) (nums_apart rfl))
            have V5_9 := Lib.hid (V5_8.out.set v_m v_0 v_n v_c)
            have V4_9 := Lib.hid (V4_8.out.far (c := w6.heap.size) (by omega) (.bool v_m) (.slice v_0 v_n v_c))
            clear S8 V4_8 V5_8 sb0 sb1 sb2 sb3
            refine hK.out _ _ ⟨S9.out.b.t.t.c, S9.out.b.t.t.t.c⟩ (fun h2 => ?_)
            clear hK K hH
            have hH := h2
            clear h2
            try simp only [nrm]
            refine anyH_world (fun w9 hW => ?_)
            rw [← hW] at S9 hH V4_9 V5_9
            clear hW
            refine wpAnyH_done (by kernel_rfl) ?_ _
            go_wp2_with fail
            go_meet
            case rel => exact ⟨_, _, _, _, _, _, _, _, _, _, rfl, rfl, (Live.add_box V4_9.out (Live.add_box V5_9.out S9.out.b)), (Live.add_zed S9.out.n.t.zed (Live.add_zed S9.out.n.zed S9.out.n.t.t)), S9.out.h⟩
        · go_simp
          have U5 := under_of S5.out.b
          have z5 := S5.out.h.size
          have S6 := Lib.hid (S5.out.step (below_alloc w5 (.cells #[.bool false, .slice none 0 0] 31)))
          have V5_6 := Lib.hid (Box.new w5 w5.heap.size false none 0 0 31 rfl)
          clear S5
          refine hK.out _ _ ⟨S6.out.b.t.t.c, S6.out.b.t.t.t.c⟩ (fun h2 => ?_)
          clear hK K hH
          have hH := h2
          clear h2
          try simp only [nrm]
          refine anyH_world (fun w6 hW => ?_)
          rw [← hW] at S6 hH V5_6
          clear hW
          refine wpAnyH_ready (rs := [4]) (by kernel_rfl) (by simp) (ready_cons rfl (fun K hK => ?_) (AllReadyH.nil))
          · go_simp
            have U4 := under_of S6.out.b
            have z4 := S6.out.h.size
            have S7 := Lib.hid (S6.out.step (below_alloc w6 (.cells #[.bool false, .slice none 0 0] 31)))
            have V4_7 := Lib.hid (Box.new w6 w6.heap.size false none 0 0 31 rfl)
            have ne5_4 := Nat.ne_of_lt V5_6.out.lt
            have V5_7 := Lib.hid (V5_6.out.below (below_alloc w6 (.cells #[.bool false, .slice none 0 0] 31)))
            clear V5_6
            clear S6
            refine hK.out _ _ ⟨S7.out.b.t.t.c, S7.out.b.t.t.t.c⟩ (fun h2 => ?_)
            clear hK K hH
            have hH := h2
            clear h2
            try simp only [nrm]
            refine anyH_world (fun w7 hW => ?_)
            rw [← hW] at S7 hH V5_7 V4_7
            clear hW
            have sb0 := V4_7.out.c0
            have sb1 := V4_7.out.c1
            have sb2 := V4_7.out.f0
            have sb3 := V4_7.out.f1
            refine step_one 6 rfl (by kernel_rfl) (fun K hK => ?_)
            go_simp
            have S8 := Lib.hid (S7.out.put V4_7.out (.bool u_m) (.slice u_0 u_n u_c) z4 (under_apart U4) (nums_apart rfl))
            have V4_8 := Lib.hid (V4_7.out.set u_m u_0 u_n u_c)
            have V5_8 := Lib.hid (V5_7.out.far (c := w6.heap.size) (by omega) (.bool u_m) (.slice u_0 u_n u_c))
            clear S7 V4_7 V5_7 sb0 sb1 sb2 sb3
            refine hK.out _ _ ⟨S8.out.b.t.t.c, S8.out.b.t.t.t.c⟩ (fun h2 => ?_)
            clear hK K hH
            have hH := h2
            clear h2
            try simp only [nrm]
            refine anyH_world (fun w8 hW => ?_)
            rw [← hW] at S8 hH V4_8 V5_8
            clear hW
            have sb0 := V5_8.out.c0
            have sb1 := V5_8.out.c1
            have sb2 := V5_8.out.f0
            have sb3 := V5_8.out.f1
            refine step_one 7 rfl (by kernel_rfl) (fun K hK => ?_)
            go_simp
            have S9 := Lib.hid (S8.out.put V5_8.out (.bool v_m) (.slice v_0 v_n v_c) z5 (under_apart U5) (nums_apart rfl))
            have V5_9 := Lib.hid (V5_8.out.set v_m v_0 v_n v_c)
            have V4_9 := Lib.hid (V4_8.out.far (c := w5.heap.size) (by omega) (.bool v_m) (.slice v_0 v_n v_c))
            clear S8 V4_8 V5_8 sb0 sb1 sb2 sb3
            refine hK.out _ _ ⟨S9.out.b.t.t.c, S9.out.b.t.t.t.c⟩ (fun h2 => ?_)
            clear hK K hH
            have hH := h2
            clear h2
            try simp only [nrm]
            refine anyH_world (fun w9 hW => ?_)
            rw [← hW] at S9 hH V4_9 V5_9
            clear hW
            refine wpAnyH_done (by kernel_rfl) ?_ _
            go_wp2_with fail
            go_meet
            case rel => exact ⟨_, _, _, _, _, _, _, _, _, _, rfl, rfl, (Live.add_box V4_9.out (Live.add_box V5_9.out S9.out.b)), (Live.add_zed S9.out.n.t.zed (Live.add_zed S9.out.n.zed S9.out.n.t.t)), S9.out.h⟩
      · go_simp
        have U4 := under_of S4.out.b
        have z4 := S4.out.h.size
        have S5 := Lib.hid (S4.out.step (below_alloc w4 (.cells #[.bool false, .slice none 0 0] 31)))
        have V4_5 := Lib.hid (Box.new w4 w4.heap.size false none 0 0 31 rfl)
        clear S4
        refine hK.out _ _ ⟨S5.out.b.t.t.c, S5.out.b.t.t.t.c⟩ (fun h2 => ?_)
        clear hK K hH
        have hH := h2
        clear h2
        try simp only [nrm]
        refine anyH_world (fun w5 hW => ?_)
        rw [← hW] at S5 hH V4_5
        clear hW
        refine wpAnyH_ready (rs := [3, 5]) (by kernel_rfl) (by simp) (ready_cons rfl (fun K hK => ?_) (ready_cons rfl (fun K hK => ?_) (AllReadyH.nil)))
        · go_simp
          refine (zof_any S5.out.n.t.t.t.t.num).mono ?_
          rintro e w6 ⟨v_m, v_0, v_n, v_c, rfl, hX, hB⟩
          have S6 := Lib.hid ((S5.out.step hB).zed (hX.zx bd_v (by omega)))
          clear S5 hX
          have V4_6 := Lib.hid (V4_5.out.below hB)
          clear V4_5
          clear hB
          go_wp2_with fail
          refine hK.out _ _ ⟨S6.out.b.t.t.c, S6.out.b.t.t.t.c⟩ (fun h2 => ?_)
          clear hK K hH
          have hH := h2
          clear h2
          try simp only [nrm]
          refine wpAnyH_ready (rs := [5]) (by kernel_rfl) (by simp) (ready_cons rfl (fun K hK => ?_) (AllReadyH.nil))
          · go_simp
            have U5 := under_of S6.out.b
            have z5 := S6.out.h.size
            have S7 := Lib.hid (S6.out.step (below_alloc w6 (.cells #[.bool false, .slice none 0 0] 31)))
            have V5_7 := Lib.hid (Box.new w6 w6.heap.size false none 0 0 31 rfl)
            have ne4_5 := Nat.ne_of_lt V4_6.out.lt
            have V4_7 := Lib.hid (V4_6.out.below (below_alloc w6 (.cells #[.bool false, .slice none 0 0] 31)))
            clear V4_6
            clear S6
            refine hK.out _ _ ⟨S7.out.b.t.t.c, S7.out.b.t.t.t.c⟩ (fun h2 => ?_)
            clear hK K hH
            have hH := h2
            clear h2
            try simp only [nrm]
            refine anyH_world (fun w7 hW => ?_)
            rw [← hW] at S7 hH V4_7 V5_7
            clear hW
            have sb0 := V4_7.out.c0
            have sb1 := V4_7.out.c1
            have sb2 := V4_7.out.f0
            have sb3 := V4_7.out.f1
            refine step_one 6 rfl (by kernel_rfl) (fun K hK => ?_)
            go_simp
            have S8 := Lib.hid (S7.out.put V4_7.out (.bool u_m) (.slice u_0 u_n u_c) z4 (under_apart U4) (nums_apart rfl))
            have V4_8 := Lib.hid (V4_7.out.set u_m u_0 u_n u_c)
            have V5_8 := Lib.hid (V5_7.out.far (c := w4.heap.size) (by omega) (.bool u_m) (.slice u_0 u_n u_c))
            clear S7 V4_7 V5_7 sb0 sb1 sb2 sb3
            refine hK.out _ _ ⟨S8.out.b.t.t.c, S8.out.b.t.t.t.c⟩ (fun h2 => ?_)
            clear hK K hH
            have hH := h2
            clear h2
            try simp only [nrm]
            refine anyH_world (fun w8 hW => ?_)
            rw [← hW] at S8 hH V4_8 V5_8
            clear hW
            have sb0 := V5_8.out.c0
            have sb1 := V5_8.out.c1
            have sb2 := V5_8.out.f0
            have sb3 := V5_8.out.f1
            refine step_one 7 rfl (by kernel_rfl) (fun K hK => ?_)
            go_simp
            have S9 := Lib.hid (S8.out.put V5_8.out (.bool v_m) (.slice v_0 v_n v_c) z5 (under_apart U5) (nums_apart rfl))
            have V5_9 := Lib.hid (V5_8.out.set v_m v_0 v_n v_c)
            have V4_9 := Lib.hid (V4_8.out.far (c := w6.heap.size) (by omega) (.bool v_m) (.slice v_0 v_n v_c))
            clear S8 V4_8 V5_8 sb0 sb1 sb2 sb3
            refine hK.out _ _ ⟨S9.out.b.t.t.c, S9.out.b.t.t.t.c⟩ (fun h2 => ?_)
            clear hK K hH
            have hH := h2
            clear h2
            try simp only [nrm]
            refine anyH_world (fun w9 hW => ?_)
            rw [← hW] at S9 hH V4_9 V5_9
            clear hW
            refine wpAnyH_done (by kernel_rfl) ?_ _
            go_wp2_with fail
            go_meet
            case rel => exact ⟨_, _, _, _, _, _, _, _, _, _, rfl, rfl, (Live.add_box V4_9.out (Live.add_box V5_9.out S9.out.b)), (Live.add_zed S9.out.n.t.zed (Live.add_zed S9.out.n.zed S9.out.n.t.t)), S9.out.h⟩
        · go_simp
          have U5 := under_of S5.out.b
          have z5 := S5.out.h.size
          have S6 := Lib.hid (S5.out.step (below_alloc w5 (.cells #[.bool false, .slice none 0 0] 31)))
          have V5_6 := Lib.hid (Box.new w5 w5.heap.size false none 0 0 31 rfl)
          have ne4_5 := Nat.ne_of_lt V4_5.out.lt
          have V4_6 := Lib.hid (V4_5.out.below (below_alloc w5 (.cells #[.bool false, .slice none 0 0] 31)))
          clear V4_5
          clear S5
          refine hK.out _ _ ⟨S6.out.b.t.t.c, S6.out.b.t.t.t.c⟩ (fun h2 => ?_)
          clear hK K hH
          have hH := h2
          clear h2
          try simp only [nrm]
          refine anyH_world (fun w6 hW => ?_)
          rw [← hW] at S6 hH V4_6 V5_6
          clear hW
          refine wpAnyH_ready (rs := [3]) (by kernel_rfl) (by simp) (ready_cons rfl (fun K hK => ?_) (AllReadyH.nil))
          · go_simp
            refine (zof_any S6.out.n.t.t.t.t.num).mono ?_
            rintro e w7 ⟨v_m, v_0, v_n, v_c, rfl, hX, hB⟩
            have S7 := Lib.hid ((S6.out.step hB).zed (hX.zx bd_v (by omega)))
            clear S6 hX
            have V4_7 := Lib.hid (V4_6.out.below hB)
            clear V4_6
            have V5_7 := Lib.hid (V5_6.out.below hB)
            clear V5_6
            clear hB
            go_wp2_with fail
            refine hK.out _ _ ⟨S7.out.b.t.t.c, S7.out.b.t.t.t.c⟩ (fun h2 => ?_)
            clear hK K hH
            have hH := h2
            clear h2
            try simp only [nrm]
            have sb0 := V4_7.out.c0
            have sb1 := V4_7.out.c1
            have sb2 := V4_7.out.f0
            have sb3 := V4_7.out.f1
            refine step_one 6 rfl (by kernel_rfl) (fun K hK => ?_)
            go_simp
            have S8 := Lib.hid (S7.out.put V4_7.out (.bool u_m) (.slice u_0 u_n u_c) z4 (under_apart U4) (nums_apart rfl))
            have V4_8 := Lib.hid (V4_7.out.set u_m u_0 u_n u_c)
            have V5_8 := Lib.hid (V5_7.out.far (c := w4.heap.size) (by omega) (.bool u_m) (.slice u_0 u_n u_c))
            clear S7 V4_7 V5_7 sb0 sb1 sb2 sb3
            refine hK.out _ _ ⟨S8.out.b.t.t.c, S8.out.b.t.t.t.c⟩ (fun h2 => ?_)
            clear hK K hH
            have hH := h2
            clear h2
            try simp only [nrm]
            refine anyH_world (fun w8 hW => ?_)
            rw [← hW] at S8 hH V4_8 V5_8
            clear hW
            have sb0 := V5_8.out.c0
            have sb1 := V5_8.out.c1
            have sb2 := V5_8.out.f0
            have sb3 := V5_8.out.f1
            refine step_one 7 rfl (by kernel_rfl) (fun K hK => ?_)
            go_simp
            have S9 := Lib.hid (S8.out.put V5_8.out (.bool v_m) (.slice v_0 v_n v_c) z5 (under_apart U5) (nums_apart rfl))
            have V5_9 := Lib.hid (V5_8.out.set v_m v_0 v_n v_c)
            have V4_9 := Lib.hid (V4_8.out.far (c := w5.heap.size) (by omega) (.bool v_m) (.slice v_0 v_n v_c))
            clear S8 V4_8 V5_8 sb0 sb1 sb2 sb3
            refine hK.out _ _ ⟨S9.out.b.t.t.c, S9.out.b.t.t.t.c⟩ (fun h2 => ?_)
            clear hK K hH
            have hH := h2
            clear h2
            try simp only [nrm]
            refine anyH_world (fun w9 hW => ?_)
            rw [← hW] at S9 hH V4_9 V5_9
            clear hW
            refine wpAnyH_done (by kernel_rfl) ?_ _
            go_wp2_with fail
            go_meet
            case rel => exact ⟨_, _, _, _, _, _, _, _, _, _, rfl, rfl, (Live.add_box V4_9.out (Live.add_box V5_9.out S9.out.b)), (Live.add_zed S9.out.n.t.zed (Live.add_zed S9.out.n.zed S9.out.n.t.t)), S9.out.h⟩
      · go_simp
        have U5 := under_of S4.out.b
        have z5 := S4.out.h.size
        have S5 := Lib.hid (S4.out.step (below_alloc w4 (.cells #[.bool false, .slice none 0 0] 31)))
        have V5_5 := Lib.hid (Box.new w4 w4.heap.size false none 0 0 31 rfl)
        clear S4
        refine hK.out _ _ ⟨S5.out.b.t.t.c, S5.out.b.t.t.t.c⟩ (fun h2 => ?_)
        clear hK K hH
        have hH := h2
        clear h2
        try simp only [nrm]
        refine anyH_world (fun w5 hW => ?_)
        rw [← hW] at S5 hH V5_5
        clear hW
        refine wpAnyH_ready (rs := [3, 4]) (by kernel_rfl) (by simp) (ready_cons rfl (fun K hK => ?_) (ready_cons rfl (fun K hK => ?_) (AllReadyH.nil)))
        · go_simp
          refine (zof_any S5.out.n.t.t.t.t.num).mono ?_
          rintro e w6 ⟨v_m, v_0, v_n, v_c, rfl, hX, hB⟩
          have S6 := Lib.hid ((S5.out.step hB).zed (hX.zx bd_v (by omega)))
          clear S5 hX
          have V5_6 := Lib.hid (V5_5.out.below hB)
          clear V5_5
          clear hB
          go_wp2_with fail
          refine hK.out _ _ ⟨S6.out.b.t.t.c, S6.out.b.t.t.t.c⟩ (fun h2 => ?_)
          clear hK K hH
          have hH := h2
          clear h2
          try simp only [nrm]
          refine wpAnyH_ready (rs := [4]) (by kernel_rfl) (by simp) (ready_cons rfl (fun K hK => ?_) (AllReadyH.nil))
          · go_simp
            have U4 := under_of S6.out.b
            have z4 := S6.out.h.size
            have S7 := Lib.hid (S6.out.step (below_alloc w6 (.cells #[.bool false, .slice none 0 0] 31)))
            have V4_7 := Lib.hid (Box.new w6 w6.heap.size false none 0 0 31 rfl)
            have ne5_4 := Nat.ne_of_lt V5_6.out.lt
            have V5_7 := Lib.hid (V5_6.out.below (below_alloc w6 (.cells #[.bool false, .slice none 0 0] 31)))
            clear V5_6
            clear S6
            refine hK.out _ _ ⟨S7.out.b.t.t.c, S7.out.b.t.t.t.c⟩ (fun h2 => ?_)
            clear hK K hH
            have hH := h2
            clear h2
            try simp only [nrm]
            refine anyH_world (fun w7 hW => ?_)
            rw [← hW] at S7 hH V5_7 V4_7
            clear hW
            have sb0 := V4_7.out.c0
            have sb1 := V4_7.out.c1
            have sb2 := V4_7.out.f0
            have sb3 := V4_7.out.f1
            refine step_one 6 rfl (by kernel_rfl) (fun K hK => ?_)
            go_simp
            have S8 := Lib.hid (S7.out.put V4_7.out (.bool u_m) (.slice u_0 u_n u_c) z4 (under_apart U4) (nums_apart rfl))
            have V4_8 := Lib.hid (V4_7.out.set u_m u_0 u_n u_c)
            have V5_8 := Lib.hid (V5_7.out.far (c := w6.heap.size) (by omega) (.bool u_m) (.slice u_0 u_n u_c))
            clear S7 V4_7 V5_7 sb0 sb1 sb2 sb3
            refine hK.out _ _ ⟨S8.out.b.t.t.c, S8.out.b.t.t.t.c⟩ (fun h2 => ?_)
            clear hK K hH
            have hH := h2
            clear h2
            try simp only [nrm]
            refine anyH_world (fun w8 hW => ?_)
            rw [← hW] at S8 hH V4_8 V5_8
            clear hW
            have sb0 := V5_8.out.c0
            have sb1 := V5_8.out.c1
            have sb2 := V5_8.out.f0
            have sb3 := V5_8.out.f1
            refine step_one 7 rfl (by kernel_rfl) (fun K hK => ?_)
            go_simp
            have S9 := Lib.hid (S8.out.put V5_8.out (.bool v_m) (.slice v_0 v_n v_c) z5 (under_apart U5) (nums_apart rfl))
            have V5_9 := Lib.hid (V5_8.out.set v_m v_0 v_n v_c)
            have V4_9 := Lib.hid (V4_8.out.far (c := w4.heap.size) (by omega) (.bool v_m) (.slice v_0 v_n v_c))
            clear S8 V4_8 V5_8 sb0 sb1 sb2 sb3
            refine hK.out _ _ ⟨S9.out.b.t.t.c, S9.out.b.t.t.t.c⟩ (fun h2 => ?_)
            clear hK K hH
            have hH := h2
            clear h2
            try simp only [nrm]
            refine anyH_world (fun w9 hW => ?_)
            rw [← hW] at S9 hH V4_9 V5_9
            clear hW
            refine wpAnyH_done (by kernel_rfl) ?_ _
            go_wp2_with fail
            go_meet
            case rel => exact ⟨_, _, _, _, _, _, _, _, _, _, rfl, rfl, (Live.add_box V4_9.out (Live.add_box V5_9.out S9.out.b)), (Live.add_zed S9.out.n.t.zed (Live.add_zed S9.out.n.zed S9.out.n.t.t)), S9.out.h⟩
        · go_simp
          have U4 := under_of S5.out.b
          have z4 := S5.out.h.size
          have S6 := Lib.hid (S5.out.step (below_alloc w5 (.cells #[.bool false, .slice none 0 0] 31)))
          have V4_6 := Lib.hid (Box.new w5 w5.heap.size false none 0 0 31 rfl)
          have ne5_4 := Nat.ne_of_lt V5_5.out.lt
          have V5_6 := Lib.hid (V5_5.out.below (below_alloc w5 (.cells #[.bool false, .slice none 0 0] 31)))
          clear V5_5
          clear S5
          refine hK.out _ _ ⟨S6.out.b.t.t.c, S6.out.b.t.t.t.c⟩ (fun h2 => ?_)
          clear hK K hH
          have hH := h2
          clear h2
          try simp only [nrm]
          refine anyH_world (fun w6 hW => ?_)
          rw [← hW] at S6 hH V5_6 V4_6
          clear hW
          refine wpAnyH_ready (rs := [3]) (by kernel_rfl) (by simp) (ready_cons rfl (fun K hK => ?_) (AllReadyH.nil))
          · go_simp
            refine (zof_any S6.out.n.t.t.t.t.num).mono ?_
            rintro e w7 ⟨v_m, v_0, v_n, v_c, rfl, hX, hB⟩
            have S7 := Lib.hid ((S6.out.step hB).zed (hX.zx bd_v (by omega)))
            clear S6 hX
            have V5_7 := Lib.hid (V5_6.out.below hB)
            clear V5_6
            have V4_7 := Lib.hid (V4_6.out.below hB)
            clear V4_6
            clear hB
            go_wp2_with fail
            refine hK.out _ _ ⟨S7.out.b.t.t.c, S7.out.b.t.t.t.c⟩ (fun h2 => ?_)
            clear hK K hH
            have hH := h2
            clear h2
            try simp only [nrm]
            have sb0 := V4_7.out.c0
            have sb1 := V4_7.out.c1
            have sb2 := V4_7.out.f0
            have sb3 := V4_7.out.f1
            refine step_one 6 rfl (by kernel_rfl) (fun K hK => ?_)
            go_simp
            have S8 := Lib.hid (S7.out.put V4_7.out (.bool u_m) (.slice u_0 u_n u_c) z4 (under_apart U4) (nums_apart rfl))
            have V4_8 := Lib.hid (V4_7.out.set u_m u_0 u_n u_c)
            have V5_8 := Lib.hid (V5_7.out.far (c := w5.heap.size) (by omega) (.bool u_m) (.slice u_0 u_n u_c))
            clear S7 V4_7 V5_7 sb0 sb1 sb2 sb3
            refine hK.out _ _ ⟨S8.out.b.t.t.c, S8.out.b.t.t.t.c⟩ (fun h2 => ?_)
            clear hK K hH
            have hH := h2
            clear h2
            try simp only [nrm]
            refine anyH_world (fun w8 hW => ?_)
            rw [← hW] at S8 hH V4_8 V5_8
            clear hW
            have sb0 := V5_8.out.c0
            have sb1 := V5_8.out.c1
            have sb2 := V5_8.out.f0
            have sb3 := V5_8.out.f1
            refine step_one 7 rfl (by kernel_rfl) (fun K hK => ?_)
            go_simp
            have S9 := Lib.hid (S8.out.put V5_8.out (.bool v_m) (.slice v_0 v_n v_c) z5 (under_apart U5) (nums_apart rfl))
            have V5_9 := Lib.hid (V5_8.out.set v_m v_0 v_n v_c)
            have V4_9 := Lib.hid (V4_8.out.far (c := w4.heap.size) (by omega) (.bool v_m) (.slice v_0 v_n v_c))
            clear S8 V4_8 V5_8 sb0 sb1 sb2 sb3
            refine hK.out _ _ ⟨S9.out.b.t.t.c, S9.out.b.t.t.t.c⟩ (fun h2 => ?_)
            clear hK K hH
            have hH := h2
            clear h2
            try simp only [nrm]
            refine anyH_world (fun w9 hW => ?_)
            rw [← hW] at S9 hH V4_9 V5_9
            clear hW
            refine wpAnyH_done (by kernel_rfl) ?_ _
            go_wp2_with fail
            go_meet
            case rel => exact ⟨_, _, _, _, _, _, _, _, _, _, rfl, rfl, (Live.add_box V4_9.out (Live.add_box V5_9.out S9.out.b)), (Live.add_zed S9.out.n.t.zed (Live.add_zed S9.out.n.zed S9.out.n.t.t)), S9.out.h⟩
    · go_simp
      have U4 := under_of S3.out.b
      have z4 := S3.out.h.size
      have S4 := Lib.hid (S3.out.step (below_alloc w3 (.cells #[.bool false, .slice none 0 0] 31)))
      have V4_4 := Lib.hid (Box.new w3 w3.heap.size false none 0 0 31 rfl)
      clear S3
      refine hK.out _ _ ⟨S4.out.b.t.t.c, S4.out.b.t.t.t.c⟩ (fun h2 => ?_)
      clear hK K hH
      have hH := h2
      clear h2
      try simp only [nrm]
      refine anyH_world (fun w4 hW => ?_)
      rw [← hW] at S4 hH V4_4
      clear hW
      refine wpAnyH_ready (rs := [1, 5]) (by kernel_rfl) (by simp) (ready_cons rfl (fun K hK => ?_) (ready_cons rfl (fun K hK => ?_) (AllReadyH.nil)))
      · go_simp
        refine (zof_any S4.out.n.t.t.num).mono ?_
        rintro e w5 ⟨u_m, u_0, u_n, u_c, rfl, hX, hB⟩
        have S5 := Lib.hid ((S4.out.step hB).zed (hX.zx bd_u (by omega)))
        clear S4 hX
        have V4_5 := Lib.hid (V4_4.out.below hB)
        clear V4_4
        clear hB
        go_wp2_with fail
        refine hK.out _ _ ⟨S5.out.b.t.t.c, S5.out.b.t.t.t.c⟩ (fun h2 => ?_)
        clear hK K hH
        have hH := h2
        clear h2
        try simp only [nrm]
        refine wpAnyH_ready (rs := [3, 5]) (by kernel_rfl) (by simp) (ready_cons rfl (fun K hK => ?_) (ready_cons rfl (fun K hK => ?_) (AllReadyH.nil)))
        · go_simp
          refine (zof_any S5.out.n.t.t.t.t.num).mono ?_
          rintro e w6 ⟨v_m, v_0, v_n, v_c, rfl, hX, hB⟩
          have S6 := Lib.hid ((S5.out.step hB).zed (hX.zx bd_v (by omega)))
          clear S5 hX
          have V4_6 := Lib.hid (V4_5.out.below hB)
          clear V4_5
          clear hB
          go_wp2_with fail
          refine hK.out _ _ ⟨S6.out.b.t.t.c, S6.out.b.t.t.t.c⟩ (fun h2 => ?_)
          clear hK K hH
          have hH := h2
          clear h2
          try simp only [nrm]
          refine wpAnyH_ready (rs := [5]) (by kernel_rfl) (by simp) (ready_cons rfl (fun K hK => ?_) (AllReadyH.nil))
          · go_simp
            have U5 := under_of S6.out.b
            have z5 := S6.out.h.size
            have S7 := Lib.hid (S6.out.step (below_alloc w6 (.cells #[.bool false, .slice none 0 0] 31)))
            have V5_7 := Lib.hid (Box.new w6 w6.heap.size false none 0 0 31 rfl)
            have ne4_5 := Nat.ne_of_lt V4_6.out.lt
            have V4_7 := Lib.hid (V4_6.out.below (below_alloc w6 (.cells #[.bool false, .slice none 0 0] 31)))
            clear V4_6
            clear S6
            refine hK.out _ _ ⟨S7.out.b.t.t.c, S7.out.b.t.t.t.c⟩ (fun h2 => ?_)
            clear hK K hH
            have hH := h2
            clear h2
            try simp only [nrm]
            refine anyH_world (fun w7 hW => ?_)
            rw [← hW] at S7 hH V4_7 V5_7
            clear hW
            have sb0 := V4_7.out.c0
            have sb1 := V4_7.out.c1
            have sb2 := V4_7.out.f0
            have sb3 := V4_7.out.f1
            refine step_one 6 rfl (by kernel_rfl) (fun K hK => ?_)
            go_simp
            have S8 := Lib.hid (S7.out.put V4_7.out (.bool u_m) (.slice u_0 u_n u_c) z4 (under_apart U4) (nums_apart rfl))
            have V4_8 := Lib.hid (V4_7.out.set u_m u_0 u_n u_c)
            have V5_8 := Lib.hid (V5_7.out.far (c := w3.heap.size) (by omega) (.bool u_m) (.slice u_0 u_n u_c))
            clear S7 V4_7 V5_7 sb0 sb1 sb2 sb3
            refine hK.out _ _ ⟨S8.out.b.t.t.c, S8.out.b.t.t.t.c⟩ (fun h2 => ?_)
            clear hK K hH
            have hH := h2
            clear h2
            try simp only [nrm]
            refine anyH_world (fun w8 hW => ?_)
            rw [← hW] at S8 hH V4_8 V5_8
            clear hW
            have sb0 := V5_8.out.c0
            have sb1 := V5_8.out.c1
            have sb2 := V5_8.out.f0
            have sb3 := V5_8.out.f1
            refine step_one 7 rfl (by kernel_rfl) (fun K hK => ?_)
            go_simp
            have S9 := Lib.hid (S8.out.put V5_8.out (.bool v_m) (.slice v_0 v_n v_c) z5 (under_apart U5) (nums_apart rfl))
            have V5_9 := Lib.hid (V5_8.out.set v_m v_0 v_n v_c)
            have V4_9 := Lib.hid (V4_8.out.far (c := w6.heap.size) (by omega) (.bool v_m) (.slice v_0 v_n v_c))
            clear S8 V4_8 V5_8 sb0 sb1 sb2 sb3
            refine hK.out _ _ ⟨S9.out.b.t.t.c, S9.out.b.t.t.t.c⟩ (fun h2 => ?_)
            clear hK K hH
            have hH := h2
            clear h2
            try simp only [nrm]
            refine anyH_world (fun w9 hW => ?_)
            rw [← hW] at S9 hH V4_9 V5_9
            clear hW
            refine wpAnyH_done (by kernel_rfl) ?_ _
            go_wp2_with fail
            go_meet
            case rel => exact ⟨_, _, _, _, _, _, _, _, _, _, rfl, rfl, (Live.add_box V4_9.out (Live.add_box V5_9.out S9.out.b)), (Live.add_zed S9.out.n.t.zed (Live.add_zed S9.out.n.zed S9.out.n.t.t)), S9.out.h⟩
        · go_simp
          have U5 := under_of S5.out.b
          have z5 := S5.out.h.size
          have S6 := Lib.hid (S5.out.step (below_alloc w5 (.cells #[.bool false, .slice none 0 0] 31)))
          have V5_6 := Lib.hid (Box.new w5 w5.heap.size false none 0 0 31 rfl)
          have ne4_5 := Nat.ne_of_lt V4_5.out.lt
          have V4_6 := Lib.hid (V4_5.out.below (below_alloc w5 (.cells #[.bool false, .slice none 0 0] 31)))
          clear V4_5
          clear S5
          refine hK.out _ _ ⟨S6.out.b.t.t.c, S6.out.b.t.t.t.c⟩ (fun h2 => ?_)
          clear hK K hH
          have hH := h2
          clear h2
          try simp only [nrm]
          refine anyH_world (fun w6 hW => ?_)
          rw [← hW] at S6 hH V4_6 V5_6
          clear hW
          refine wpAnyH_ready (rs := [3]) (by kernel_rfl) (by simp) (ready_cons rfl (fun K hK => ?_) (AllReadyH.nil))
          · go_simp
            refine (zof_any S6.out.n.t.t.t.t.num).mono ?_
            rintro e w7 ⟨v_m, v_0, v_n, v_c, rfl, hX, hB⟩
            have S7 := Lib.hid ((S6.out.step hB).zed (hX.zx bd_v (by omega)))
            clear S6 hX
            have V4_7 := Lib.hid (V4_6.out.below hB)
            clear V4_6
            have V5_7 := Lib.hid (V5_6.out.below hB)
            clear V5_6
            clear hB
            go_wp2_with fail
            refine hK.out _ _ ⟨S7.out.b.t.t.c, S7.out.b.t.t.t.c⟩ (fun h2 => ?_)
            clear hK K hH
            have hH := h2
            clear h2
            try simp only [nrm]
            have sb0 := V4_7.out.c0
            have sb1 := V4_7.out.c1
            have sb2 := V4_7.out.f0
            have sb3 := V4_7.out.f1
            refine step_one 6 rfl (by kernel_rfl) (fun K hK => ?_)
            go_simp
            have S8 := Lib.hid (S7.out.put V4_7.out (.bool u_m) (.slice u_0 u_n u_c) z4 (under_apart U4) (nums_apart rfl))
            have V4_8 := Lib.hid (V4_7.out.set u_m u_0 u_n u_c)
            have V5_8 := Lib.hid (V5_7.out.far (c := w3.heap.size) (by omega) (.bool u_m) (.slice u_0 u_n u_c))
            clear S7 V4_7 V5_7 sb0 sb1 sb2 sb3
            refine hK.out _ _ ⟨S8.out.b.t.t.c, S8.out.b.t.t.t.c⟩ (fun h2 => ?_)
            clear hK K hH
            have hH := h2
            clear h2
            try simp only [nrm]
            refine anyH_world (fun w8 hW => ?_)
            rw [← hW] at S8 hH V4_8 V5_8
            clear hW
            have sb0 := V5_8.out.c0
            have sb1 := V5_8.out.c1
            have sb2 := V5_8.out.f0
            have sb3 := V5_8.out.f1
            refine step_one 7 rfl (by kernel_rfl) (fun K hK => ?_)
            go_simp
            have S9 := Lib.hid (S8.out.put V5_8.out (.bool v_m) (.slice v_0 v_n v_c) z5 (under_apart U5) (nums_apart rfl))
            have V5_9 := Lib.hid (V5_8.out.set v_m v_0 v_n v_c)
            have V4_9 := Lib.hid (V4_8.out.far (c := w5.heap.size) (by omega) (.bool v_m) (.slice v_0 v_n v_c))
            clear S8 V4_8 V5_8 sb0 sb1 sb2 sb3
            refine hK.out _ _ ⟨S9.out.b.t.t.c, S9.out.b.t.t.t.c⟩ (fun h2 => ?_)
            clear hK K hH
            have hH := h2
            clear h2
            try simp only [nrm]
            refine anyH_world (fun w9 hW => ?_)
            rw [← hW] at S9 hH V4_9 V5_9
            clear hW
            refine wpAnyH_done (by kernel_rfl) ?_ _
            go_wp2_with fail
            go_meet
            case rel => exact ⟨_, _, _, _, _, _, _, _, _, _, rfl, rfl, (Live.add_box V4_9.out (Live.add_box V5_9.out S9.out.b)), (Live.add_zed S9.out.n.t.zed (Live.add_zed S9.out.n.zed S9.out.n.t.t)), S9.out.h⟩
      · go_simp
        have U5 := under_of S4.out.b
        have z5 := S4.out.h.size
        have S5 := Lib.hid (S4.out.step (below_alloc w4 (.cells #[.bool false, .slice none 0 0] 31)))
        have V5_5 := Lib.hid (Box.new w4 w4.heap.size false none 0 0 31 rfl)
        have ne4_5 := Nat.ne_of_lt V4_4.out.lt
        have V4_5 := Lib.hid (V4_4.out.below (below_alloc w4 (.cells #[.bool false, .slice none 0 0] 31)))
        clear V4_4
        clear S4
        refine hK.out _ _ ⟨S5.out.b.t.t.c, S5.out.b.t.t.t.c⟩ (fun h2 => ?_)
        clear hK K hH
        have hH := h2
        clear h2
        try simp only [nrm]
        refine anyH_world (fun w5 hW => ?_)
        rw [← hW] at S5 hH V4_5 V5_5
        clear hW
        refine wpAnyH_ready (rs := [1]) (by kernel_rfl) (by simp) (ready_cons rfl (fun K hK => ?_) (AllReadyH.nil))
        · go_simp
          refine (zof_any S5.out.n.t.t.num).mono ?_
          rintro e w6 ⟨u_m, u_0, u_n, u_c, rfl, hX, hB⟩
          have S6 := Lib.hid ((S5.out.step hB).zed (hX.zx bd_u (by omega)))
          clear S5 hX
          have V4_6 := Lib.hid (V4_5.out.below hB)
          clear V4_5
          have V5_6 := Lib.hid (V5_5.out.below hB)
          clear V5_5
          clear hB
          go_wp2_with fail
          refine hK.out _ _ ⟨S6.out.b.t.t.c, S6.out.b.t.t.t.c⟩ (fun h2 => ?_)
          clear hK K hH
          have hH := h2
          clear h2
          try simp only [nrm]
          refine wpAnyH_ready (rs := [3]) (by kernel_rfl) (by simp) (ready_cons rfl (fun K hK => ?_) (AllReadyH.nil))
          · go_simp
            refine (zof_any S6.out.n.t.t.t.t.num).mono ?_
            rintro e w7 ⟨v_m, v_0, v_n, v_c, rfl, hX, hB⟩
            have S7 := Lib.hid ((S6.out.step hB).zed (hX.zx bd_v (by omega)))
            clear S6 hX
            have V4_7 := Lib.hid (V4_6.out.below hB)
            clear V4_6
            have V5_7 := Lib.hid (V5_6.out.below hB)
            clear V5_6
            clear hB
            go_wp2_with fail
            refine hK.out _ _ ⟨S7.out.b.t.t.c, S7.out.b.t.t.t.c⟩ (fun h2 => ?_)
            clear hK K hH
            have hH := h2
            clear h2
            try simp only [nrm]
            have sb0 := V4_7.out.c0
            have sb1 := V4_7.out.c1
            have sb2 := V4_7.out.f0
            have sb3 := V4_7.out.f1
            refine step_one 6 rfl (by kernel_rfl) (fun K hK => ?_)
            go_simp
            have S8 := Lib.hid (S7.out.put V4_7.out (.bool u_m) (.slice u_0 u_n u_c) z4 (under_apart U4) (nums_apart rfl))
            have V4_8 := Lib.hid (V4_7.out.set u_m u_0 u_n u_c)
            have V5_8 := Lib.hid (V5_7.out.far (c := w3.heap.size) (by omega) (.bool u_m) (.slice u_0 u_n u_c))
            clear S7 V4_7 V5_7 sb0 sb1 sb2 sb3
            refine hK.out _ _ ⟨S8.out.b.t.t.c, S8.out.b.t.t.t.c⟩ (fun h2 => ?_)
            clear hK K hH
            have hH := h2
            clear h2
            try simp only [nrm]
            refine anyH_world (fun w8 hW => ?_)
            rw [← hW] at S8 hH V4_8 V5_8
            clear hW
            have sb0 := V5_8.out.c0
            have sb1 := V5_8.out.c1
            have sb2 := V5_8.out.f0
            have sb3 := V5_8.out.f1
            refine step_one 7 rfl (by kernel_rfl) (fun K hK => ?_)
            go_simp
            have S9 := Lib.hid (S8.out.put V5_8.out (.bool v_m) (.slice v_0 v_n v_c) z5 (under_apart U5) (nums_apart rfl))
            have V5_9 := Lib.hid (V5_8.out.set v_m v_0 v_n v_c)
            have V4_9 := Lib.hid (V4_8.out.far (c := w4.heap.size) (by omega) (.bool v_m) (.slice v_0 v_n v_c))
            clear S8 V4_8 V5_8 sb0 sb1 sb2 sb3
            refine hK.out _ _ ⟨S9.out.b.t.t.c, S9.out.b.t.t.t.c⟩ (fun h2 => ?_)
            clear hK K hH
            have hH := h2
            clear h2
            try simp only [nrm]
            refine anyH_world (fun w9 hW => ?_)
            rw [← hW] at S9 hH V4_9 V5_9
            clear hW
            refine wpAnyH_done (by kernel_rfl) ?_ _
            go_wp2_with fail
            go_meet
            case rel => exact ⟨_, _, _, _, _, _, _, _, _, _, rfl, rfl, (Live.add_box V4_9.out (Live.add_box V5_9.out S9.out.b)), (Live.add_zed S9.out.n.t.zed (Live.add_zed S9.out.n.zed S9.out.n.t.t)), S9.out.h⟩
    · go_simp
      have U5 := under_of S3.out.b
      have z5 := S3.out.h.size
      have S4 := Lib.hid (S3.out.step (below_alloc w3 (.cells #[.bool false, .slice none 0 0] 31)))
      have V5_4 := Lib.hid (Box.new w3 w3.heap.size false none 0 0 31 rfl)
      clear S3
      refine hK.out _ _ ⟨S4.out.b.t.t.c, S4.out.b.t.t.t.c⟩ (fun h2 => ?_)
      clear hK K hH
      have hH := h2
      clear h2
      try simp only [nrm]
      refine anyH_world (fun w4 hW => ?_)
      rw [← hW] at S4 hH V5_4
      clear hW
      refine wpAnyH_ready (rs := [1, 4]) (by kernel_rfl) (by simp) (ready_cons rfl (fun K hK => ?_) (ready_cons rfl (fun K hK => ?_) (AllReadyH.nil)))
      · go_simp
        refine (zof_any S4.out.n.t.t.num).mono ?_
        rintro e w5 ⟨u_m, u_0, u_n, u_c, rfl, hX, hB⟩
        have S5 := Lib.hid ((S4.out.step hB).zed (hX.zx bd_u (by omega)))
        clear S4 hX
        have V5_5 := Lib.hid (V5_4.out.below hB)
        clear V5_4
        clear hB
        go_wp2_with fail
        refine hK.out _ _ ⟨S5.out.b.t.t.c, S5.out.b.t.t.t.c⟩ (fun h2 => ?_)
        clear hK K hH
        have hH := h2
        clear h2
        try simp only [nrm]
        refine wpAnyH_ready (rs := [3, 4]) (by kernel_rfl) (by simp) (ready_cons rfl (fun K hK => ?_) (ready_cons rfl (fun K hK => ?_) (AllReadyH.nil)))
        · go_simp
          refine (zof_any S5.out.n.t.t.t.t.num).mono ?_
          rintro e w6 ⟨v_m, v_0, v_n, v_c, rfl, hX, hB⟩
          have S6 := Lib.hid ((S5.out.step hB).zed (hX.zx bd_v (by omega)))
          clear S5 hX
          have V5_6 := Lib.hid (V5_5.out.below hB)
          clear V5_5
          clear hB
          go_wp2_with fail
          refine hK.out _ _ ⟨S6.out.b.t.t.c, S6.out.b.t.t.t.c⟩ (fun h2 => ?_)
          clear hK K hH
          have hH := h2
          clear h2
          try simp only [nrm]
          refine wpAnyH_ready (rs := [4]) (by kernel_rfl) (by simp) (ready_cons rfl (fun K hK => ?_) (AllReadyH.nil))
          · go_simp
            have U4 := under_of S6.out.b
            have z4 := S6.out.h.size
            have S7 := Lib.hid (S6.out.step (below_alloc w6 (.cells #[.bool false, .slice none 0 0] 31)))
            have V4_7 := Lib.hid (Box.new w6 w6.heap.size false none 0 0 31 rfl)
            have ne5_4 := Nat.ne_of_lt V5_6.out.lt
            have V5_7 := Lib.hid (V5_6.out.below (below_alloc w6 (.cells #[.bool false, .slice none 0 0] 31)))
            clear V5_6
            clear S6
            refine hK.out _ _ ⟨S7.out.b.t.t.c, S7.out.b.t.t.t.c⟩ (fun h2 => ?_)
            clear hK K hH
            have hH := h2
            clear h2
            try simp only [nrm]
            refine anyH_world (fun w7 hW => ?_)
            rw [← hW] at S7 hH V5_7 V4_7
            clear hW
            have sb0 := V4_7.out.c0
            have sb1 := V4_7.out.c1
            have sb2 := V4_7.out.f0
            have sb3 := V4_7.out.f1
            refine step_one 6 rfl (by kernel_rfl) (fun K hK => ?_)
            go_simp
            have S8 := Lib.hid (S7.out.put V4_7.out (.bool u_m) (.slice u_0 u_n u_c) z4 (under_apart U4) (nums_apart rfl))
            have V4_8 := Lib.hid (V4_7.out.set u_m u_0 u_n u_c)
            have V5_8 := Lib.hid (V5_7.out.far (c := w6.heap.size) (by omega) (.bool u_m) (.slice u_0 u_n u_c))
            clear S7 V4_7 V5_7 sb0 sb1 sb2 sb3
            refine hK.out _ _ ⟨S8.out.b.t.t.c, S8.out.b.t.t.t.c⟩ (fun h2 => ?_)
            clear hK K hH
            have hH := h2
            clear h2
            try simp only [nrm]
            refine anyH_world (fun w8 hW => ?_)
            rw [← hW] at S8 hH V4_8 V5_8
            clear hW
            have sb0 := V5_8.out.c0
            have sb1 := V5_8.out.c1
            have sb2 := V5_8.out.f0
            have sb3 := V5_8.out.f1
            refine step_one 7 rfl (by kernel_rfl) (fun K hK => ?_)
            go_simp
            have S9 := Lib.hid (S8.out.put V5_8.out (.bool v_m) (.slice v_0 v_n v_c) z5 (under_apart U5) (nums_apart rfl))
            have V5_9 := Lib.hid (V5_8.out.set v_m v_0 v_n v_c)
            have V4_9 := Lib.hid (V4_8.out.far (c := w3.heap.size) (by omega) (.bool v_m) (.slice v_0 v_n v_c))
            clear S8 V4_8 V5_8 sb0 sb1 sb2 sb3
            refine hK.out _ _ ⟨S9.out.b.t.t.c, S9.out.b.t.t.t.c⟩ (fun h2 => ?_)
            clear hK K hH
            have hH := h2
            clear h2
            try simp only [nrm]
            refine anyH_world (fun w9 hW => ?_)
            rw [← hW] at S9 hH V4_9 V5_9
            clear hW
            refine wpAnyH_done (by kernel_rfl) ?_ _
            go_wp2_with fail
            go_meet
            case rel => exact ⟨_, _, _, _, _, _, _, _, _, _, rfl, rfl, (Live.add_box V4_9.out (Live.add_box V5_9.out S9.out.b)), (Live.add_zed S9.out.n.t.zed (Live.add_zed S9.out.n.zed S9.out.n.t.t)), S9.out.h⟩
        · go_simp
          have U4 := under_of S5.out.b
          have z4 := S5.out.h.size
          have S6 := Lib.hid (S5.out.step (below_alloc w5 (.cells #[.bool false, .slice none 0 0] 31)))
          have V4_6 := Lib.hid (Box.new w5 w5.heap.size false none 0 0 31 rfl)
          have ne5_4 := Nat.ne_of_lt V5_5.out.lt
          have V5_6 := Lib.hid (V5_5.out.below (below_alloc w5 (.cells #[.bool false, .slice none 0 0] 31)))
          clear V5_5
          clear S5
          refine hK.out _ _ ⟨S6.out.b.t.t.c, S6.out.b.t.t.t.c⟩ (fun h2 => ?_)
          clear hK K hH
          have hH := h2
          clear h2
          try simp only [nrm]
          refine anyH_world (fun w6 hW => ?_)
          rw [← hW] at S6 hH V5_6 V4_6
          clear hW
          refine wpAnyH_ready (rs := [3]) (by kernel_rfl) (by simp) (ready_cons rfl (fun K hK => ?_) (AllReadyH.nil))
          · go_simp
            refine (zof_any S6.out.n.t.t.t.t.num).mono ?_
            rintro e w7 ⟨v_m, v_0, v_n, v_c, rfl, hX, hB⟩
            have S7 := Lib.hid ((S6.out.step hB).zed (hX.zx bd_v (by omega)))
            clear S6 hX
            have V5_7 := Lib.hid (V5_6.out.below hB)
            clear V5_6
            have V4_7 := Lib.hid (V4_6.out.below hB)
            clear V4_6
            clear hB
            go_wp2_with fail
            refine hK.out _ _ ⟨S7.out.b.t.t.c, S7.out.b.t.t.t.c⟩ (fun h2 => ?_)
            clear hK K hH
            have hH := h2
            clear h2
            try simp only [nrm]
            have sb0 := V4_7.out.c0
            have sb1 := V4_7.out.c1
            have sb2 := V4_7.out.f0
            have sb3 := V4_7.out.f1
            refine step_one 6 rfl (by kernel_rfl) (fun K hK => ?_)
            go_simp
            have S8 := Lib.hid (S7.out.put V4_7.out (.bool u_m) (.slice u_0 u_n u_c) z4 (under_apart U4) (nums_apart rfl))
            have V4_8 := Lib.hid (V4_7.out.set u_m u_0 u_n u_c)
            have V5_8 := Lib.hid (V5_7.out.far (c := w5.heap.size) (by omega) (.bool u_m) (.slice u_0 u_n u_c))
            clear S7 V4_7 V5_7 sb0 sb1 sb2 sb3
            refine hK.out _ _ ⟨S8.out.b.t.t.c, S8.out.b.t.t.t.c⟩ (fun h2 => ?_)
            clear hK K hH
            have hH := h2
            clear h2
            try simp only [nrm]
            refine anyH_world (fun w8 hW => ?_)
            rw [← hW] at S8 hH V4_8 V5_8
            clear hW
            have sb0 := V5_8.out.c0
            have sb1 := V5_8.out.c1
            have sb2 := V5_8.out.f0
            have sb3 := V5_8.out.f1
            refine step_one 7 rfl (by kernel_rfl) (fun K hK => ?_)
            go_simp
            have S9 := Lib.hid (S8.out.put V5_8.out (.bool v_m) (.slice v_0 v_n v_c) z5 (under_apart U5) (nums_apart rfl))
            have V5_9 := Lib.hid (V5_8.out.set v_m v_0 v_n v_c)
            have V4_9 := Lib.hid (V4_8.out.far (c := w3.heap.size) (by omega) (.bool v_m) (.slice v_0 v_n v_c))
            clear S8 V4_8 V5_8 sb0 sb1 sb2 sb3
            refine hK.out _ _ ⟨S9.out.b.t.t.c, S9.out.b.t.t.t.c⟩ (fun h2 => ?_)
            clear hK K hH
            have hH := h2
            clear h2
            try simp only [nrm]
            refine anyH_world (fun w9 hW => ?_)
            rw [← hW] at S9 hH V4_9 V5_9
            clear hW
            refine wpAnyH_done (by kernel_rfl) ?_ _
            go_wp2_with fail
            go_meet
            case rel => exact ⟨_, _, _, _, _, _, _, _, _, _, rfl, rfl, (Live.add_box V4_9.out (Live.add_box V5_9.out S9.out.b)), (Live.add_zed S9.out.n.t.zed (Live.add_zed S9.out.n.zed S9.out.n.t.t)), S9.out.h⟩
      · go_simp
        have U4 := under_of S4.out.b
        have z4 := S4.out.h.size
        have S5 := Lib.hid (S4.out.step (below_alloc w4 (.cells #[.bool false, .slice none 0 0] 31)))
        have V4_5 := Lib.hid (Box.new w4 w4.heap.size false none 0 0 31 rfl)
        have ne5_4 := Nat.ne_of_lt V5_4.out.lt
        have V5_5 := Lib.hid (V5_4.out.below (below_alloc w4 (.cells #[.bool false, .slice none 0 0] 31)))
        clear V5_4
        clear S4
        refine hK.out _ _ ⟨S5.out.b.t.t.c, S5.out.b.t.t.t.c⟩ (fun h2 => ?_)
        clear hK K hH
        have hH := h2
        clear h2
        try simp only [nrm]
        refine anyH_world (fun w5 hW => ?_)
        rw [← hW] at S5 hH V5_5 V4_5
        clear hW
        refine wpAnyH_ready (rs := [1]) (by kernel_rfl) (by simp) (ready_cons rfl (fun K hK => ?_) (AllReadyH.nil))
        · go_simp
          refine (zof_any S5.out.n.t.t.num).mono ?_
          rintro e w6 ⟨u_m, u_0, u_n, u_c, rfl, hX, hB⟩
          have S6 := Lib.hid ((S5.out.step hB).zed (hX.zx bd_u (by omega)))
          clear S5 hX
          have V5_6 := Lib.hid (V5_5.out.below hB)
          clear V5_5
          have V4_6 := Lib.hid (V4_5.out.below hB)
          clear V4_5
          clear hB
          go_wp2_with fail
          refine hK.out _ _ ⟨S6.out.b.t.t.c, S6.out.b.t.t.t.c⟩ (fun h2 => ?_)
          clear hK K hH
          have hH := h2
          clear h2
          try simp only [nrm]
          refine wpAnyH_ready (rs := [3]) (by kernel_rfl) (by simp) (ready_cons rfl (fun K hK => ?_) (AllReadyH.nil))
          · go_simp
            refine (zof_any S6.out.n.t.t.t.t.num).mono ?_
            rintro e w7 ⟨v_m, v_0, v_n, v_c, rfl, hX, hB⟩
            have S7 := Lib.hid ((S6.out.step hB).zed (hX.zx bd_v (by omega)))
            clear S6 hX
            have V5_7 := Lib.hid (V5_6.out.below hB)
            clear V5_6
            have V4_7 := Lib.hid (V4_6.out.below hB)
            clear V4_6
            clear hB
            go_wp2_with fail
            refine hK.out _ _ ⟨S7.out.b.t.t.c, S7.out.b.t.t.t.c⟩ (fun h2 => ?_)
            clear hK K hH
            have hH := h2
            clear h2
            try simp only [nrm]
            have sb0 := V4_7.out.c0
            have sb1 := V4_7.out.c1
            have sb2 := V4_7.out.f0
            have sb3 := V4_7.out.f1
            refine step_one 6 rfl (by kernel_rfl) (fun K hK => ?_)
            go_simp
            have S8 := Lib.hid (S7.out.put V4_7.out (.bool u_m) (.slice u_0 u_n u_c) z4 (under_apart U4) (nums_apart rfl))
            have V4_8 := Lib.hid (V4_7.out.set u_m u_0 u_n u_c)
            have V5_8 := Lib.hid (V5_7.out.far (c := w4.heap.size) (by omega) (.bool u_m) (.slice u_0 u_n u_c))
            clear S7 V4_7 V5_7 sb0 sb1 sb2 sb3
            refine hK.out _ _ ⟨S8.out.b.t.t.c, S8.out.b.t.t.t.c⟩ (fun h2 => ?_)
            clear hK K hH
            have hH := h2
            clear h2
            try simp only [nrm]
            refine anyH_world (fun w8 hW => ?_)
            rw [← hW] at S8 hH V4_8 V5_8
            clear hW
            have sb0 := V5_8.out.c0
            have sb1 := V5_8.out.c1
            have sb2 := V5_8.out.f0
            have sb3 := V5_8.out.f1
            refine step_one 7 rfl (by kernel_rfl) (fun K hK => ?_)
            go_simp
            have S9 := Lib.hid (S8.out.put V5_8.out (.bool v_m) (.slice v_0 v_n v_c) z5 (under_apart U5) (nums_apart rfl))
            have V5_9 := Lib.hid (V5_8.out.set v_m v_0 v_n v_c)
            have V4_9 := Lib.hid (V4_8.out.far (c := w3.heap.size) (by omega) (.bool v_m) (.slice v_0 v_n v_c))
            clear S8 V4_8 V5_8 sb0 sb1 sb2 sb3
            refine hK.out _ _ ⟨S9.out.b.t.t.c, S9.out.b.t.t.t.c⟩ (fun h2 => ?_)
            clear hK K hH
            have hH := h2
            clear h2
            try simp only [nrm]
            refine anyH_world (fun w9 hW => ?_)
            rw [← hW] at S9 hH V4_9 V5_9
            clear hW
            refine wpAnyH_done (by kernel_rfl) ?_ _
            go_wp2_with fail
            go_meet
            case rel => exact ⟨_, _, _, _, _, _, _, _, _, _, rfl, rfl, (Live.add_box V4_9.out (Live.add_box V5_9.out S9.out.b)), (Live.add_zed S9.out.n.t.zed (Live.add_zed S9.out.n.zed S9.out.n.t.t)), S9.out.h⟩
  case rest =>
  clear bx_0 bx_1 by_0 by_1 b_a_0 b_a_1 b_b_0 b_b_1
  clear S2
  obtain ⟨b_u, u_m, u_0, u_n, u_c, b_v, v_m, v_0, v_n, v_c, rfl, rfl, S3⟩ := hcut
  obtain ⟨w3, hW⟩ : ∃ w3, w3 = wc := ⟨_, rfl⟩
  rw [← hW] at S3 ⊢
  clear hW
  obtain ⟨bx_0, bx_1⟩ := S3.out.b.t.t.t.t.c
  obtain ⟨by_0, by_1⟩ := S3.out.b.t.t.t.t.t.c
  obtain ⟨b_a_0, b_a_1⟩ := S3.out.b.t.t.c
  obtain ⟨b_b_0, b_b_1⟩ := S3.out.b.t.t.t.c
  obtain ⟨b_u_0, b_u_1⟩ := S3.out.b.c
  obtain ⟨b_v_0, b_v_1⟩ := S3.out.b.t.c
  go_wp2_with fail
  have bd_an := bd_x
  have bd_bn := bd_y
  have S4 := Lib.hid (S3.out.num (⟨⟨xs, S3.out.n.t.t.sl, HX0.out⟩, by omega⟩ : Nx _ m0 a_0 n0 a_c x))
  clear S3
  have S3 := Lib.hid S4.out
  clear S4
  have S4 := Lib.hid (S3.out.num (⟨⟨ys, S3.out.n.t.t.t.t.sl, HY0.out⟩, by omega⟩ : Nx _ m1 b_0 n1 b_c y))
  clear S3
  have S3 := Lib.hid S4.out
  clear S4
  obtain ⟨sx, hsx⟩ : ∃ sx, x.sign = sx := ⟨_, rfl⟩
  obtain ⟨c, hc⟩ : ∃ c, cmpZ x y = c := ⟨_, rfl⟩
  obtain ⟨r, hr⟩ : ∃ r, mayB m0 n0 xs = r := ⟨_, rfl⟩
  have HSX := Lib.hid hsx
  have HC := Lib.hid hc
  have HR := Lib.hid hr
  clear hsx hc hr
  have bd_s1 : Bd ((x + y)) 26 := (bd_an.mono (show 25 ≤ 25 by omega)).add (bd_bn.mono (show 25 ≤ 25 by omega)) (by omega)
  have bd_s2 : Bd ((x + y)) 26 := (bd_u.mono (show 25 ≤ 25 by omega)).add (bd_v.mono (show 25 ≤ 25 by omega)) (by omega)
  have bd_s3 : Bd ((x + y)) 26 := bd_s2
  have bd_d1 : Bd ((x - y)) 26 := (bd_an.mono (show 25 ≤ 25 by omega)).sub (bd_bn.mono (show 25 ≤ 25 by omega)) (by omega)
  have bd_d2 : Bd ((x - y)) 26 := (bd_u.mono (show 25 ≤ 25 by omega)).sub (bd_v.mono (show 25 ≤ 25 by omega)) (by omega)
  have bd_d3 : Bd ((x - y)) 26 := bd_d2
  have bd_p1 : Bd ((x * y)) 50 := bd_an.mul bd_bn
  have bd_p2 : Bd ((x * y)) 50 := bd_u.mul bd_v
  have bd_p3 : Bd ((x * y)) 50 := bd_p2
  have bd_n1v : Bd ((-x)) 25 := bd_an.neg
  have bd_n2v : Bd ((-x)) 25 := bd_u.neg
  have bd_n3v : Bd ((-x)) 25 := bd_n2v
  have EQ1 := Lib.hid (show (x : Int).sign = sx from HSX.out)
  have EQ2 := Lib.hid (show (x : Int).sign = sx from HSX.out)
  have EQ3 := Lib.hid (show cmpZ x y = c from HC.out)
  have EQ4 := Lib.hid (show cmpZ x y = c from HC.out)
  clear bx_0 bx_1 by_0 by_1 b_a_0 b_a_1 b_b_0 b_b_1 b_u_0 b_u_1 b_v_0 b_v_1
  have S4 := Lib.hid S3.out.drew
  clear S3
  refine wp_region_held_drew (S := fun w' => (w'.cell? ⟨(w.heap.size), 0, none⟩ = some (.bool m0) ∧ w'.cell? ⟨(w.heap.size), 1, none⟩ = some (.slice a0 n0 c0)) ∧ (w'.cell? ⟨b_a, 0, none⟩ = some (.bool m0) ∧ w'.cell? ⟨b_a, 1, none⟩ = some (.slice a_0 n0 a_c)) ∧ (w'.cell? ⟨b_b, 0, none⟩ = some (.bool m1) ∧ w'.cell? ⟨b_b, 1, none⟩ = some (.slice b_0 n1 b_c)) ∧ (w'.cell? ⟨b_u, 0, none⟩ = some (.bool u_m) ∧ w'.cell? ⟨b_u, 1, none⟩ = some (.slice u_0 u_n u_c)) ∧ (w'.cell? ⟨b_v, 0, none⟩ = some (.bool v_m) ∧ w'.cell? ⟨b_v, 1, none⟩ = some (.slice v_0 v_n v_c))) (by kernel_rfl) (⟨S4.out.b.t.t.t.t.c, S4.out.b.t.t.c, S4.out.b.t.t.t.c, S4.out.b.c, S4.out.b.t.c⟩) (fun hH => ?_)
  refine anyH_world (fun w4 hW => ?_)
  rw [← hW] at S4 hH
  clear hW
  refine step_on 0 rfl (by kernel_rfl) (fun _ _ _ h => h) (by rfl) hH (by intro w hS; go_simp <;> with_reducible rfl) ?_
  try simp only [nrm]
  refine step_on 1 rfl (by kernel_rfl) (fun _ _ _ h => h) (by rfl) hH (by intro w hS; go_simp <;> with_reducible rfl) ?_
  try simp only [nrm]
  refine step_on 3 rfl (by kernel_rfl) (fun _ _ _ h => h) (by rfl) hH (by intro w hS; go_simp <;> with_reducible rfl) ?_
  try simp only [nrm]
  refine step_on 4 rfl (by kernel_rfl) (fun _ _ _ h => h) (by rfl) hH (by intro w hS; go_simp <;> with_reducible rfl) ?_
  try simp only [nrm]
  refine step_one 2 rfl (by kernel_rfl) (fun K hK => ?_)
  go_simp
  refine (wadd_any S4.out.n.t.num S4.out.n.num).mono ?_
  rintro e w5 ⟨s1_m, s1_0, s1_n, s1_c, rfl, hX, hB⟩
  have S5 := Lib.hid ((S4.out.step hB).can (hX.cx bd_s1 (by omega)))
  clear S4 hX hB
  go_wp2_with fail
  refine hK.out _ _ ⟨S5.out.b.t.t.t.t.c, S5.out.b.t.t.c, S5.out.b.t.t.t.c, S5.out.b.c, S5.out.b.t.c⟩ (fun h2 => ?_)
  clear hK K hH
  have hH := h2
  clear h2
  try simp only [nrm]
  refine step_one 5 rfl (by kernel_rfl) (fun K hK => ?_)
  go_simp
  refine (zadd_any S5.out.n.t.t.t.zed S5.out.n.t.t.t.t.zed).mono ?_
  rintro e w6 ⟨s2_m, s2_0, s2_n, s2_c, rfl, hX, hB⟩
  have S6 := Lib.hid ((S5.out.step hB).zed (hX.zx bd_s2 (by omega)))
  clear S5 hX hB
  go_wp2_with fail
  refine hK.out _ _ ⟨S6.out.b.t.t.t.t.c, S6.out.b.t.t.c, S6.out.b.t.t.t.c, S6.out.b.c, S6.out.b.t.c⟩ (fun h2 => ?_)
  clear hK K hH
  have hH := h2
  clear h2
  try simp only [nrm]
  refine step_one 6 rfl (by kernel_rfl) (fun K hK => ?_)
  go_simp
  refine (zint_any S6.out.n.zed).mono ?_
  rintro e w7 ⟨s3_m, s3_0, s3_n, s3_c, rfl, hX, hB⟩
  have S7 := Lib.hid ((S6.out.step hB).can (hX.cx bd_s3 (by omega)))
  clear S6 hX hB
  go_wp2_with fail
  refine hK.out _ _ ⟨S7.out.b.t.t.t.t.c, S7.out.b.t.t.c, S7.out.b.t.t.t.c, S7.out.b.c, S7.out.b.t.c⟩ (fun h2 => ?_)
  clear hK K hH
  have hH := h2
  clear h2
  try simp only [nrm]
  refine step_one 7 rfl (by kernel_rfl) (fun K hK => ?_)
  go_simp
  refine (zsame S7.out.n.t.t.can S7.out.n.can rfl).mono ?_
  rintro e w8 ⟨rfl, hB⟩
  have S8 := Lib.hid (S7.out.step hB)
  clear S7 hB
  go_wp2_with fail
  refine hK.out _ _ ⟨S8.out.b.t.t.t.t.c, S8.out.b.t.t.c, S8.out.b.t.t.t.c, S8.out.b.c, S8.out.b.t.c⟩ (fun h2 => ?_)
  clear hK K hH
  have hH := h2
  clear h2
  try simp only [nrm]
  refine step_on 8 rfl (by kernel_rfl) (fun _ _ _ h => h) (by rfl) hH (by intro w hS; go_simp <;> with_reducible rfl) ?_
  try simp only [nrm]
  refine step_on 9 rfl (by kernel_rfl) (fun _ _ _ h => h) (by rfl) hH (by intro w hS; go_simp <;> with_reducible rfl) ?_
  try simp only [nrm]
  refine step_on 10 rfl (by kernel_rfl) (fun _ _ _ h => h) (by rfl) hH (by intro w hS; go_simp <;> with_reducible rfl) ?_
  try simp only [nrm]
  refine step_on 12 rfl (by kernel_rfl) (fun _ _ _ h => h) (by rfl) hH (by intro w hS; go_simp <;> with_reducible rfl) ?_
  try simp only [nrm]
  refine step_on 13 rfl (by kernel_rfl) (fun _ _ _ h => h) (by rfl) hH (by intro w hS; go_simp <;> with_reducible rfl) ?_
  try simp only [nrm]
  refine step_one 11 rfl (by kernel_rfl) (fun K hK => ?_)
  go_simp
  refine (wsub_any S8.out.n.t.t.t.t.num S8.out.n.t.t.t.num).mono ?_
  rintro e w9 ⟨d1_m, d1_0, d1_n, d1_c, rfl, hX, hB⟩
  have S9 := Lib.hid ((S8.out.step hB).can (hX.cx bd_d1 (by omega)))
  clear S8 hX hB
  go_wp2_with fail
  refine hK.out _ _ ⟨S9.out.b.t.t.t.t.c, S9.out.b.t.t.c, S9.out.b.t.t.t.c, S9.out.b.c, S9.out.b.t.c⟩ (fun h2 => ?_)
  clear hK K hH
  have hH := h2
  clear h2
  try simp only [nrm]
  refine step_one 14 rfl (by kernel_rfl) (fun K hK => ?_)
  go_simp
  refine (zsub_any S9.out.n.t.t.t.t.t.t.zed S9.out.n.t.t.t.t.t.t.t.zed).mono ?_
  rintro e w10 ⟨d2_m, d2_0, d2_n, d2_c, rfl, hX, hB⟩
  have S10 := Lib.hid ((S9.out.step hB).zed (hX.zx bd_d2 (by omega)))
  clear S9 hX hB
  go_wp2_with fail
  refine hK.out _ _ ⟨S10.out.b.t.t.t.t.c, S10.out.b.t.t.c, S10.out.b.t.t.t.c, S10.out.b.c, S10.out.b.t.c⟩ (fun h2 => ?_)
  clear hK K hH
  have hH := h2
  clear h2
  try simp only [nrm]
  refine step_one 15 rfl (by kernel_rfl) (fun K hK => ?_)
  go_simp
  refine (zint_any S10.out.n.zed).mono ?_
  rintro e w11 ⟨d3_m, d3_0, d3_n, d3_c, rfl, hX, hB⟩
  have S11 := Lib.hid ((S10.out.step hB).can (hX.cx bd_d3 (by omega)))
  clear S10 hX hB
  go_wp2_with fail
  refine hK.out _ _ ⟨S11.out.b.t.t.t.t.c, S11.out.b.t.t.c, S11.out.b.t.t.t.c, S11.out.b.c, S11.out.b.t.c⟩ (fun h2 => ?_)
  clear hK K hH
  have hH := h2
  clear h2
  try simp only [nrm]
  refine step_one 16 rfl (by kernel_rfl) (fun K hK => ?_)
  go_simp
  refine (zsame S11.out.n.t.t.can S11.out.n.can rfl).mono ?_
  rintro e w12 ⟨rfl, hB⟩
  have S12 := Lib.hid (S11.out.step hB)
  clear S11 hB
  go_wp2_with fail
  refine hK.out _ _ ⟨S12.out.b.t.t.t.t.c, S12.out.b.t.t.c, S12.out.b.t.t.t.c, S12.out.b.c, S12.out.b.t.c⟩ (fun h2 => ?_)
  clear hK K hH
  have hH := h2
  clear h2
  try simp only [nrm]
  refine step_on 17 rfl (by kernel_rfl) (fun _ _ _ h => h) (by rfl) hH (by intro w hS; go_simp <;> with_reducible rfl) ?_
  try simp only [nrm]
  refine step_on 18 rfl (by kernel_rfl) (fun _ _ _ h => h) (by rfl) hH (by intro w hS; go_simp <;> with_reducible rfl) ?_
  try simp only [nrm]
  refine step_on 19 rfl (by kernel_rfl) (fun _ _ _ h => h) (by rfl) hH (by intro w hS; go_simp <;> with_reducible rfl) ?_
  try simp only [nrm]
  refine step_on 20 rfl (by kernel_rfl) (fun _ _ _ h => h) (by rfl) hH (by intro w hS; go_simp <;> with_reducible rfl) ?_
  try simp only [nrm]
  refine step_on 22 rfl (by kernel_rfl) (fun _ _ _ h => h) (by rfl) hH (by intro w hS; go_simp <;> with_reducible rfl) ?_
  try simp only [nrm]
  refine step_on 23 rfl (by kernel_rfl) (fun _ _ _ h => h) (by rfl) hH (by intro w hS; go_simp <;> with_reducible rfl) ?_
  try simp only [nrm]
  refine step_one 21 rfl (by kernel_rfl) (fun K hK => ?_)
  go_simp
  refine (wmul_any S12.out.n.t.t.t.t.t.t.t.num S12.out.n.t.t.t.t.t.t.num).mono ?_
  rintro e w13 ⟨p1_m, p1_0, p1_n, p1_c, rfl, hX, hB⟩
  have S13 := Lib.hid ((S12.out.step hB).can (hX.cx bd_p1 (by omega)))
  clear S12 hX hB
  go_wp2_with fail
  refine hK.out _ _ ⟨S13.out.b.t.t.t.t.c, S13.out.b.t.t.c, S13.out.b.t.t.t.c, S13.out.b.c, S13.out.b.t.c⟩ (fun h2 => ?_)
  clear hK K hH
  have hH := h2
  clear h2
  try simp only [nrm]
  refine step_one 24 rfl (by kernel_rfl) (fun K hK => ?_)
  go_simp
  refine (zmul_any S13.out.n.t.t.t.t.t.t.t.t.t.zed S13.out.n.t.t.t.t.t.t.t.t.t.t.zed).mono ?_
  rintro e w14 ⟨p2_m, p2_0, p2_n, p2_c, rfl, hX, hB⟩
  have S14 := Lib.hid ((S13.out.step hB).zed (hX.zx bd_p2 (by omega)))
  clear S13 hX hB
  go_wp2_with fail
  refine hK.out _ _ ⟨S14.out.b.t.t.t.t.c, S14.out.b.t.t.c, S14.out.b.t.t.t.c, S14.out.b.c, S14.out.b.t.c⟩ (fun h2 => ?_)
  clear hK K hH
  have hH := h2
  clear h2
  try simp only [nrm]
  refine step_one 25 rfl (by kernel_rfl) (fun K hK => ?_)
  go_simp
  refine (zint_any S14.out.n.zed).mono ?_
  rintro e w15 ⟨p3_m, p3_0, p3_n, p3_c, rfl, hX, hB⟩
  have S15 := Lib.hid ((S14.out.step hB).can (hX.cx bd_p3 (by omega)))
  clear S14 hX hB
  go_wp2_with fail
  refine hK.out _ _ ⟨S15.out.b.t.t.t.t.c, S15.out.b.t.t.c, S15.out.b.t.t.t.c, S15.out.b.c, S15.out.b.t.c⟩ (fun h2 => ?_)
  clear hK K hH
  have hH := h2
  clear h2
  try simp only [nrm]
  refine step_one 26 rfl (by kernel_rfl) (fun K hK => ?_)
  go_simp
  refine (zsame S15.out.n.t.t.can S15.out.n.can rfl).mono ?_
  rintro e w16 ⟨rfl, hB⟩
  have S16 := Lib.hid (S15.out.step hB)
  clear S15 hB
  go_wp2_with fail
  refine hK.out _ _ ⟨S16.out.b.t.t.t.t.c, S16.out.b.t.t.c, S16.out.b.t.t.t.c, S16.out.b.c, S16.out.b.t.c⟩ (fun h2 => ?_)
  clear hK K hH
  have hH := h2
  clear h2
  try simp only [nrm]
  refine step_on 27 rfl (by kernel_rfl) (fun _ _ _ h => h) (by rfl) hH (by intro w hS; go_simp <;> with_reducible rfl) ?_
  try simp only [nrm]
  refine step_on 28 rfl (by kernel_rfl) (fun _ _ _ h => h) (by rfl) hH (by intro w hS; go_simp <;> with_reducible rfl) ?_
  try simp only [nrm]
  refine step_on 29 rfl (by kernel_rfl) (fun _ _ _ h => h) (by rfl) hH (by intro w hS; go_simp <;> with_reducible rfl) ?_
  try simp only [nrm]
  refine step_on 31 rfl (by kernel_rfl) (fun _ _ _ h => h) (by rfl) hH (by intro w hS; go_simp <;> with_reducible rfl) ?_
  try simp only [nrm]
  refine step_one 30 rfl (by kernel_rfl) (fun K hK => ?_)
  go_simp
  refine (wneg_any S16.out.n.t.t.t.t.t.t.t.t.t.t.num).mono ?_
  rintro e w17 ⟨n1v_m, n1v_0, n1v_n, n1v_c, rfl, hX, hB⟩
  have S17 := Lib.hid ((S16.out.step hB).can (hX.cx bd_n1v (by omega)))
  clear S16 hX hB
  go_wp2_with fail
  refine hK.out _ _ ⟨S17.out.b.t.t.t.t.c, S17.out.b.t.t.c, S17.out.b.t.t.t.c, S17.out.b.c, S17.out.b.t.c⟩ (fun h2 => ?_)
  clear hK K hH
  have hH := h2
  clear h2
  try simp only [nrm]
  refine step_one 32 rfl (by kernel_rfl) (fun K hK => ?_)
  go_simp
  refine (zneg_any S17.out.n.t.t.t.t.t.t.t.t.t.t.t.t.zed).mono ?_
  rintro e w18 ⟨n2v_m, n2v_0, n2v_n, n2v_c, rfl, hX, hB⟩
  have S18 := Lib.hid ((S17.out.step hB).zed (hX.zx bd_n2v (by omega)))
  clear S17 hX hB
  go_wp2_with fail
  refine hK.out _ _ ⟨S18.out.b.t.t.t.t.c, S18.out.b.t.t.c, S18.out.b.t.t.t.c, S18.out.b.c, S18.out.b.t.c⟩ (fun h2 => ?_)
  clear hK K hH
  have hH := h2
  clear h2
  try simp only [nrm]
  refine step_one 33 rfl (by kernel_rfl) (fun K hK => ?_)
  go_simp
  refine (zint_any S18.out.n.zed).mono ?_
  rintro e w19 ⟨n3v_m, n3v_0, n3v_n, n3v_c, rfl, hX, hB⟩
  have S19 := Lib.hid ((S18.out.step hB).can (hX.cx bd_n3v (by omega)))
  clear S18 hX hB
  go_wp2_with fail
  refine hK.out _ _ ⟨S19.out.b.t.t.t.t.c, S19.out.b.t.t.c, S19.out.b.t.t.t.c, S19.out.b.c, S19.out.b.t.c⟩ (fun h2 => ?_)
  clear hK K hH
  have hH := h2
  clear h2
  try simp only [nrm]
  refine step_one 34 rfl (by kernel_rfl) (fun K hK => ?_)
  go_simp
  refine (zsame S19.out.n.t.t.can S19.out.n.can rfl).mono ?_
  rintro e w20 ⟨rfl, hB⟩
  have S20 := Lib.hid (S19.out.step hB)
  clear S19 hB
  go_wp2_with fail
  refine hK.out _ _ ⟨S20.out.b.t.t.t.t.c, S20.out.b.t.t.c, S20.out.b.t.t.t.c, S20.out.b.c, S20.out.b.t.c⟩ (fun h2 => ?_)
  clear hK K hH
  have hH := h2
  clear h2
  try simp only [nrm]
  refine step_on 35 rfl (by kernel_rfl) (fun _ _ _ h => h) (by rfl) hH (by intro w hS; go_simp <;> with_reducible rfl) ?_
  try simp only [nrm]
  refine step_on 36 rfl (by kernel_rfl) (fun _ _ _ h => h) (by rfl) hH (by intro w hS; go_simp <;> with_reducible rfl) ?_
  try simp only [nrm]
  refine step_on 37 rfl (by kernel_rfl) (fun _ _ _ h => h) (by rfl) hH (by intro w hS; go_simp <;> with_reducible rfl) ?_
  try simp only [nrm]
  refine step_on 39 rfl (by kernel_rfl) (fun _ _ _ h => h) (by rfl) hH (by intro w hS; go_simp <;> with_reducible rfl) ?_
  try simp only [nrm]
  refine step_one 38 rfl (by kernel_rfl) (fun K hK => ?_)
  go_simp
  refine (wsign_is (sx) S20.out.n.t.t.t.t.t.t.t.t.t.t.t.t.t.num EQ1.out).mono ?_
  rintro e w21 ⟨rfl, hB⟩
  have S21 := Lib.hid (S20.out.step hB)
  clear S20 hB
  go_wp2_with fail
  refine hK.out _ _ ⟨S21.out.b.t.t.t.t.c, S21.out.b.t.t.c, S21.out.b.t.t.t.c, S21.out.b.c, S21.out.b.t.c⟩ (fun h2 => ?_)
  clear hK K hH
  have hH := h2
  clear h2
  try simp only [nrm]
  refine step_one 40 rfl (by kernel_rfl) (fun K hK => ?_)
  go_simp
  refine (zsign_is (sx) S21.out.n.t.t.t.t.t.t.t.t.t.t.t.t.t.t.zed EQ2.out).mono ?_
  rintro e w22 ⟨rfl, hB⟩
  have S22 := Lib.hid (S21.out.step hB)
  clear S21 hB
  go_wp2_with fail
  refine hK.out _ _ ⟨S22.out.b.t.t.t.t.c, S22.out.b.t.t.c, S22.out.b.t.t.t.c, S22.out.b.c, S22.out.b.t.c⟩ (fun h2 => ?_)
  clear hK K hH
  have hH := h2
  clear h2
  try simp only [nrm]
  refine step_on 41 rfl (by kernel_rfl) (fun _ _ _ h => h) (by rfl) hH (by intro w hS; go_simp <;> with_reducible rfl) ?_
  try simp only [nrm]
  refine step_on 42 rfl (by kernel_rfl) (fun _ _ _ h => h) (by rfl) hH (by intro w hS; go_simp <;> with_reducible rfl) ?_
  try simp only [nrm]
  refine step_on 43 rfl (by kernel_rfl) (fun _ _ _ h => h) (by rfl) hH (by intro w hS; go_simp <;> with_reducible rfl) ?_
  try simp only [nrm]
  refine step_on 44 rfl (by kernel_rfl) (fun _ _ _ h => h) (by rfl) hH (by intro w hS; go_simp <;> with_reducible rfl) ?_
  try simp only [nrm]
  refine step_on 45 rfl (by kernel_rfl) (fun _ _ _ h => h) (by rfl) hH (by intro w hS; go_simp <;> with_reducible rfl) ?_
  try simp only [nrm]
  refine step_on 47 rfl (by kernel_rfl) (fun _ _ _ h => h) (by rfl) hH (by intro w hS; go_simp <;> with_reducible rfl) ?_
  try simp only [nrm]
  refine step_on 48 rfl (by kernel_rfl) (fun _ _ _ h => h) (by rfl) hH (by intro w hS; go_simp <;> with_reducible rfl) ?_
  try simp only [nrm]
  refine step_one 46 rfl (by kernel_rfl) (fun K hK => ?_)
  go_simp
  refine (wcmp_is (c) S22.out.n.t.t.t.t.t.t.t.t.t.t.t.t.t.num S22.out.n.t.t.t.t.t.t.t.t.t.t.t.t.num EQ3.out).mono ?_
  rintro e w23 ⟨rfl, hB⟩
  have S23 := Lib.hid (S22.out.step hB)
  clear S22 hB
  go_wp2_with fail
  refine hK.out _ _ ⟨S23.out.b.t.t.t.t.c, S23.out.b.t.t.c, S23.out.b.t.t.t.c, S23.out.b.c, S23.out.b.t.c⟩ (fun h2 => ?_)
  clear hK K hH
  have hH := h2
  clear h2
  try simp only [nrm]
  refine step_one 49 rfl (by kernel_rfl) (fun K hK => ?_)
  go_simp
  refine (zcmp_is (c) S23.out.n.t.t.t.t.t.t.t.t.t.t.t.t.t.t.zed S23.out.n.t.t.t.t.t.t.t.t.t.t.t.t.t.t.t.zed (bd_u.mono (show 25 ≤ 25 by omega)) (bd_v.mono (show 25 ≤ 25 by omega)) (by omega) EQ4.out).mono ?_
  rintro e w24 ⟨rfl, hB⟩
  have S24 := Lib.hid (S23.out.step hB)
  clear S23 hB
  go_wp2_with fail
  refine hK.out _ _ ⟨S24.out.b.t.t.t.t.c, S24.out.b.t.t.c, S24.out.b.t.t.t.c, S24.out.b.c, S24.out.b.t.c⟩ (fun h2 => ?_)
  clear hK K hH
  have hH := h2
  clear h2
  try simp only [nrm]
  refine step_on 50 rfl (by kernel_rfl) (fun _ _ _ h => h) (by rfl) hH (by intro w hS; go_simp <;> with_reducible rfl) ?_
  try simp only [nrm]
  refine step_on 51 rfl (by kernel_rfl) (fun _ _ _ h => h) (by rfl) hH (by intro w hS; go_simp <;> with_reducible rfl) ?_
  try simp only [nrm]
  refine step_on 52 rfl (by kernel_rfl) (fun _ _ _ h => h) (by rfl) hH (by intro w hS; go_simp <;> with_reducible rfl) ?_
  try simp only [nrm]
  refine step_on 53 rfl (by kernel_rfl) (fun _ _ _ h => h) (by rfl) hH (by intro w hS; go_simp <;> with_reducible rfl) ?_
  try simp only [nrm]
  refine step_on 55 rfl (by kernel_rfl) (fun _ _ _ h => h) (by rfl) hH (by intro w hS; go_simp <;> with_reducible rfl) ?_
  try simp only [nrm]
  refine step_one 54 rfl (by kernel_rfl) (fun K hK => ?_)
  go_simp
  refine (wmay_is r S24.out.n.t.t.t.t.t.t.t.t.t.t.t.t.t.t.t.t.sl HR.out).mono ?_
  rintro e w25 ⟨rfl, hB⟩
  have S25 := Lib.hid (S24.out.step hB)
  clear S24 hB
  go_wp2_with fail
  refine hK.out _ _ ⟨S25.out.b.t.t.t.t.c, S25.out.b.t.t.c, S25.out.b.t.t.t.c, S25.out.b.c, S25.out.b.t.c⟩ (fun h2 => ?_)
  clear hK K hH
  have hH := h2
  clear h2
  try simp only [nrm]
  refine step_one 56 rfl (by kernel_rfl) (fun K hK => ?_)
  go_simp
  refine (zmay_is r S25.out.n.t.t.t.t.t.t.t.t.t.t.t.t.t.t.t.t.t.t.t.t.sl (by omega) HR.out).mono ?_
  rintro e w26 ⟨rfl, hB⟩
  have S26 := Lib.hid (S25.out.step hB)
  clear S25 hB
  go_wp2_with fail
  refine hK.out _ _ ⟨S26.out.b.t.t.t.t.c, S26.out.b.t.t.c, S26.out.b.t.t.t.c, S26.out.b.c, S26.out.b.t.c⟩ (fun h2 => ?_)
  clear hK K hH
  have hH := h2
  clear h2
  try simp only [nrm]
  refine step_on 57 rfl (by kernel_rfl) (fun _ _ _ h => h) (by rfl) hH (by intro w hS; go_simp <;> with_reducible rfl) ?_
  try simp only [nrm]
  refine step_on 58 rfl (by kernel_rfl) (fun _ _ _ h => h) (by rfl) hH (by intro w hS; go_simp <;> with_reducible rfl) ?_
  try simp only [nrm]
  refine step_on 59 rfl (by kernel_rfl) (fun _ _ _ h => h) (by rfl) hH (by intro w hS; go_simp <;> with_reducible rfl) ?_
  try simp only [nrm]
  refine wpAnyH_done (by kernel_rfl) ?_ _
  clear hH
  obtain ⟨bx_0, bx_1⟩ := S26.out.b.t.t.t.t.c
  obtain ⟨by_0, by_1⟩ := S26.out.b.t.t.t.t.t.c
  obtain ⟨b_a_0, b_a_1⟩ := S26.out.b.t.t.c
  obtain ⟨b_b_0, b_b_1⟩ := S26.out.b.t.t.t.c
  obtain ⟨b_u_0, b_u_1⟩ := S26.out.b.c
  obtain ⟨b_v_0, b_v_1⟩ := S26.out.b.t.c
  go_wp2_with fail
  refine (wsmall_no S26.out.n.t.t.t.t.t.t.t.t.t.t.t.t.t.num (by have := HF.out; omega)).mono ?_
  rintro e w27 ⟨rfl, hB⟩
  have S27 := Lib.hid (S26.out.step hB)
  clear bx_0 bx_1 by_0 by_1 b_a_0 b_a_1 b_b_0 b_b_1 b_u_0 b_u_1 b_v_0 b_v_1
  clear S26 hB
  obtain ⟨bx_0, bx_1⟩ := S27.out.b.t.t.t.t.c
  obtain ⟨by_0, by_1⟩ := S27.out.b.t.t.t.t.t.c
  obtain ⟨b_a_0, b_a_1⟩ := S27.out.b.t.t.c
  obtain ⟨b_b_0, b_b_1⟩ := S27.out.b.t.t.t.c
  obtain ⟨b_u_0, b_u_1⟩ := S27.out.b.c
  obtain ⟨b_v_0, b_v_1⟩ := S27.out.b.t.c
  go_wp2_with fail
  have bd_lo : Bd ((-9223372036854775808 : Int)) 2 := by unfold Bd; decide
  have EQ5 := Lib.hid (show cmpZ x (-9223372036854775808 : Int) = -1 from cmpZ_lt HF.out)
  clear bx_0 bx_1 by_0 by_1 b_a_0 b_a_1 b_b_0 b_b_1 b_u_0 b_u_1 b_v_0 b_v_1
  have S28 := Lib.hid S27.out.drew
  clear S27
  refine wp_region_held_drew (S := fun w' => (w'.cell? ⟨b_u, 0, none⟩ = some (.bool u_m) ∧ w'.cell? ⟨b_u, 1, none⟩ = some (.slice u_0 u_n u_c))) (by kernel_rfl) (S28.out.b.c) (fun hH => ?_)
  refine anyH_world (fun w28 hW => ?_)
  rw [← hW] at S28 hH
  clear hW
  refine step_on 0 rfl (by kernel_rfl) (fun _ _ _ h => h) (by rfl) hH (by intro w hS; go_simp <;> with_reducible rfl) ?_
  try simp only [nrm]
  refine step_one 1 rfl (by kernel_rfl) (fun K hK => ?_)
  go_simp
  refine (zsmall_any (-9223372036854775808) _ ⟨by omega, by omega⟩).mono ?_
  rintro e w29 ⟨lo_m, lo_0, lo_n, lo_c, rfl, hX, hB⟩
  have S29 := Lib.hid ((S28.out.step hB).zed (hX.zx bd_lo (by omega)))
  clear S28 hX hB
  go_wp2_with fail
  refine hK.out _ _ (S29.out.b.c) (fun h2 => ?_)
  clear hK K hH
  have hH := h2
  clear h2
  try simp only [nrm]
  refine step_one 2 rfl (by kernel_rfl) (fun K hK => ?_)
  go_simp
  refine (zcmp_is (-1) S29.out.n.t.t.t.t.t.t.t.t.t.t.t.t.t.t.t.zed S29.out.n.zed (bd_u.mono (show 25 ≤ 25 by omega)) (bd_lo.mono (show 2 ≤ 25 by omega)) (by omega) EQ5.out).mono ?_
  rintro e w30 ⟨rfl, hB⟩
  have S30 := Lib.hid (S29.out.step hB)
  clear S29 hB
  go_wp2_with fail
  refine hK.out _ _ (S30.out.b.c) (fun h2 => ?_)
  clear hK K hH
  have hH := h2
  clear h2
  try simp only [nrm]
  refine step_on 3 rfl (by kernel_rfl) (fun _ _ _ h => h) (by rfl) hH (by intro w hS; go_simp <;> with_reducible rfl) ?_
  try simp only [nrm]
  refine step_on 4 rfl (by kernel_rfl) (fun _ _ _ h => h) (by rfl) hH (by intro w hS; go_simp <;> with_reducible rfl) ?_
  try simp only [nrm]
  refine step_off 5 rfl (by kernel_rfl) (fun _ _ _ h => h) (by rfl) hH ?_
  try simp only [nrm]
  refine step_off 6 rfl (by kernel_rfl) (fun _ _ _ h => h) (by rfl) hH ?_
  try simp only [nrm]
  refine step_off 7 rfl (by kernel_rfl) (fun _ _ _ h => h) (by rfl) hH ?_
  try simp only [nrm]
  refine step_off 8 rfl (by kernel_rfl) (fun _ _ _ h => h) (by rfl) hH ?_
  try simp only [nrm]
  refine step_on 9 rfl (by kernel_rfl) (fun _ _ _ h => h) (by rfl) hH (by intro w hS; go_simp <;> with_reducible rfl) ?_
  try simp only [nrm]
  refine step_on 10 rfl (by kernel_rfl) (fun _ _ _ h => h) (by rfl) hH (by intro w hS; go_simp <;> with_reducible rfl) ?_
  try simp only [nrm]
  refine wpAnyH_done (by kernel_rfl) ?_ _
  clear hH
  obtain ⟨bx_0, bx_1⟩ := S30.out.b.t.t.t.t.c
  obtain ⟨by_0, by_1⟩ := S30.out.b.t.t.t.t.t.c
  obtain ⟨b_a_0, b_a_1⟩ := S30.out.b.t.t.c
  obtain ⟨b_b_0, b_b_1⟩ := S30.out.b.t.t.t.c
  obtain ⟨b_u_0, b_u_1⟩ := S30.out.b.c
  obtain ⟨b_v_0, b_v_1⟩ := S30.out.b.t.c
  go_wp2_with fail
  have bd_j1 : Bd (i) 2 := bd64 hi
  have bd_j2 : Bd (i) 2 := bd64 hi
  have bd_j3 : Bd (i) 2 := bd_j2
  clear bx_0 bx_1 by_0 by_1 b_a_0 b_a_1 b_b_0 b_b_1 b_u_0 b_u_1 b_v_0 b_v_1
  have S31 := Lib.hid S30.out.drew
  clear S30
  refine wp_region_held_drew (S := fun w' => (w'.cell? ⟨b_u, 0, none⟩ = some (.bool u_m) ∧ w'.cell? ⟨b_u, 1, none⟩ = some (.slice u_0 u_n u_c))) (by kernel_rfl) (S31.out.b.c) (fun hH => ?_)
  refine anyH_world (fun w31 hW => ?_)
  rw [← hW] at S31 hH
  clear hW
  refine step_on 0 rfl (by kernel_rfl) (fun _ _ _ h => h) (by rfl) hH (by intro w hS; go_simp <;> with_reducible rfl) ?_
  try simp only [nrm]
  refine step_on 1 rfl (by kernel_rfl) (fun _ _ _ h => h) (by rfl) hH (by intro w hS; go_simp <;> with_reducible rfl) ?_
  try simp only [nrm]
  refine step_on 2 rfl (by kernel_rfl) (fun _ _ _ h => h) (by rfl) hH (by intro w hS; go_simp <;> with_reducible rfl) ?_
  try simp only [nrm]
  refine step_on 3 rfl (by kernel_rfl) (fun _ _ _ h => h) (by rfl) hH (by intro w hS; go_simp <;> with_reducible rfl) ?_
  try simp only [nrm]
  refine step_on 4 rfl (by kernel_rfl) (fun _ _ _ h => h) (by rfl) hH (by intro w hS; go_simp <;> with_reducible rfl) ?_
  try simp only [nrm]
  refine step_on 5 rfl (by kernel_rfl) (fun _ _ _ h => h) (by rfl) hH (by intro w hS; go_simp <;> with_reducible rfl) ?_
  try simp only [nrm]
  refine step_on 6 rfl (by kernel_rfl) (fun _ _ _ h => h) (by rfl) hH (by intro w hS; go_simp <;> with_reducible rfl) ?_
  try simp only [nrm]
  refine step_on 7 rfl (by kernel_rfl) (fun _ _ _ h => h) (by rfl) hH (by intro w hS; go_simp <;> with_reducible rfl) ?_
  try simp only [nrm]
  refine step_on 8 rfl (by kernel_rfl) (fun _ _ _ h => h) (by rfl) hH (by intro w hS; go_simp <;> with_reducible rfl) ?_
  try simp only [nrm]
  refine step_on 9 rfl (by kernel_rfl) (fun _ _ _ h => h) (by rfl) hH (by intro w hS; go_simp <;> with_reducible rfl) ?_
  try simp only [nrm]
  refine step_off 10 rfl (by kernel_rfl) (fun _ _ _ h => h) (by rfl) hH ?_
  try simp only [nrm]
  refine step_off 11 rfl (by kernel_rfl) (fun _ _ _ h => h) (by rfl) hH ?_
  try simp only [nrm]
  refine step_off 12 rfl (by kernel_rfl) (fun _ _ _ h => h) (by rfl) hH ?_
  try simp only [nrm]
  refine step_off 13 rfl (by kernel_rfl) (fun _ _ _ h => h) (by rfl) hH ?_
  try simp only [nrm]
  refine step_off 14 rfl (by kernel_rfl) (fun _ _ _ h => h) (by rfl) hH ?_
  try simp only [nrm]
  refine step_off 15 rfl (by kernel_rfl) (fun _ _ _ h => h) (by rfl) hH ?_
  try simp only [nrm]
  refine step_off 16 rfl (by kernel_rfl) (fun _ _ _ h => h) (by rfl) hH ?_
  try simp only [nrm]
  refine step_on 17 rfl (by kernel_rfl) (fun _ _ _ h => h) (by rfl) hH (by intro w hS; go_simp <;> with_reducible rfl) ?_
  try simp only [nrm]
  refine step_on 18 rfl (by kernel_rfl) (fun _ _ _ h => h) (by rfl) hH (by intro w hS; go_simp <;> with_reducible rfl) ?_
  try simp only [nrm]
  refine step_on 19 rfl (by kernel_rfl) (fun _ _ _ h => h) (by rfl) hH (by intro w hS; go_simp <;> with_reducible rfl) ?_
  try simp only [nrm]
  refine step_on 20 rfl (by kernel_rfl) (fun _ _ _ h => h) (by rfl) hH (by intro w hS; go_simp <;> with_reducible rfl) ?_
  try simp only [nrm]
  refine step_on 21 rfl (by kernel_rfl) (fun _ _ _ h => h) (by rfl) hH (by intro w hS; go_simp <;> with_reducible rfl) ?_
  try simp only [nrm]
  refine step_on 22 rfl (by kernel_rfl) (fun _ _ _ h => h) (by rfl) hH (by intro w hS; go_simp <;> with_reducible rfl) ?_
  try simp only [nrm]
  refine step_on 23 rfl (by kernel_rfl) (fun _ _ _ h => h) (by rfl) hH (by intro w hS; go_simp <;> with_reducible rfl) ?_
  try simp only [nrm]
  refine step_on 24 rfl (by kernel_rfl) (fun _ _ _ h => h) (by rfl) hH (by intro w hS; go_simp <;> with_reducible rfl) ?_
  try simp only [nrm]
  refine step_on 25 rfl (by kernel_rfl) (fun _ _ _ h => h) (by rfl) hH (by intro w hS; go_simp <;> with_reducible rfl) ?_
  try simp only [nrm]
  refine step_on 26 rfl (by kernel_rfl) (fun _ _ _ h => h) (by rfl) hH (by intro w hS; go_simp <;> with_reducible rfl) ?_
  try simp only [nrm]
  refine step_on 27 rfl (by kernel_rfl) (fun _ _ _ h => h) (by rfl) hH (by intro w hS; go_simp <;> with_reducible rfl) ?_
  try simp only [nrm]
  refine step_on 28 rfl (by kernel_rfl) (fun _ _ _ h => h) (by rfl) hH (by intro w hS; go_simp <;> with_reducible rfl) ?_
  try simp only [nrm]
  refine step_on 30 rfl (by kernel_rfl) (fun _ _ _ h => h) (by rfl) hH (by intro w hS; go_simp <;> with_reducible rfl) ?_
  try simp only [nrm]
  refine step_one 29 rfl (by kernel_rfl) (fun K hK => ?_)
  go_simp
  refine (wof_any (i) _ hi).mono ?_
  rintro e w32 ⟨j1_m, j1_0, j1_n, j1_c, rfl, hX, hB⟩
  have S32 := Lib.hid ((S31.out.step hB).can (hX.cx bd_j1 (by omega)))
  clear S31 hX hB
  go_wp2_with fail
  refine hK.out _ _ (S32.out.b.c) (fun h2 => ?_)
  clear hK K hH
  have hH := h2
  clear h2
  try simp only [nrm]
  refine step_one 31 rfl (by kernel_rfl) (fun K hK => ?_)
  go_simp
  refine (zsmall_any (i) _ hi).mono ?_
  rintro e w33 ⟨j2_m, j2_0, j2_n, j2_c, rfl, hX, hB⟩
  have S33 := Lib.hid ((S32.out.step hB).zed (hX.zx bd_j2 (by omega)))
  clear S32 hX hB
  go_wp2_with fail
  refine hK.out _ _ (S33.out.b.c) (fun h2 => ?_)
  clear hK K hH
  have hH := h2
  clear h2
  try simp only [nrm]
  refine step_one 32 rfl (by kernel_rfl) (fun K hK => ?_)
  go_simp
  refine (zint_any S33.out.n.zed).mono ?_
  rintro e w34 ⟨j3_m, j3_0, j3_n, j3_c, rfl, hX, hB⟩
  have S34 := Lib.hid ((S33.out.step hB).can (hX.cx bd_j3 (by omega)))
  clear S33 hX hB
  go_wp2_with fail
  refine hK.out _ _ (S34.out.b.c) (fun h2 => ?_)
  clear hK K hH
  have hH := h2
  clear h2
  try simp only [nrm]
  refine step_one 33 rfl (by kernel_rfl) (fun K hK => ?_)
  go_simp
  refine (zsame S34.out.n.t.t.can S34.out.n.can rfl).mono ?_
  rintro e w35 ⟨rfl, hB⟩
  have S35 := Lib.hid (S34.out.step hB)
  clear S34 hB
  go_wp2_with fail
  refine hK.out _ _ (S35.out.b.c) (fun h2 => ?_)
  clear hK K hH
  have hH := h2
  clear h2
  try simp only [nrm]
  refine step_on 34 rfl (by kernel_rfl) (fun _ _ _ h => h) (by rfl) hH (by intro w hS; go_simp <;> with_reducible rfl) ?_
  try simp only [nrm]
  refine step_on 35 rfl (by kernel_rfl) (fun _ _ _ h => h) (by rfl) hH (by intro w hS; go_simp <;> with_reducible rfl) ?_
  try simp only [nrm]
  refine wpAnyH_done (by kernel_rfl) ?_ _
  clear hH
  obtain ⟨bx_0, bx_1⟩ := S35.out.b.t.t.t.t.c
  obtain ⟨by_0, by_1⟩ := S35.out.b.t.t.t.t.t.c
  obtain ⟨b_a_0, b_a_1⟩ := S35.out.b.t.t.c
  obtain ⟨b_b_0, b_b_1⟩ := S35.out.b.t.t.t.c
  obtain ⟨b_u_0, b_u_1⟩ := S35.out.b.c
  obtain ⟨b_v_0, b_v_1⟩ := S35.out.b.t.c
  go_wp2_with fail
  refine (zsame_self S35.out.n.t.t.t.t.t.t.t.t.t.t.t.t.t.t.t.t.t.t.t.t.sl S35.out.n.t.t.t.t.t.t.t.t.t.t.t.t.t.t.t.t.t.t.t.t.t.t.t.t.sl).mono ?_
  rintro e w36 ⟨rfl, hB⟩
  have S36 := Lib.hid (S35.out.step hB)
  clear bx_0 bx_1 by_0 by_1 b_a_0 b_a_1 b_b_0 b_b_1 b_u_0 b_u_1 b_v_0 b_v_1
  clear S35 hB
  obtain ⟨bx_0, bx_1⟩ := S36.out.b.t.t.t.t.c
  obtain ⟨by_0, by_1⟩ := S36.out.b.t.t.t.t.t.c
  obtain ⟨b_a_0, b_a_1⟩ := S36.out.b.t.t.c
  obtain ⟨b_b_0, b_b_1⟩ := S36.out.b.t.t.t.c
  obtain ⟨b_u_0, b_u_1⟩ := S36.out.b.c
  obtain ⟨b_v_0, b_v_1⟩ := S36.out.b.t.c
  go_wp2_with fail
  refine (zsame_self S36.out.n.t.t.t.t.t.t.t.t.t.t.t.t.t.t.t.t.t.t.t.t.t.sl S36.out.n.t.t.t.t.t.t.t.t.t.t.t.t.t.t.t.t.t.t.t.t.t.t.t.t.t.sl).mono ?_
  rintro e w37 ⟨rfl, hB⟩
  have S37 := Lib.hid (S36.out.step hB)
  clear bx_0 bx_1 by_0 by_1 b_a_0 b_a_1 b_b_0 b_b_1 b_u_0 b_u_1 b_v_0 b_v_1
  clear S36 hB
  obtain ⟨bx_0, bx_1⟩ := S37.out.b.t.t.t.t.c
  obtain ⟨by_0, by_1⟩ := S37.out.b.t.t.t.t.t.c
  obtain ⟨b_a_0, b_a_1⟩ := S37.out.b.t.t.c
  obtain ⟨b_b_0, b_b_1⟩ := S37.out.b.t.t.t.c
  obtain ⟨b_u_0, b_u_1⟩ := S37.out.b.c
  obtain ⟨b_v_0, b_v_1⟩ := S37.out.b.t.c
  go_wp2_with fail
  refine (known4_any _).mono ?_
  rintro e w38 ⟨rfl, hB⟩
  have S38 := Lib.hid (S37.out.step hB)
  clear bx_0 bx_1 by_0 by_1 b_a_0 b_a_1 b_b_0 b_b_1 b_u_0 b_u_1 b_v_0 b_v_1
  clear S37 hB
  obtain ⟨bx_0, bx_1⟩ := S38.out.b.t.t.t.t.c
  obtain ⟨by_0, by_1⟩ := S38.out.b.t.t.t.t.t.c
  obtain ⟨b_a_0, b_a_1⟩ := S38.out.b.t.t.c
  obtain ⟨b_b_0, b_b_1⟩ := S38.out.b.t.t.t.c
  obtain ⟨b_u_0, b_u_1⟩ := S38.out.b.c
  obtain ⟨b_v_0, b_v_1⟩ := S38.out.b.t.c
  go_wp2_with fail
  go_ret
  exact ⟨rfl, S38.out.h⟩

end Go.Proofs.Ytponiigpmjnffaa

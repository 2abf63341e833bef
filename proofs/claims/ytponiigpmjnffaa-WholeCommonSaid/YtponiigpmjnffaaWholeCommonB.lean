/-
  A walk of the law WholeCommon.
-/
import Derived.Test.YtponiigpmjnffaaWSt
import Derived.Test.YtponiigpmjnffaaWKnown
import Derived.Test.YtponiigpmjnffaaWLaw
import Derived.Test.YtponiigpmjnffaaWAdd
import Derived.Test.YtponiigpmjnffaaWMul
import Derived.Test.YtponiigpmjnffaaWLawPlain
import Derived.Deep.Cut
import Derived.Deep.CutRange
set_option maxRecDepth 8192
namespace Go.Proofs.Ytponiigpmjnffaa
open Go.RowKit

set_option maxHeartbeats 40000000 in
set_option maxRecDepth 100000 in
theorem wholeCommon_zero  {m0 : Bool} {a0 : Option Addr} {n0 c0 : Nat} {m1 : Bool} {a1 : Option Addr} {n1 c1 : Nat} {m2 : Bool} {a2 : Option Addr} {n2 c2 : Nat} {x y z : Int} {w : World} (h0 : Nx w m0 a0 n0 c0 x) (h1 : Nx w m1 a1 n1 c1 y) (h2 : Nx w m2 a2 n2 c2 z) (l0 : n0 ≤ 25) (l1 : n1 ≤ 25) (l2 : n2 ≤ 25) (hg : ((x.gcd y : Nat) : Int) ≠ 0) (hz : z = 0) :
    Calls Try.prog 6 #[.agg #[.bool m0, .slice a0 n0 c0], .agg #[.bool m1, .slice a1 n1 c1], .agg #[.bool m2, .slice a2 n2 c2]] w (RetB (.bool true) w) := by
  have bd_x : Bd (x) 25 := h0.inn.bd l0
  have bd_y : Bd (y) 25 := h1.inn.bd l1
  have bd_z : Bd (z) 25 := h2.inn.bd l2
  have bd_o : Bd ((0 : Int)) 1 := bd_zero
  go_enter Try.func6, Try.ntmps6
  go_upto_region 1 with (fail)
  refine wp_world (fun W hW => ?_)
  have HB0 : Hid (Below w.heap.size w W) := by rw [hW]; exact step_alloc (step_alloc (below_alloc _ _))
  have S0 : Hid (St w W _ _) := Lib.hid (St.mk (Live.add_box (show Box W (w.heap.size) m0 a0 n0 c0 from by rw [hW]; exact ((Box.new _ _ _ _ _ _ _ (by simp)).below (below_alloc _ _)).below (below_alloc _ _)) (Live.add_box (show Box W (w.heap.size + 1) m1 a1 n1 c1 from by rw [hW]; exact (Box.new _ _ _ _ _ _ _ (by simp)).below (below_alloc _ _)) (Live.add_box (show Box W (w.heap.size + 2) m2 a2 n2 c2 from by rw [hW]; exact Box.new _ _ _ _ _ _ _ (by simp)) (Live.nil W)))) (Live.add_num (h0.below HB0.out) (Live.add_num (h1.below HB0.out) (Live.add_num (h2.below HB0.out) (Live.add_can (zero_cx W) (Live.nil W))))) HB0.out)
  clear hW HB0
  obtain ⟨bx_0, bx_1⟩ := S0.out.b.c
  obtain ⟨by_0, by_1⟩ := S0.out.b.t.c
  obtain ⟨bz_0, bz_1⟩ := S0.out.b.t.t.c
  have bd_g : Bd (((x.gcd y : Nat) : Int)) 25 := bd_x.gcd bd_y
  have bd_qa : Bd ((x.tdiv ((x.gcd y : Nat) : Int))) 25 := bd_x.tdiv
  have bd_qb : Bd ((y.tdiv ((x.gcd y : Nat) : Int))) 25 := bd_y.tdiv
  have bd_gg : Bd ((1 : Int)) 1 := by unfold Bd; decide
  have HG := Lib.hid hg
  have HZ := Lib.hid hz
  clear hg hz
  go_wp2_with fail
  refine (great3_no _ _ _ _ _ _ _ _ _ _ _ _ W l0 l1 l2).mono ?_
  rintro e w1 ⟨rfl, hB⟩
  have S1 := Lib.hid (S0.out.step (step_alloc hB))
  clear bx_0 bx_1 by_0 by_1 bz_0 bz_1
  clear S0 hB
  obtain ⟨bx_0, bx_1⟩ := S1.out.b.c
  obtain ⟨by_0, by_1⟩ := S1.out.b.t.c
  obtain ⟨bz_0, bz_1⟩ := S1.out.b.t.t.c
  go_wp2_with fail
  refine (wgcd_any S1.out.n.num S1.out.n.t.num).mono ?_
  rintro e w2 ⟨g_m, g_0, g_n, g_c, rfl, hX, hB⟩
  have S2 := Lib.hid ((S1.out.step hB).can (hX.cx bd_g (by omega)))
  clear bx_0 bx_1 by_0 by_1 bz_0 bz_1
  clear S1 hX hB
  obtain ⟨bx_0, bx_1⟩ := S2.out.b.c
  obtain ⟨by_0, by_1⟩ := S2.out.b.t.c
  obtain ⟨bz_0, bz_1⟩ := S2.out.b.t.t.c
  go_upto_region 4 with (fail)
  refine wp_world (fun w3 hW => ?_)
  clear bx_0 bx_1 by_0 by_1 bz_0 bz_1
  have S3 := Lib.hid (S2.out.alloc (w2.heap.size) g_m g_0 g_n g_c 24 (by simp))
  rw [← hW] at S3
  clear hW S2
  obtain ⟨bx_0, bx_1⟩ := S3.out.b.t.c
  obtain ⟨by_0, by_1⟩ := S3.out.b.t.t.c
  obtain ⟨bz_0, bz_1⟩ := S3.out.b.t.t.t.c
  obtain ⟨b_g_0, b_g_1⟩ := S3.out.b.c
  go_wp2_with fail
  have EQ1 := Lib.hid (show (((x.gcd y : Nat) : Int) : Int).sign = 1 from gcd_nonneg x y HG.out)
  refine (wsign_is (1) S3.out.n.can.nx EQ1.out).mono ?_
  rintro e w4 ⟨rfl, hB⟩
  have S4 := Lib.hid (S3.out.step hB)
  clear bx_0 bx_1 by_0 by_1 bz_0 bz_1 b_g_0 b_g_1
  clear S3 hB
  obtain ⟨bx_0, bx_1⟩ := S4.out.b.t.c
  obtain ⟨by_0, by_1⟩ := S4.out.b.t.t.c
  obtain ⟨bz_0, bz_1⟩ := S4.out.b.t.t.t.c
  obtain ⟨b_g_0, b_g_1⟩ := S4.out.b.c
  go_wp2_with fail
  refine (wexact_any S4.out.n.t.num S4.out.n.can.nx HG.out (tmod_gcd_left x y)).mono ?_
  rintro e w5 ⟨qa_m, qa_0, qa_n, qa_c, rfl, hX, hB⟩
  have S5 := Lib.hid ((S4.out.step hB).can (hX.cx bd_qa (by omega)))
  clear bx_0 bx_1 by_0 by_1 bz_0 bz_1 b_g_0 b_g_1
  clear S4 hX hB
  obtain ⟨bx_0, bx_1⟩ := S5.out.b.t.c
  obtain ⟨by_0, by_1⟩ := S5.out.b.t.t.c
  obtain ⟨bz_0, bz_1⟩ := S5.out.b.t.t.t.c
  obtain ⟨b_g_0, b_g_1⟩ := S5.out.b.c
  go_upto_region 7 with (fail)
  refine wp_world (fun w6 hW => ?_)
  clear bx_0 bx_1 by_0 by_1 bz_0 bz_1 b_g_0 b_g_1
  have S6 := Lib.hid (S5.out.alloc (w5.heap.size) qa_m qa_0 qa_n qa_c 24 (by simp))
  rw [← hW] at S6
  clear hW S5
  obtain ⟨bx_0, bx_1⟩ := S6.out.b.t.t.c
  obtain ⟨by_0, by_1⟩ := S6.out.b.t.t.t.c
  obtain ⟨bz_0, bz_1⟩ := S6.out.b.t.t.t.t.c
  obtain ⟨b_g_0, b_g_1⟩ := S6.out.b.t.c
  obtain ⟨b_qa_0, b_qa_1⟩ := S6.out.b.c
  go_wp2_with fail
  refine (wexact_any S6.out.n.t.t.t.num S6.out.n.t.can.nx HG.out (tmod_gcd_right x y)).mono ?_
  rintro e w7 ⟨qb_m, qb_0, qb_n, qb_c, rfl, hX, hB⟩
  have S7 := Lib.hid ((S6.out.step hB).can (hX.cx bd_qb (by omega)))
  clear bx_0 bx_1 by_0 by_1 bz_0 bz_1 b_g_0 b_g_1 b_qa_0 b_qa_1
  clear S6 hX hB
  obtain ⟨bx_0, bx_1⟩ := S7.out.b.t.t.c
  obtain ⟨by_0, by_1⟩ := S7.out.b.t.t.t.c
  obtain ⟨bz_0, bz_1⟩ := S7.out.b.t.t.t.t.c
  obtain ⟨b_g_0, b_g_1⟩ := S7.out.b.t.c
  obtain ⟨b_qa_0, b_qa_1⟩ := S7.out.b.c
  go_upto_region 8 with (fail)
  refine wp_world (fun w8 hW => ?_)
  clear bx_0 bx_1 by_0 by_1 bz_0 bz_1 b_g_0 b_g_1 b_qa_0 b_qa_1
  have S8 := Lib.hid (S7.out.alloc (w7.heap.size) qb_m qb_0 qb_n qb_c 24 (by simp))
  rw [← hW] at S8
  clear hW S7
  obtain ⟨bx_0, bx_1⟩ := S8.out.b.t.t.t.c
  obtain ⟨by_0, by_1⟩ := S8.out.b.t.t.t.t.c
  obtain ⟨bz_0, bz_1⟩ := S8.out.b.t.t.t.t.t.c
  obtain ⟨b_g_0, b_g_1⟩ := S8.out.b.t.t.c
  obtain ⟨b_qa_0, b_qa_1⟩ := S8.out.b.t.c
  obtain ⟨b_qb_0, b_qb_1⟩ := S8.out.b.c
  go_wp2_with fail
  have EQ2 := Lib.hid (show (((x.gcd y : Nat) : Int) : Int).sign = 1 from gcd_nonneg x y HG.out)
  refine (wsign_is (1) S8.out.n.t.t.can.nx EQ2.out).mono ?_
  rintro e w9 ⟨rfl, hB⟩
  have S9 := Lib.hid (S8.out.step hB)
  clear bx_0 bx_1 by_0 by_1 bz_0 bz_1 b_g_0 b_g_1 b_qa_0 b_qa_1 b_qb_0 b_qb_1
  clear S8 hB
  obtain ⟨bx_0, bx_1⟩ := S9.out.b.t.t.t.c
  obtain ⟨by_0, by_1⟩ := S9.out.b.t.t.t.t.c
  obtain ⟨bz_0, bz_1⟩ := S9.out.b.t.t.t.t.t.c
  obtain ⟨b_g_0, b_g_1⟩ := S9.out.b.t.t.c
  obtain ⟨b_qa_0, b_qa_1⟩ := S9.out.b.t.c
  obtain ⟨b_qb_0, b_qb_1⟩ := S9.out.b.c
  go_wp2_with fail
  refine (wgcd_any S9.out.n.t.can.nx S9.out.n.can.nx).mono ?_
  rintro e w10 ⟨gg_m, gg_0, gg_n, gg_c, rfl, hX, hB⟩
  rw [gcd_parts HG.out] at hX
  have S10 := Lib.hid ((S9.out.step hB).can (hX.cx bd_gg (by omega)))
  clear bx_0 bx_1 by_0 by_1 bz_0 bz_1 b_g_0 b_g_1 b_qa_0 b_qa_1 b_qb_0 b_qb_1
  clear S9 hX hB
  obtain ⟨bx_0, bx_1⟩ := S10.out.b.t.t.t.c
  obtain ⟨by_0, by_1⟩ := S10.out.b.t.t.t.t.c
  obtain ⟨bz_0, bz_1⟩ := S10.out.b.t.t.t.t.t.c
  obtain ⟨b_g_0, b_g_1⟩ := S10.out.b.t.t.c
  obtain ⟨b_qa_0, b_qa_1⟩ := S10.out.b.t.c
  obtain ⟨b_qb_0, b_qb_1⟩ := S10.out.b.c
  go_wp2_with fail
  have bd_one : Bd ((1 : Int)) 1 := by unfold Bd; decide
  refine (wof_any (1) _ ⟨by omega, by omega⟩).mono ?_
  rintro e w11 ⟨one_m, one_0, one_n, one_c, rfl, hX, hB⟩
  have S11 := Lib.hid ((S10.out.step hB).can (hX.cx bd_one (by omega)))
  clear bx_0 bx_1 by_0 by_1 bz_0 bz_1 b_g_0 b_g_1 b_qa_0 b_qa_1 b_qb_0 b_qb_1
  clear S10 hX hB
  obtain ⟨bx_0, bx_1⟩ := S11.out.b.t.t.t.c
  obtain ⟨by_0, by_1⟩ := S11.out.b.t.t.t.t.c
  obtain ⟨bz_0, bz_1⟩ := S11.out.b.t.t.t.t.t.c
  obtain ⟨b_g_0, b_g_1⟩ := S11.out.b.t.t.c
  obtain ⟨b_qa_0, b_qa_1⟩ := S11.out.b.t.c
  obtain ⟨b_qb_0, b_qb_1⟩ := S11.out.b.c
  go_wp2_with fail
  refine (zsame S11.out.n.t.can S11.out.n.can rfl).mono ?_
  rintro e w12 ⟨rfl, hB⟩
  have S12 := Lib.hid (S11.out.step hB)
  clear bx_0 bx_1 by_0 by_1 bz_0 bz_1 b_g_0 b_g_1 b_qa_0 b_qa_1 b_qb_0 b_qb_1
  clear S11 hB
  obtain ⟨bx_0, bx_1⟩ := S12.out.b.t.t.t.c
  obtain ⟨by_0, by_1⟩ := S12.out.b.t.t.t.t.c
  obtain ⟨bz_0, bz_1⟩ := S12.out.b.t.t.t.t.t.c
  obtain ⟨b_g_0, b_g_1⟩ := S12.out.b.t.t.c
  obtain ⟨b_qa_0, b_qa_1⟩ := S12.out.b.t.c
  obtain ⟨b_qb_0, b_qb_1⟩ := S12.out.b.c
  have bd_xz : Bd ((x * z)) 50 := bd_x.mul bd_z
  have bd_yz : Bd ((y * z)) 50 := bd_y.mul bd_z
  have bd_c : Bd ((((x * z).gcd (y * z) : Nat) : Int)) 50 := bd_xz.gcd bd_yz
  go_upto_region 10 with (fail)
  go_cut [12] from 71 to 77 (fun sl0 w9 => ∃ (bb0 : Nat) (qm0 : Bool) (q0 : Option Addr) (qn0 : Nat) (qc0 : Nat), sl0 = .pointer (some ⟨bb0, 0, none⟩) ∧ Hid (St w w9 [.box bb0 qm0 q0 qn0 qc0, .box (w7.heap.size) qb_m qb_0 qb_n qb_c, .box (w5.heap.size) qa_m qa_0 qa_n qa_c, .box (w2.heap.size) g_m g_0 g_n g_c, .box (w.heap.size) m0 a0 n0 c0, .box (w.heap.size + 1) m1 a1 n1 c1, .box (w.heap.size + 2) m2 a2 n2 c2] [.can qm0 q0 qn0 qc0 (((x * z).gcd (y * z) : Nat) : Int), .can one_m one_0 one_n one_c (1 : Int), .can gg_m gg_0 gg_n gg_c (1 : Int), .can qb_m qb_0 qb_n qb_c (y.tdiv ((x.gcd y : Nat) : Int)), .can qa_m qa_0 qa_n qa_c (x.tdiv ((x.gcd y : Nat) : Int)), .can g_m g_0 g_n g_c ((x.gcd y : Nat) : Int), .num m0 a0 n0 c0 x, .num m1 a1 n1 c1 y, .num m2 a2 n2 c2 z, .can false none 0 0 (0 : Int)]))
  case first =>
    clear bx_0 bx_1 by_0 by_1 bz_0 bz_1 b_g_0 b_g_1 b_qa_0 b_qa_1 b_qb_0 b_qb_1
    have S13 := Lib.hid S12.out.drew
    clear S12
    refine wp_region_held_drew (S := fun w' => (w'.cell? ⟨(w.heap.size), 0, none⟩ = some (.bool m0) ∧ w'.cell? ⟨(w.heap.size), 1, none⟩ = some (.slice a0 n0 c0)) ∧ (w'.cell? ⟨(w.heap.size + 1), 0, none⟩ = some (.bool m1) ∧ w'.cell? ⟨(w.heap.size + 1), 1, none⟩ = some (.slice a1 n1 c1)) ∧ (w'.cell? ⟨(w.heap.size + 2), 0, none⟩ = some (.bool m2) ∧ w'.cell? ⟨(w.heap.size + 2), 1, none⟩ = some (.slice a2 n2 c2))) (by kernel_rfl) (⟨S13.out.b.t.t.t.c, S13.out.b.t.t.t.t.c, S13.out.b.t.t.t.t.t.c⟩) (fun hH => ?_)
    refine anyH_world (fun w13 hW => ?_)
    rw [← hW] at S13 hH
    clear hW
    refine step_on 0 rfl (by kernel_rfl) (fun _ _ _ h => h) (by rfl) hH (by intro w hS; go_simp <;> with_reducible rfl) ?_
    try simp only [nrm]
    refine step_on 1 rfl (by kernel_rfl) (fun _ _ _ h => h) (by rfl) hH (by intro w hS; go_simp <;> with_reducible rfl) ?_
    try simp only [nrm]
    refine step_on 3 rfl (by kernel_rfl) (fun _ _ _ h => h) (by rfl) hH (by intro w hS; go_simp <;> with_reducible rfl) ?_
    try simp only [nrm]
    refine step_on 4 rfl (by kernel_rfl) (fun _ _ _ h => h) (by rfl) hH (by intro w hS; go_simp <;> with_reducible rfl) ?_
    try simp only [nrm]
    refine wpAnyH_ready (rs := [2, 7]) (by kernel_rfl) (by simp) (ready_cons rfl (fun K hK => ?_) (ready_cons rfl (fun K hK => ?_) (AllReadyH.nil)))
    · go_simp
      refine (wmul_any S13.out.n.t.t.t.t.t.num S13.out.n.t.t.t.t.t.t.t.num).mono ?_
      rintro e w14 ⟨xz_m, xz_0, xz_n, xz_c, rfl, hX, hB⟩
      have S14 := Lib.hid ((S13.out.step hB).can (hX.cx bd_xz (by omega)))
      clear S13 hX
      clear hB
      go_wp2_with fail
      refine hK.out _ _ ⟨S14.out.b.t.t.t.c, S14.out.b.t.t.t.t.c, S14.out.b.t.t.t.t.t.c⟩ (fun h2 => ?_)
      clear hK K hH
      have hH := h2
      clear h2
      try simp only [nrm]
      refine wpAnyH_ready (rs := [5, 7]) (by kernel_rfl) (by simp) (ready_cons rfl (fun K hK => ?_) (ready_cons rfl (fun K hK => ?_) (AllReadyH.nil)))
      · go_simp
        refine (wmul_any S14.out.n.t.t.t.t.t.t.t.num S14.out.n.t.t.t.t.t.t.t.t.num).mono ?_
        rintro e w15 ⟨yz_m, yz_0, yz_n, yz_c, rfl, hX, hB⟩
        have S15 := Lib.hid ((S14.out.step hB).can (hX.cx bd_yz (by omega)))
        clear S14 hX
        clear hB
        go_wp2_with fail
        refine hK.out _ _ ⟨S15.out.b.t.t.t.c, S15.out.b.t.t.t.t.c, S15.out.b.t.t.t.t.t.c⟩ (fun h2 => ?_)
        clear hK K hH
        have hH := h2
        clear h2
        try simp only [nrm]
        refine wpAnyH_ready (rs := [6, 7]) (by kernel_rfl) (by simp) (ready_cons rfl (fun K hK => ?_) (ready_cons rfl (fun K hK => ?_) (AllReadyH.nil)))
        · go_simp
          refine (wgcd_any S15.out.n.t.can.nx S15.out.n.can.nx).mono ?_
          rintro e w16 ⟨c_m, c_0, c_n, c_c, rfl, hX, hB⟩
          have S16 := Lib.hid ((S15.out.step hB).can (hX.cx bd_c (by omega)))
          clear S15 hX
          clear hB
          go_wp2_with fail
          refine hK.out _ _ ⟨S16.out.b.t.t.t.c, S16.out.b.t.t.t.t.c, S16.out.b.t.t.t.t.t.c⟩ (fun h2 => ?_)
          clear hK K hH
          have hH := h2
          clear h2
          try simp only [nrm]
          refine wpAnyH_ready (rs := [7]) (by kernel_rfl) (by simp) (ready_cons rfl (fun K hK => ?_) (AllReadyH.nil))
          · go_simp
            have U7 := under_of S16.out.b
            have z7 := S16.out.h.size
            have S17 := Lib.hid (S16.out.step (below_alloc w16 (.cells #[.bool false, .slice none 0 0] 24)))
            have V7_17 := Lib.hid (Box.new w16 w16.heap.size false none 0 0 24 rfl)
            clear S16
            refine hK.out _ _ ⟨S17.out.b.t.t.t.c, S17.out.b.t.t.t.t.c, S17.out.b.t.t.t.t.t.c⟩ (fun h2 => ?_)
            clear hK K hH
            have hH := h2
            clear h2
            try simp only [nrm]
            refine anyH_world (fun w17 hW => ?_)
            rw [← hW] at S17 hH V7_17
            clear hW
            have sb0 := V7_17.out.c0
            have sb1 := V7_17.out.c1
            have sb2 := V7_17.out.f0
            have sb3 := V7_17.out.f1
            refine step_one 8 rfl (by kernel_rfl) (fun K hK => ?_)
            go_simp
            have S18 := Lib.hid (S17.out.put V7_17.out (.bool c_m) (.slice c_0 c_n c_c) z7 (under_apart U7) (nums_apart rfl))
            have V7_18 := Lib.hid (V7_17.out.set c_m c_0 c_n c_c)
            clear S17 V7_17 sb0 sb1 sb2 sb3
            refine hK.out _ _ ⟨S18.out.b.t.t.t.c, S18.out.b.t.t.t.t.c, S18.out.b.t.t.t.t.t.c⟩ (fun h2 => ?_)
            clear hK K hH
            have hH := h2
            clear h2
            try simp only [nrm]
            refine anyH_world (fun w18 hW => ?_)
            rw [← hW] at S18 hH V7_18
            clear hW
            refine wpAnyH_done (by kernel_rfl) ?_ _
            go_wp2_with fail
            go_meet
            case rel => exact ⟨_, _, _, _, _, rfl, (Live.add_box V7_18.out S18.out.b), (Live.add_can S18.out.n.can S18.out.n.t.t.t), S18.out.h⟩
        · go_simp
          have U7 := under_of S15.out.b
          have z7 := S15.out.h.size
          have S16 := Lib.hid (S15.out.step (below_alloc w15 (.cells #[.bool false, .slice none 0 0] 24)))
          have V7_16 := Lib.hid (Box.new w15 w15.heap.size false none 0 0 24 rfl)
          clear S15
          refine hK.out _ _ ⟨S16.out.b.t.t.t.c, S16.out.b.t.t.t.t.c, S16.out.b.t.t.t.t.t.c⟩ (fun h2 => ?_)
          clear hK K hH
          have hH := h2
          clear h2
          try simp only [nrm]
          refine anyH_world (fun w16 hW => ?_)
          rw [← hW] at S16 hH V7_16
          clear hW
          refine wpAnyH_ready (rs := [6]) (by kernel_rfl) (by simp) (ready_cons rfl (fun K hK => ?_) (AllReadyH.nil))
          · go_simp
            refine (wgcd_any S16.out.n.t.can.nx S16.out.n.can.nx).mono ?_
            rintro e w17 ⟨c_m, c_0, c_n, c_c, rfl, hX, hB⟩
            have S17 := Lib.hid ((S16.out.step hB).can (hX.cx bd_c (by omega)))
            clear S16 hX
            have V7_17 := Lib.hid (V7_16.out.below hB)
            clear V7_16
            clear hB
            go_wp2_with fail
            refine hK.out _ _ ⟨S17.out.b.t.t.t.c, S17.out.b.t.t.t.t.c, S17.out.b.t.t.t.t.t.c⟩ (fun h2 => ?_)
            clear hK K hH
            have hH := h2
            clear h2
            try simp only [nrm]
            have sb0 := V7_17.out.c0
            have sb1 := V7_17.out.c1
            have sb2 := V7_17.out.f0
            have sb3 := V7_17.out.f1
            refine step_one 8 rfl (by kernel_rfl) (fun K hK => ?_)
            go_simp
            have S18 := Lib.hid (S17.out.put V7_17.out (.bool c_m) (.slice c_0 c_n c_c) z7 (under_apart U7) (nums_apart rfl))
            have V7_18 := Lib.hid (V7_17.out.set c_m c_0 c_n c_c)
            clear S17 V7_17 sb0 sb1 sb2 sb3
            refine hK.out _ _ ⟨S18.out.b.t.t.t.c, S18.out.b.t.t.t.t.c, S18.out.b.t.t.t.t.t.c⟩ (fun h2 => ?_)
            clear hK K hH
            have hH := h2
            clear h2
            try simp only [nrm]
            refine anyH_world (fun w18 hW => ?_)
            rw [← hW] at S18 hH V7_18
            clear hW
            refine wpAnyH_done (by kernel_rfl) ?_ _
            go_wp2_with fail
            go_meet
            case rel => exact ⟨_, _, _, _, _, rfl, (Live.add_box V7_18.out S18.out.b), (Live.add_can S18.out.n.can S18.out.n.t.t.t), S18.out.h⟩
      · go_simp
        have U7 := under_of S14.out.b
        have z7 := S14.out.h.size
        have S15 := Lib.hid (S14.out.step (below_alloc w14 (.cells #[.bool false, .slice none 0 0] 24)))
        have V7_15 := Lib.hid (Box.new w14 w14.heap.size false none 0 0 24 rfl)
        clear S14
        refine hK.out _ _ ⟨S15.out.b.t.t.t.c, S15.out.b.t.t.t.t.c, S15.out.b.t.t.t.t.t.c⟩ (fun h2 => ?_)
        clear hK K hH
        have hH := h2
        clear h2
        try simp only [nrm]
        refine anyH_world (fun w15 hW => ?_)
        rw [← hW] at S15 hH V7_15
        clear hW
        refine wpAnyH_ready (rs := [5]) (by kernel_rfl) (by simp) (ready_cons rfl (fun K hK => ?_) (AllReadyH.nil))
        · go_simp
          refine (wmul_any S15.out.n.t.t.t.t.t.t.t.num S15.out.n.t.t.t.t.t.t.t.t.num).mono ?_
          rintro e w16 ⟨yz_m, yz_0, yz_n, yz_c, rfl, hX, hB⟩
          have S16 := Lib.hid ((S15.out.step hB).can (hX.cx bd_yz (by omega)))
          clear S15 hX
          have V7_16 := Lib.hid (V7_15.out.below hB)
          clear V7_15
          clear hB
          go_wp2_with fail
          refine hK.out _ _ ⟨S16.out.b.t.t.t.c, S16.out.b.t.t.t.t.c, S16.out.b.t.t.t.t.t.c⟩ (fun h2 => ?_)
          clear hK K hH
          have hH := h2
          clear h2
          try simp only [nrm]
          refine wpAnyH_ready (rs := [6]) (by kernel_rfl) (by simp) (ready_cons rfl (fun K hK => ?_) (AllReadyH.nil))
          · go_simp
            refine (wgcd_any S16.out.n.t.can.nx S16.out.n.can.nx).mono ?_
            rintro e w17 ⟨c_m, c_0, c_n, c_c, rfl, hX, hB⟩
            have S17 := Lib.hid ((S16.out.step hB).can (hX.cx bd_c (by omega)))
            clear S16 hX
            have V7_17 := Lib.hid (V7_16.out.below hB)
            clear V7_16
            clear hB
            go_wp2_with fail
            refine hK.out _ _ ⟨S17.out.b.t.t.t.c, S17.out.b.t.t.t.t.c, S17.out.b.t.t.t.t.t.c⟩ (fun h2 => ?_)
            clear hK K hH
            have hH := h2
            clear h2
            try simp only [nrm]
            have sb0 := V7_17.out.c0
            have sb1 := V7_17.out.c1
            have sb2 := V7_17.out.f0
            have sb3 := V7_17.out.f1
            refine step_one 8 rfl (by kernel_rfl) (fun K hK => ?_)
            go_simp
            have S18 := Lib.hid (S17.out.put V7_17.out (.bool c_m) (.slice c_0 c_n c_c) z7 (under_apart U7) (nums_apart rfl))
            have V7_18 := Lib.hid (V7_17.out.set c_m c_0 c_n c_c)
            clear S17 V7_17 sb0 sb1 sb2 sb3
            refine hK.out _ _ ⟨S18.out.b.t.t.t.c, S18.out.b.t.t.t.t.c, S18.out.b.t.t.t.t.t.c⟩ (fun h2 => ?_)
            clear hK K hH
            have hH := h2
            clear h2
            try simp only [nrm]
            refine anyH_world (fun w18 hW => ?_)
            rw [← hW] at S18 hH V7_18
            clear hW
            refine wpAnyH_done (by kernel_rfl) ?_ _
            go_wp2_with fail
            go_meet
            case rel => exact ⟨_, _, _, _, _, rfl, (Live.add_box V7_18.out S18.out.b), (Live.add_can S18.out.n.can S18.out.n.t.t.t), S18.out.h⟩
    · go_simp
      have U7 := under_of S13.out.b
      have z7 := S13.out.h.size
      have S14 := Lib.hid (S13.out.step (below_alloc w13 (.cells #[.bool false, .slice none 0 0] 24)))
      have V7_14 := Lib.hid (Box.new w13 w13.heap.size false none 0 0 24 rfl)
      clear S13
      refine hK.out _ _ ⟨S14.out.b.t.t.t.c, S14.out.b.t.t.t.t.c, S14.out.b.t.t.t.t.t.c⟩ (fun h2 => ?_)
      clear hK K hH
      have hH := h2
      clear h2
      try simp only [nrm]
      refine anyH_world (fun w14 hW => ?_)
      rw [← hW] at S14 hH V7_14
      clear hW
      refine wpAnyH_ready (rs := [2]) (by kernel_rfl) (by simp) (ready_cons rfl (fun K hK => ?_) (AllReadyH.nil))
      · go_simp
        refine (wmul_any S14.out.n.t.t.t.t.t.num S14.out.n.t.t.t.t.t.t.t.num).mono ?_
        rintro e w15 ⟨xz_m, xz_0, xz_n, xz_c, rfl, hX, hB⟩
        have S15 := Lib.hid ((S14.out.step hB).can (hX.cx bd_xz (by omega)))
        clear S14 hX
        have V7_15 := Lib.hid (V7_14.out.below hB)
        clear V7_14
        clear hB
        go_wp2_with fail
        refine hK.out _ _ ⟨S15.out.b.t.t.t.c, S15.out.b.t.t.t.t.c, S15.out.b.t.t.t.t.t.c⟩ (fun h2 => ?_)
        clear hK K hH
        have hH := h2
        clear h2
        try simp only [nrm]
        refine wpAnyH_ready (rs := [5]) (by kernel_rfl) (by simp) (ready_cons rfl (fun K hK => ?_) (AllReadyH.nil))
        · go_simp
          refine (wmul_any S15.out.n.t.t.t.t.t.t.t.num S15.out.n.t.t.t.t.t.t.t.t.num).mono ?_
          rintro e w16 ⟨yz_m, yz_0, yz_n, yz_c, rfl, hX, hB⟩
          have S16 := Lib.hid ((S15.out.step hB).can (hX.cx bd_yz (by omega)))
          clear S15 hX
          have V7_16 := Lib.hid (V7_15.out.below hB)
          clear V7_15
          clear hB
          go_wp2_with fail
          refine hK.out _ _ ⟨S16.out.b.t.t.t.c, S16.out.b.t.t.t.t.c, S16.out.b.t.t.t.t.t.c⟩ (fun h2 => ?_)
          clear hK K hH
          have hH := h2
          clear h2
          try simp only [nrm]
          refine wpAnyH_ready (rs := [6]) (by kernel_rfl) (by simp) (ready_cons rfl (fun K hK => ?_) (AllReadyH.nil))
          · go_simp
            refine (wgcd_any S16.out.n.t.can.nx S16.out.n.can.nx).mono ?_
            rintro e w17 ⟨c_m, c_0, c_n, c_c, rfl, hX, hB⟩
            have S17 := Lib.hid ((S16.out.step hB).can (hX.cx bd_c (by omega)))
            clear S16 hX
            have V7_17 := Lib.hid (V7_16.out.below hB)
            clear V7_16
            clear hB
            go_wp2_with fail
            refine hK.out _ _ ⟨S17.out.b.t.t.t.c, S17.out.b.t.t.t.t.c, S17.out.b.t.t.t.t.t.c⟩ (fun h2 => ?_)
            clear hK K hH
            have hH := h2
            clear h2
            try simp only [nrm]
            have sb0 := V7_17.out.c0
            have sb1 := V7_17.out.c1
            have sb2 := V7_17.out.f0
            have sb3 := V7_17.out.f1
            refine step_one 8 rfl (by kernel_rfl) (fun K hK => ?_)
            go_simp
            have S18 := Lib.hid (S17.out.put V7_17.out (.bool c_m) (.slice c_0 c_n c_c) z7 (under_apart U7) (nums_apart rfl))
            have V7_18 := Lib.hid (V7_17.out.set c_m c_0 c_n c_c)
            clear S17 V7_17 sb0 sb1 sb2 sb3
            refine hK.out _ _ ⟨S18.out.b.t.t.t.c, S18.out.b.t.t.t.t.c, S18.out.b.t.t.t.t.t.c⟩ (fun h2 => ?_)
            clear hK K hH
            have hH := h2
            clear h2
            try simp only [nrm]
            refine anyH_world (fun w18 hW => ?_)
            rw [← hW] at S18 hH V7_18
            clear hW
            refine wpAnyH_done (by kernel_rfl) ?_ _
            go_wp2_with fail
            go_meet
            case rel => exact ⟨_, _, _, _, _, rfl, (Live.add_box V7_18.out S18.out.b), (Live.add_can S18.out.n.can S18.out.n.t.t.t), S18.out.h⟩
  case rest =>
  clear bx_0 bx_1 by_0 by_1 bz_0 bz_1 b_g_0 b_g_1 b_qa_0 b_qa_1 b_qb_0 b_qb_1
  clear S12
  obtain ⟨b_c, c_m, c_0, c_n, c_c, rfl, S13⟩ := hcut
  obtain ⟨w13, hW⟩ : ∃ w13, w13 = wc := ⟨_, rfl⟩
  rw [← hW] at S13 ⊢
  clear hW
  obtain ⟨bx_0, bx_1⟩ := S13.out.b.t.t.t.t.c
  obtain ⟨by_0, by_1⟩ := S13.out.b.t.t.t.t.t.c
  obtain ⟨bz_0, bz_1⟩ := S13.out.b.t.t.t.t.t.t.c
  obtain ⟨b_g_0, b_g_1⟩ := S13.out.b.t.t.t.c
  obtain ⟨b_qa_0, b_qa_1⟩ := S13.out.b.t.t.c
  obtain ⟨b_qb_0, b_qb_1⟩ := S13.out.b.t.c
  obtain ⟨b_c_0, b_c_1⟩ := S13.out.b.c
  go_wp2_with fail
  have bd_d : Bd ((((x.gcd y : Nat) : Int) * z)) 50 := bd_g.mul bd_z
  refine (wmul_any S13.out.n.t.t.t.t.t.can.nx S13.out.n.t.t.t.t.t.t.t.t.num).mono ?_
  rintro e w14 ⟨d_m, d_0, d_n, d_c, rfl, hX, hB⟩
  have S14 := Lib.hid ((S13.out.step hB).can (hX.cx bd_d (by omega)))
  clear bx_0 bx_1 by_0 by_1 bz_0 bz_1 b_g_0 b_g_1 b_qa_0 b_qa_1 b_qb_0 b_qb_1 b_c_0 b_c_1
  clear S13 hX hB
  obtain ⟨bx_0, bx_1⟩ := S14.out.b.t.t.t.t.c
  obtain ⟨by_0, by_1⟩ := S14.out.b.t.t.t.t.t.c
  obtain ⟨bz_0, bz_1⟩ := S14.out.b.t.t.t.t.t.t.c
  obtain ⟨b_g_0, b_g_1⟩ := S14.out.b.t.t.t.c
  obtain ⟨b_qa_0, b_qa_1⟩ := S14.out.b.t.t.c
  obtain ⟨b_qb_0, b_qb_1⟩ := S14.out.b.t.c
  obtain ⟨b_c_0, b_c_1⟩ := S14.out.b.c
  go_upto_region 12 with (fail)
  refine wp_world (fun w15 hW => ?_)
  clear bx_0 bx_1 by_0 by_1 bz_0 bz_1 b_g_0 b_g_1 b_qa_0 b_qa_1 b_qb_0 b_qb_1 b_c_0 b_c_1
  have S15 := Lib.hid (S14.out.alloc (w14.heap.size) d_m d_0 d_n d_c 24 (by simp))
  rw [← hW] at S15
  clear hW S14
  obtain ⟨bx_0, bx_1⟩ := S15.out.b.t.t.t.t.t.c
  obtain ⟨by_0, by_1⟩ := S15.out.b.t.t.t.t.t.t.c
  obtain ⟨bz_0, bz_1⟩ := S15.out.b.t.t.t.t.t.t.t.c
  obtain ⟨b_g_0, b_g_1⟩ := S15.out.b.t.t.t.t.c
  obtain ⟨b_qa_0, b_qa_1⟩ := S15.out.b.t.t.t.c
  obtain ⟨b_qb_0, b_qb_1⟩ := S15.out.b.t.t.c
  obtain ⟨b_c_0, b_c_1⟩ := S15.out.b.t.c
  obtain ⟨b_d_0, b_d_1⟩ := S15.out.b.c
  go_wp2_with fail
  have EQ3 := Lib.hid (show (((x.gcd y : Nat) : Int) * z).sign = 0 from by rw [Int.sign_mul, gcd_nonneg x y HG.out, Int.one_mul, HZ.out]; rfl)
  refine (wsign_is 0 S15.out.n.can.nx EQ3.out).mono ?_
  rintro e w16 ⟨rfl, hB⟩
  have S16 := Lib.hid (S15.out.step hB)
  clear bx_0 bx_1 by_0 by_1 bz_0 bz_1 b_g_0 b_g_1 b_qa_0 b_qa_1 b_qb_0 b_qb_1 b_c_0 b_c_1 b_d_0 b_d_1
  clear S15 hB
  obtain ⟨bx_0, bx_1⟩ := S16.out.b.t.t.t.t.t.c
  obtain ⟨by_0, by_1⟩ := S16.out.b.t.t.t.t.t.t.c
  obtain ⟨bz_0, bz_1⟩ := S16.out.b.t.t.t.t.t.t.t.c
  obtain ⟨b_g_0, b_g_1⟩ := S16.out.b.t.t.t.t.c
  obtain ⟨b_qa_0, b_qa_1⟩ := S16.out.b.t.t.t.c
  obtain ⟨b_qb_0, b_qb_1⟩ := S16.out.b.t.t.c
  obtain ⟨b_c_0, b_c_1⟩ := S16.out.b.t.c
  obtain ⟨b_d_0, b_d_1⟩ := S16.out.b.c
  go_wp2_with fail
  have EQ4 := Lib.hid (show (((x * z).gcd (y * z) : Nat) : Int) = (((x.gcd y : Nat) : Int) * z) from by rw [gcd_times]; have h1 := HZ.out; rw [show ((z.natAbs : Nat) : Int) = z from by omega])
  refine (zsame S16.out.n.t.can S16.out.n.can EQ4.out).mono ?_
  rintro e w17 ⟨rfl, hB⟩
  have S17 := Lib.hid (S16.out.step hB)
  clear bx_0 bx_1 by_0 by_1 bz_0 bz_1 b_g_0 b_g_1 b_qa_0 b_qa_1 b_qb_0 b_qb_1 b_c_0 b_c_1 b_d_0 b_d_1
  clear S16 hB
  obtain ⟨bx_0, bx_1⟩ := S17.out.b.t.t.t.t.t.c
  obtain ⟨by_0, by_1⟩ := S17.out.b.t.t.t.t.t.t.c
  obtain ⟨bz_0, bz_1⟩ := S17.out.b.t.t.t.t.t.t.t.c
  obtain ⟨b_g_0, b_g_1⟩ := S17.out.b.t.t.t.t.c
  obtain ⟨b_qa_0, b_qa_1⟩ := S17.out.b.t.t.t.c
  obtain ⟨b_qb_0, b_qb_1⟩ := S17.out.b.t.t.c
  obtain ⟨b_c_0, b_c_1⟩ := S17.out.b.t.c
  obtain ⟨b_d_0, b_d_1⟩ := S17.out.b.c
  go_wp2_with fail
  refine (wsign_is 0 S17.out.n.t.t.t.t.t.t.t.t.t.num (by rw [HZ.out]; rfl)).mono ?_
  rintro e w18 ⟨rfl, hB⟩
  have S18 := Lib.hid (S17.out.step hB)
  clear bx_0 bx_1 by_0 by_1 bz_0 bz_1 b_g_0 b_g_1 b_qa_0 b_qa_1 b_qb_0 b_qb_1 b_c_0 b_c_1 b_d_0 b_d_1
  clear S17 hB
  obtain ⟨bx_0, bx_1⟩ := S18.out.b.t.t.t.t.t.c
  obtain ⟨by_0, by_1⟩ := S18.out.b.t.t.t.t.t.t.c
  obtain ⟨bz_0, bz_1⟩ := S18.out.b.t.t.t.t.t.t.t.c
  obtain ⟨b_g_0, b_g_1⟩ := S18.out.b.t.t.t.t.c
  obtain ⟨b_qa_0, b_qa_1⟩ := S18.out.b.t.t.t.c
  obtain ⟨b_qb_0, b_qb_1⟩ := S18.out.b.t.t.c
  obtain ⟨b_c_0, b_c_1⟩ := S18.out.b.t.c
  obtain ⟨b_d_0, b_d_1⟩ := S18.out.b.c
  go_wp2_with fail
  have EQ5 := Lib.hid (show (((x * z).gcd (y * z) : Nat) : Int) = (((x.gcd y : Nat) : Int) * z) from by rw [gcd_times]; have h1 := HZ.out; rw [show ((z.natAbs : Nat) : Int) = z from by omega])
  refine (zsame S18.out.n.t.can S18.out.n.can EQ5.out).mono ?_
  rintro e w19 ⟨rfl, hB⟩
  have S19 := Lib.hid (S18.out.step hB)
  clear bx_0 bx_1 by_0 by_1 bz_0 bz_1 b_g_0 b_g_1 b_qa_0 b_qa_1 b_qb_0 b_qb_1 b_c_0 b_c_1 b_d_0 b_d_1
  clear S18 hB
  obtain ⟨bx_0, bx_1⟩ := S19.out.b.t.t.t.t.t.c
  obtain ⟨by_0, by_1⟩ := S19.out.b.t.t.t.t.t.t.c
  obtain ⟨bz_0, bz_1⟩ := S19.out.b.t.t.t.t.t.t.t.c
  obtain ⟨b_g_0, b_g_1⟩ := S19.out.b.t.t.t.t.c
  obtain ⟨b_qa_0, b_qa_1⟩ := S19.out.b.t.t.t.c
  obtain ⟨b_qb_0, b_qb_1⟩ := S19.out.b.t.t.c
  obtain ⟨b_c_0, b_c_1⟩ := S19.out.b.t.c
  obtain ⟨b_d_0, b_d_1⟩ := S19.out.b.c
  go_wp2_with fail
  refine (known4_any _).mono ?_
  rintro e w20 ⟨rfl, hB⟩
  have S20 := Lib.hid (S19.out.step hB)
  clear bx_0 bx_1 by_0 by_1 bz_0 bz_1 b_g_0 b_g_1 b_qa_0 b_qa_1 b_qb_0 b_qb_1 b_c_0 b_c_1 b_d_0 b_d_1
  clear S19 hB
  obtain ⟨bx_0, bx_1⟩ := S20.out.b.t.t.t.t.t.c
  obtain ⟨by_0, by_1⟩ := S20.out.b.t.t.t.t.t.t.c
  obtain ⟨bz_0, bz_1⟩ := S20.out.b.t.t.t.t.t.t.t.c
  obtain ⟨b_g_0, b_g_1⟩ := S20.out.b.t.t.t.t.c
  obtain ⟨b_qa_0, b_qa_1⟩ := S20.out.b.t.t.t.c
  obtain ⟨b_qb_0, b_qb_1⟩ := S20.out.b.t.t.c
  obtain ⟨b_c_0, b_c_1⟩ := S20.out.b.t.c
  obtain ⟨b_d_0, b_d_1⟩ := S20.out.b.c
  go_wp2_with fail
  go_ret
  exact ⟨rfl, S20.out.h⟩

end Go.Proofs.Ytponiigpmjnffaa

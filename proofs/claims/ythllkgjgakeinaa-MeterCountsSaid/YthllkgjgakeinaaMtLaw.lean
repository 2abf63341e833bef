/-
  What the meter's laws share: great, known.
-/
import Derived.Test.YthllkgjgakeinaaMtProg2
import Derived.Test.YthllkgjgakeinaaMtRef
import Derived.Test.YthllkgjgakeinaaMtRow
set_option maxRecDepth 8192
namespace Go.Proofs.Ythllkgjgakeinaa
open Go.RowKit
def RetQ (w : World) (e : Ending) (w' : World) : Prop := ∃ r, e = .returned (.bool r) ∧ w = w'
set_option maxHeartbeats 4000000 in
theorem mgreat_any {ao : Option Addr} {n cap : Nat} {l : List MOp} {w : World} (h : Lo w ao n cap l) : Calls Try.prog 7 #[.slice ao n cap] w (RetQ w) := by
  have HP := Lib.hid h
  have hbig := h.big
  clear h
  go_enter Try.func7, Try.ntmps7
  go_wp2
  go_loop [3, 8] (fun m i => ∃ (z : Int) (k : Nat), m = .int .i64 z ∧ i = .int .i64 k ∧ k ≤ n) (fun _ i => n - (intOf i).toNat)
  case atStart => exact ⟨0, 0, rfl, rfl, Nat.zero_le _⟩
  case round =>
    obtain ⟨z, k, rfl, rfl, hk⟩ := hrel
    by_cases hkn : k < n
    · obtain ⟨b, off, bo, m, c, rfl, _, hp, hcl⟩ := HP.out.at hkn
      obtain ⟨a0, a1, a2⟩ := hcl w (Below.refl _ _)
      have HQ := Lib.hid hp
      have hpb := hp.big
      have hki : (k : Int) < (n : Int) := by omega
      clear hcl hp
      go_wp2_with fail
      go_loop [3, 25] (fun m2 i => ∃ (z : Int) (j : Nat), m2 = .int .i64 z ∧ i = .int .i64 j ∧ j ≤ m) (fun _ i => m - (intOf i).toNat)
      case atStart => exact ⟨_, 0, rfl, rfl, Nat.zero_le _⟩
      case round =>
        obtain ⟨z, j, rfl, rfl, hj⟩ := hrel
        by_cases hjm : j < m
        · obtain ⟨b2, off2, mm, bo2, l2, c2, co, e2, cc, rfl, _, hs, hcl⟩ := HQ.out.at hjm
          obtain ⟨d0, d1, d2⟩ := hcl w (Below.refl _ _)
          have hji : (j : Int) < (m : Int) := by omega
          clear hcl hs
          go_wp2_with fail
          go_round
          case rel => exact ⟨_, j + 1, rfl, by go_num, by omega⟩
          case measure => simp [intOf]; omega
        · obtain rfl : j = m := by omega
          go_wp2_with fail
          go_round
          case rel => exact ⟨_, k + 1, rfl, by go_num, by omega⟩
          case measure => simp [intOf]; omega
    · obtain rfl : k = n := by omega
      by_cases h2 : 200 < k
      · have hd : decide ((200 : Int) < (k : Int)) = true := decide_eq_true (by omega)
        go_wp2_with fail
        go_ret
        exact ⟨_, rfl, rfl⟩
      · have hd : decide ((200 : Int) < (k : Int)) = false := decide_eq_false (by omega)
        go_wp2_with fail
        go_ret
        exact ⟨_, rfl, rfl⟩
theorem lp_lit {V : World} {g1 g2 g3 : Nat} (k1 : Cells V g1 [.int .u32 0, .int .u32 1]) (k3 : Cells V g3 [.bool false, .slice (some ⟨g1, 0, none⟩) 2 2, .slice (some ⟨g2, 0, none⟩) 1 1]) : Lp V (some ⟨g3, 0, none⟩) 1 1 [[0, 1]] := by
  have hs : Sl V (some ⟨g1, 0, none⟩) 2 2 [0, 1] := Sl.of_cells rfl (by omega) (by omega) (fun x hx => by simp at hx; omega) fun t ht => by
    rw [Nat.zero_add, k1.cell]
    rcases t with _ | _ | t
    · rfl
    · rfl
    · omega
  refine ⟨[[.bool false, .slice (some ⟨g1, 0, none⟩) 2 2, .slice (some ⟨g2, 0, none⟩) 1 1]], Gl.of_cells rfl (by omega) (by omega) (Each.mk1 rfl fun v hv => by simp at hv; rcases hv with rfl | rfl | rfl <;> rfl) (fun _ => k3.lt) fun t ht j hj => ?_, ⟨_, _, _, _, _, _, _, rfl, hs⟩, trivial⟩
  obtain rfl : t = 0 := by omega
  rw [show 0 + 0 * 3 + j = j by omega, k3.cell]
  rfl
def k0 : MS := MS.new 1 1 1 0
set_option maxHeartbeats 8000000 in
set_option maxRecDepth 100000 in
theorem mknown_any (w : World) : Calls Try.prog 8 #[] w (RetB (.bool true) w) := by
  have hm : mayL 1 1 1 0 = true := by decide
  go_enter Try.func8, Try.ntmps8
  go_wp2_with fail
  refine (mnew_yes hm).mono ?_
  rintro e w1 ⟨b, rfl, hC, hb, hB⟩
  have H1 := Lib.hid (And.intro hC (And.intro hb hB))
  have hlt1 := hC.lt
  clear hC hB
  go_wp2_with fail
  refine (mnew_yes hm).mono ?_
  rintro e w2 ⟨c, rfl, hC, hc, hB⟩
  have hlt2 := hC.lt
  have H2 := Lib.hid (And.intro (H1.out.1.keep (hB.block _ hlt1)) (And.intro hC (Below.steps H1.out.2.2 hB)))
  have hsz := hB.size
  clear hC hB H1
  go_upto_region 6 with (fail)
  refine wp_world (fun W hW => ?_)
  have H3 : Hid (Below w2.heap.size w2 W ∧ Cells W w2.heap.size [.int .u32 0, .int .u32 1] ∧ Cells W (w2.heap.size + 1 + 1) [.bool false, .slice (some ⟨w2.heap.size, 0, none⟩) 2 2, .slice (some ⟨w2.heap.size + 1, 0, none⟩) 1 1]) := by
    obtain ⟨v1, h1⟩ : ∃ v1, v1 = w2.alloc (.cells #[.int .u32 0, .int .u32 1] 56) := ⟨_, rfl⟩
    have s1 : v1.heap.size = w2.heap.size + 1 := by rw [h1]; simp
    have k1 : Cells v1 w2.heap.size [.int .u32 0, .int .u32 1] := by rw [h1]; exact Cells.new _ _ _ _ rfl
    have b1 : Below w2.heap.size w2 v1 := by rw [h1]; exact below_alloc _ _
    rw [← h1] at hW
    obtain ⟨v2, h2⟩ : ∃ v2, v2 = v1.alloc (.cells #[.int .i64 1, .int .i64 1] 77) := ⟨_, rfl⟩
    have s2 : v2.heap.size = w2.heap.size + 1 + 1 := by rw [h2]; simp [s1]
    have b2 : Below v1.heap.size v1 v2 := by rw [h2]; exact below_alloc _ _
    rw [← h2] at hW
    have b3 : Below v2.heap.size v2 W := by rw [hW]; exact below_alloc _ _
    have k3 : Cells W (w2.heap.size + 1 + 1) [.bool false, .slice (some ⟨w2.heap.size, 0, none⟩) 2 2, .slice (some ⟨w2.heap.size + 1, 0, none⟩) 1 1] := by rw [hW, ← s2]; exact Cells.new _ _ _ _ rfl
    have k1' : Cells W w2.heap.size [.int .u32 0, .int .u32 1] := k1.keep ((Below.steps b2 b3).block _ (by omega))
    exact ⟨Below.steps (Below.steps b1 b2) b3, k1', k3⟩
  clear hW
  obtain ⟨g, hg⟩ : ∃ g, g = w2.heap.size := ⟨_, rfl⟩
  rw [← hg] at H3 hlt2 hsz
  rw [← hg]
  have hbc : b ≠ c := by omega
  have hbg : g ≠ b := by omega
  have hbg2 : g + 1 + 1 ≠ b := by omega
  have hcg : g ≠ c := by omega
  have hcg2 : g + 1 + 1 ≠ c := by omega
  have hwb : w.heap.size ≤ b := hb
  have hwc : w.heap.size ≤ c := by omega
  have HA : Hid (Cells W b (mc k0) ∧ Cells W c (mc k0) ∧ Cells W g [.int .u32 0, .int .u32 1] ∧ Cells W (g + 1 + 1) [.bool false, .slice (some ⟨g, 0, none⟩) 2 2, .slice (some ⟨g + 1, 0, none⟩) 1 1] ∧ Below w.heap.size w W) :=
    ⟨H2.out.1.keep (H3.out.1.block _ (by omega)), H2.out.2.1.keep (H3.out.1.block _ (by omega)), H3.out.2.1, H3.out.2.2, Below.steps H2.out.2.2 (hg ▸ H3.out.1)⟩
  have hne : ∀ (U V : World) (x : MS), U.grownBy V (some b) → Cells V b (mc x) → Cells U c (mc k0) ∧ Cells U g [.int .u32 0, .int .u32 1] ∧ Cells U (g + 1 + 1) [.bool false, .slice (some ⟨g, 0, none⟩) 2 2, .slice (some ⟨g + 1, 0, none⟩) 1 1] ∧ Below w.heap.size w U → Cells V b (mc x) ∧ Cells V c (mc k0) ∧ Cells V g [.int .u32 0, .int .u32 1] ∧ Cells V (g + 1 + 1) [.bool false, .slice (some ⟨g, 0, none⟩) 2 2, .slice (some ⟨g + 1, 0, none⟩) 1 1] ∧ Below w.heap.size w V :=
    fun U V x hG hC h => ⟨hC, gb_cells hG h.1 (Ne.symm hbc), gb_cells hG h.2.1 hbg, gb_cells hG h.2.2.1 hbg2, h.2.2.2.trans (gb_below hG hwb h.2.2.2.size)⟩
  have HN := Lib.hid hne
  have HO : Hid (k0.Ok ∧ k0.step.Ok) := ⟨mayL_ok hm, (mayL_ok hm).step⟩
  clear H2 H3 hg hbg hbg2 hlt1 hlt2 hsz hne hb hc
  have S1 : Hid (∀ V, Cells V b (mc k0) → Calls Try.prog 12 #[.pointer (some ⟨b, 0, none⟩)] V (RetM b (mc k0.step) (.int .i64 0) V)) := fun V h => mstep_any h HO.out.1
  have S2 : Hid (∀ V, Cells V b (mc k0.step) → Calls Try.prog 12 #[.pointer (some ⟨b, 0, none⟩)] V (RetM b (mc k0.step.step) (.int .i64 9) V)) := fun V h => mstep_any h HO.out.2
  have S3 : Hid (∀ V, Cells V b (mc k0.step.step) → Calls Try.prog 22 #[.pointer (some ⟨b, 0, none⟩)] V (RetB (.agg #[.int .i64 9, .int .i64 2]) V)) := fun V h => mneed_any h
  have S4 : Hid (∀ V, Cells V c (mc k0) → Lp V (some ⟨g + 1 + 1, 0, none⟩) 1 1 [[0, 1]] → Calls Try.prog 16 #[.pointer (some ⟨c, 0, none⟩), .slice (some ⟨g + 1 + 1, 0, none⟩) 1 1] V (RetM c (mc (k0.keep [[0, 1]])) (.int .i64 10) V)) := fun V h hp => mkeep_any h hp
  have S5 : Hid (∀ V, Cells V c (mc (k0.keep [[0, 1]])) → Calls Try.prog 22 #[.pointer (some ⟨c, 0, none⟩)] V (RetB (.agg #[.int .i64 10, .int .i64 2]) V)) := fun V h => mneed_any h
  have S6 : Hid (∀ V, Cells V b (mc k0.step.step) → Calls Try.prog 20 #[.pointer (some ⟨b, 0, none⟩)] V fun e V' => e = .returned (.int .i64 1) ∧ V = V') := fun V h => mfuel_any h
  go_wp2_with fail
  refine (S1.out _ HA.out.1).mono ?_
  rintro e w3 ⟨rfl, hC, hG⟩
  have HA2 := Lib.hid (HN.out _ _ _ hG hC HA.out.2)
  clear hC hG HA
  go_wp2_with fail
  refine (S2.out _ HA2.out.1).mono ?_
  rintro e w4 ⟨rfl, hC, hG⟩
  have HA := Lib.hid (HN.out _ _ _ hG hC HA2.out.2)
  clear hC hG HA2
  go_wp2_with fail
  refine (S3.out _ HA.out.1).mono ?_
  rintro e w5 ⟨rfl, hB⟩
  have HA2 : Hid (Cells w5 b (mc k0.step.step) ∧ Cells w5 c (mc k0) ∧ Cells w5 g [.int .u32 0, .int .u32 1] ∧ Cells w5 (g + 1 + 1) [.bool false, .slice (some ⟨g, 0, none⟩) 2 2, .slice (some ⟨g + 1, 0, none⟩) 1 1] ∧ Below w.heap.size w w5) :=
    ⟨HA.out.1.keep (hB.block _ HA.out.1.lt), HA.out.2.1.keep (hB.block _ HA.out.2.1.lt), HA.out.2.2.1.keep (hB.block _ HA.out.2.2.1.lt), HA.out.2.2.2.1.keep (hB.block _ HA.out.2.2.2.1.lt), Below.steps HA.out.2.2.2.2 hB⟩
  clear hB HA
  go_wp2_with fail
  refine (S4.out _ HA2.out.2.1 (lp_lit HA2.out.2.2.1 HA2.out.2.2.2.1)).mono ?_
  rintro e w6 ⟨rfl, hC, hG⟩
  have HA : Hid (Cells w6 b (mc k0.step.step) ∧ Cells w6 c (mc (k0.keep [[0, 1]])) ∧ Below w.heap.size w w6) := ⟨gb_cells hG HA2.out.1 hbc, hC, HA2.out.2.2.2.2.trans (gb_below hG hwc HA2.out.2.2.2.2.size)⟩
  clear hC hG HA2
  go_wp2_with fail
  refine (S5.out _ HA.out.2.1).mono ?_
  rintro e w7 ⟨rfl, hB⟩
  have HA2 : Hid (Cells w7 b (mc k0.step.step) ∧ Below w.heap.size w w7) := ⟨HA.out.1.keep (hB.block _ HA.out.1.lt), Below.steps HA.out.2.2 hB⟩
  clear hB HA
  go_wp2_with fail
  refine (S6.out _ HA2.out.1).mono ?_
  rintro e w8 ⟨rfl, rfl⟩
  go_wp2_with fail
  go_ret
  exact ⟨rfl, HA2.out.2⟩
end Go.Proofs.Ythllkgjgakeinaa
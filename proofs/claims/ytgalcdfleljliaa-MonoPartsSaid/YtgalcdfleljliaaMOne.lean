/-
  What the laws of layer 7 share: one, great.
-/
import Derived.Test.YtgalcdfleljliaaMEn
import Derived.Test.YtgalcdfleljliaaMJoin
set_option maxRecDepth 8192
namespace Go.Proofs.Ytgalcdfleljliaa
open Go.RowKit

/-- 'append(s, power)' to a slice of the call's own, at the operation. -/
theorem wp_push2 {P : Program} (w w0 : World) {o : Oper} {a : Act} {K : Act → World → Prop} {Q : Exit → Act → World → Prop}
    (s x : Operand) (t : TypeId) (hop : o.op = Op.call { callee := Callee.builtin Builtin.append, args := #[s, x], argTypes := #[t, t] })
    (base : Nat) (i : TypeInfo) (z : Value) (h1 : P.underlying t = some (.slice 48)) (h2 : P.info? 48 = some i) (h3 : i.zero = some z) (h4 : i.size = 2) (h5 : i.bytes = 16) (h6 : z.cells.size = 2)
    (ao : Option Addr) (n cap : Nat) (ps : List (Int × Int)) (hs : a.eval s = .slice ao n cap) (hown : Mo base w ao n cap ps)
    (u v : Int) (hu : in64 u) (hv : in64 v) (tt : TypeId) (hx : a.eval x = .slice (some ⟨w.heap.size, 0, none⟩) 1 1) (hb : Below base w0 w) (hbase : base ≤ w.heap.size) (b1 : n + 1 ≤ 8796093022208)
    (hK : ∀ ao' cap' w', Mo base w' ao' (n + 1) cap' (ps ++ [(u, v)]) → Below base w0 w' → K (a.put o.dst (.slice ao' (n + 1) cap')) w') :
    Oper.wp P o a (w.alloc (.cells #[.int .i64 u, .int .i64 v] tt)) K Q := by
  have ho1 := hown.row.alloc (.cells #[.int .i64 u, .int .i64 v] tt)
  refine wp_append_own _ s x t hop base 48 i z 2 16 h1 h2 h3 h4 h5 h6 (by decide) _ n (pcells ps) hs ho1 ⟨w.heap.size, 0, none⟩ 1 1 (pcells [(u, v)]) hx rfl ?_ (pcells_one _) (by unfold maxLen; omega) (by omega) (by simp; omega) ?_
  · intro j q hj
    match j, hj with
    | 0, hj =>
      simp [pcells] at hj
      subst hj
      simp [Addr.add]
    | 1, hj =>
      simp [pcells] at hj
      subst hj
      simp [Addr.add]
    | j + 2, hj => simp [pcells] at hj
  · intro v' w' hown' hgrow _
    obtain ⟨ao', cap', rfl⟩ := owns_shape2 hown'
    refine hK ao' cap' w' ⟨by rw [pcells_append]; exact hown', b1, fun p hp => ?_⟩ ((hb.alloc hbase _).grown hgrow (by simp; omega) fun k hk => (ho1.lt k hk).1)
    rcases List.mem_append.1 hp with hp | hp
    · exact hown.wf p hp
    · simp at hp
      subst hp
      exact ⟨hu, hv⟩

theorem snoc_take (ps : List (Int × Int)) (k : Nat) (h : k < ps.length) : ps.take (k + 1) = ps.take k ++ [((ps.getD k (0, 0)).1, (ps.getD k (0, 0)).2)] := by
  rw [List.take_succ_eq_append_getElem h]
  simp only [List.getD, List.getElem?_eq_getElem h, Option.getD_some]

set_option maxHeartbeats 1000000 in
theorem one_any {b N : Nat} {ps : List (Int × Int)} {w : World} (hc : Cells w b (pcells ps)) (hN : N = ps.length * 2) (hN2 : N ≤ 1000) (hw : ∀ p ∈ ps, in64 p.1 ∧ in64 p.2) :
    Calls Try.prog 30 #[.slice (some ⟨b, 0, none⟩) N N] w (NewM w ps) := by
  obtain ⟨i0, hi, hz0, hz1, hz2⟩ := info_parts Try.info_pow
  have hb := hc.lt
  have HC := Lib.hid hc
  have HN := Lib.hid hN
  have HW := Lib.hid hw
  clear hc hN hw
  go_enter Try.func30, Try.ntmps30
  go_wp2
  go_loopw [2, 3] (fun o i wr => ∃ (k j m cap : Nat) (ao : Option Addr), i = .int .i64 (j : Int) ∧ o = .slice ao m cap ∧ j ≤ N ∧ Hid (j = k * 2) ∧ Hid (Mo w.heap.size wr ao m cap (ps.take k) ∧ Below w.heap.size w wr)) (fun _ i _ => N - (intOf i).toNat)
  case atStart => exact ⟨0, 0, 0, 0, none, rfl, rfl, Nat.zero_le _, rfl, Mo.nil _ _, Below.refl _ _⟩
  case round =>
    obtain ⟨k, j, m, cap, ao, rfl, rfl, hjN, HJ, HS⟩ := hrel
    by_cases hj : j + 1 < N
    · have hk : k < ps.length := by have := HJ.out; have := HN.out; omega
      have hc2 : ∀ V : World, Below w.heap.size w V → V.cell? ⟨b, j, none⟩ = some (.int .i64 (ps.getD k (0, 0)).1) ∧ V.cell? ⟨b, j + 1, none⟩ = some (.int .i64 (ps.getD k (0, 0)).2) := by
        intro V hV
        have h1 := HC.out.keep (hV.block b hb)
        have h2 := pcells_get ps k hk
        rw [h1.cell, h1.cell, HJ.out]
        exact h2
      have HP := Lib.hid (HW.out _ (Ml.getD_mem hk))
      have HT := Lib.hid (snoc_take ps k hk)
      have hml := HS.out.1.len
      rw [List.length_take] at hml
      have hm4 : m ≤ 1000 := by have := HN.out; omega
      obtain ⟨x, hx⟩ : ∃ x, x = (ps.getD k (0, 0)).1 := ⟨_, rfl⟩
      obtain ⟨y, hy⟩ : ∃ y, y = (ps.getD k (0, 0)).2 := ⟨_, rfl⟩
      rw [← hx] at hc2 HP HT
      rw [← hy] at hc2 HP HT
      have HC2 := Lib.hid hc2
      have ws : IntKind.i64.wrap ((j : Int) + 1) = (j : Int) + 1 := IntWalk.i64_in _ ⟨by omega, by omega⟩
      have w1 : (j : Int) + 1 < (N : Int) := by omega
      have w2 : (0 : Int) ≤ (j : Int) + 1 := by omega
      have w3 : ((j : Int) + 1).toNat = j + 1 := by omega
      have w4 : (j : Int) < (N : Int) := by omega
      clear hk hx hy hc2 hml
      go_upto_region 4 with (fail)
      refine wp_region_held_drew (S := fun w' => w'.cell? ⟨b, j, none⟩ = some (.int .i64 x) ∧ w'.cell? ⟨b, j + 1, none⟩ = some (.int .i64 y)) (by kernel_rfl) (HC2.out _ HS.out.2.drew) (fun hH => ?_)
      refine anyH_world (fun W hW => ?_)
      have HS1 : Hid (Mo w.heap.size W ao m cap (ps.take k) ∧ Below w.heap.size w W) := by rw [hW]; exact ⟨HS.out.1.below (Below.refl _ _).drew, HS.out.2.drew⟩
      rw [← hW] at hH
      clear hW HS
      refine step_on 0 rfl (by kernel_rfl) (fun _ _ _ h => h) (by rfl) hH (by intro w hS; go_simp <;> with_reducible rfl) ?_
      try simp only [nrm]
      refine step_on 1 rfl (by kernel_rfl) (fun _ _ _ h => h) (by rfl) hH (by intro w hS; go_simp <;> with_reducible rfl) ?_
      try simp only [nrm]
      refine step_on 2 rfl (by kernel_rfl) (fun _ _ _ h => h) (by rfl) hH (by intro w hS; go_simp <;> with_reducible rfl) ?_
      try simp only [nrm]
      refine step_on 3 rfl (by kernel_rfl) (fun _ _ _ h => h) (by rfl) hH (by intro w hS; go_simp <;> with_reducible rfl) ?_
      try simp only [nrm]
      refine step_on 4 rfl (by kernel_rfl) (fun _ _ _ h => h) (by rfl) hH (by intro w hS; go_simp <;> with_reducible rfl) ?_
      try simp only [nrm]
      refine step_on 5 rfl (by kernel_rfl) (fun _ _ _ h => h) (by rfl) hH (by intro w hS; go_simp <;> with_reducible rfl) ?_
      try simp only [nrm]
      refine step_on 6 rfl (by kernel_rfl) (fun _ _ _ h => h) (by rfl) hH (by intro w hS; go_simp <;> with_reducible rfl) ?_
      try simp only [nrm]
      refine step_on 7 rfl (by kernel_rfl) (fun _ _ _ h => h) (by rfl) hH (by intro w hS; go_simp <;> with_reducible rfl) ?_
      try simp only [nrm]
      refine step_on 8 rfl (by kernel_rfl) (fun _ _ _ h => h) (by rfl) hH (by intro w hS; go_simp <;> with_reducible rfl) ?_
      try simp only [nrm]
      refine step_on 9 rfl (by kernel_rfl) (fun _ _ _ h => h) (by rfl) hH (by intro w hS; go_simp <;> with_reducible rfl) ?_
      try simp only [nrm]
      refine step_on 10 rfl (by kernel_rfl) (fun _ _ _ h => h) (by rfl) hH (by intro w hS; go_simp <;> with_reducible rfl) ?_
      try simp only [nrm]
      refine step_one 11 rfl (by kernel_rfl) (fun K hK => ?_)
      go_simp
      refine hK.out _ _ (HC2.out _ (HS1.out.2.alloc HS1.out.2.size _)) (fun h2 => ?_)
      clear hK K hH
      have hH := h2
      clear h2
      try simp only [nrm]
      refine step_one 12 rfl (by kernel_rfl) (fun K hK => ?_)
      rw [if_pos (by rfl)]
      refine wp_push2 W w (.tmp 11) (.tmp 22) 23 rfl w.heap.size i0 (.agg #[.int .i64 0, .int .i64 0]) Try.underlying23 hi hz0 hz1 hz2 rfl ao m cap (ps.take k) rfl HS1.out.1 x y HP.out.1 HP.out.2 _ rfl HS1.out.2 HS1.out.2.size (by omega) ?_
      intro ao2 cap2 w2 hM2 hB2
      have HM2 := Lib.hid hM2
      have HB2 := Lib.hid hB2
      clear hM2 hB2
      refine hK.out _ _ (HC2.out _ HB2.out) (fun h2 => ?_)
      clear hK K hH
      have hH := h2
      clear h2
      try simp only [nrm]
      refine step_on 13 rfl (by kernel_rfl) (fun _ _ _ h => h) (by rfl) hH (by intro w hS; go_simp <;> with_reducible rfl) ?_
      try simp only [nrm]
      refine wpAnyH_done (by kernel_rfl) ?_ _
      clear hH
      go_wp2_with fail
      go_roundw
      case rel => exact ⟨k + 1, j + 2, m + 1, cap2, ao2, by go_num, rfl, by have := HN.out; have := HJ.out; omega, by have := HJ.out; show j + 2 = (k + 1) * 2; omega, by rw [HT.out]; exact HM2.out, HB2.out⟩
      case measure => simp [intOf]; omega
    · have hk : ps.length ≤ k := by have := HJ.out; have := HN.out; omega
      have hj2 : ¬ ((j : Int) + 1 < (N : Int)) := by omega
      have HM : Hid (Mo w.heap.size wr ao m cap ps) := by have := HS.out.1; rwa [List.take_of_length_le hk] at this
      clear hk
      go_wp2
      go_ret
      exact ⟨_, _, _, rfl, HM.out.ml, HS.out.2⟩

/-! ### great -/
def sliceV (s : Option Addr × Nat × Nat) : Value := .slice s.1 s.2.1 s.2.2
set_option maxHeartbeats 1000000 in
theorem great7_any (L : List (Option Addr × Nat × Nat)) {b N : Nat} {w : World} (r : Bool) (hc : Cells w b (L.map sliceV)) (hN : N = L.length) (hN2 : N ≤ 10) (hr : (L.any fun s => decide (300 < s.2.1)) = r) :
    Calls Try.prog 9 #[.slice (some ⟨b, 0, none⟩) N N] w (RetB (.bool r) w) := by
  have hb := hc.lt
  have HC := Lib.hid hc
  have HN := Lib.hid hN
  have HR := Lib.hid hr
  clear hc hN hr
  go_enter Try.func9, Try.ntmps9
  go_wp2
  go_loopw [4, 7] (fun _ i wr => ∃ k : Nat, k ≤ N ∧ i = .int .i64 k ∧ Hid (((L.drop k).any fun s => decide (300 < s.2.1)) = r) ∧ Hid (Below w.heap.size w wr)) (fun _ i _ => N - (intOf i).toNat)
  case atStart => exact ⟨0, Nat.zero_le _, rfl, by rw [Hid, List.drop_zero]; exact HR.out, Below.refl _ _⟩
  case round =>
    clear HR
    obtain ⟨k, hk, rfl, HR, HB⟩ := hrel
    by_cases hkN : k < N
    · have hkl : k < L.length := by have := HN.out; omega
      have c1 := (HC.out.keep (HB.out.block b hb)).cell k
      have hr2 := HR.out
      rw [List.drop_eq_getElem_cons hkl, List.any_cons] at hr2
      rw [List.getElem?_map, List.getElem?_eq_getElem hkl, Option.map_some] at c1
      obtain ⟨s, hs⟩ : ∃ s, s = L[k] := ⟨_, rfl⟩
      rw [← hs] at c1 hr2
      have HR2 := Lib.hid hr2
      clear HR hr2 hs hkl
      obtain ⟨ao, n, cap⟩ := s
      have c2 : wr.cell? ⟨b, k, none⟩ = some (.slice ao n cap) := c1
      clear c1
      by_cases g : 300 < n
      · have g1 : decide (300 < n) = true := decide_eq_true g
        have g2 : decide ((300 : Int) < (n : Int)) = true := decide_eq_true (by omega)
        have HE : Hid (r = true) := by rw [Hid, ← HR2.out]; simp [g]
        clear HR2
        go_wp2
        go_ret
        exact ⟨by rw [HE.out]; rfl, HB.out⟩
      · have g1 : decide (300 < n) = false := decide_eq_false g
        have g2 : decide ((300 : Int) < (n : Int)) = false := decide_eq_false (by omega)
        have HG := Lib.hid g1
        clear g1 g
        go_wp2
        go_roundw
        case rel => exact ⟨k + 1, by omega, by go_num, by have := HR2.out; simp only [HG.out, Bool.false_or] at this; exact this, HB.out⟩
        case measure => simp [intOf]; omega
    · obtain rfl : k = N := by omega
      have HE : Hid (r = false) := by rw [Hid, ← HR.out, List.drop_eq_nil_of_le (by rw [HN.out]; exact Nat.le_refl _)]; rfl
      clear HR
      go_wp2
      go_ret
      exact ⟨by rw [HE.out]; rfl, HB.out⟩

end Go.Proofs.Ytgalcdfleljliaa

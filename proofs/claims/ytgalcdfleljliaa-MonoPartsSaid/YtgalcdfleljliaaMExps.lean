/-
  The contract of porismref07.Exps.
-/
import Derived.Test.YtgalcdfleljliaaMRow
import Derived.Deep.Cut
import Derived.Deep.CutRange
set_option maxRecDepth 8192
namespace Go.Proofs.Ytgalcdfleljliaa
open Go.RowKit

theorem exE_no {ps : List (Int × Int)} (h : mayM 0 ps = false) (v : Int) : exE ps v = 0 := by unfold exE; rw [orM_no h]; rfl
theorem exE_yes {ps : List (Int × Int)} (h : mayM 0 ps = true) : exE ps = expo ps := by funext v; unfold exE; rw [orM_yes h]

set_option maxHeartbeats 1000000 in
set_option maxRecDepth 100000 in
theorem exps_no {ao : Option Addr} {n cap : Nat} {ps : List (Int × Int)} {w : World} (h : Ml w ao n cap ps) (hr : mayM 0 ps = false) :
    Calls Try.prog 33 #[.slice ao n cap] w (NewA w (exE ps)) := by
  have zr := zero_row
  have HM := Lib.hid h
  have HR := Lib.hid hr
  clear h hr
  go_enter Try.func33, Try.ntmps33
  go_upto_region 2 with (fail)
  refine wp_world (fun W hW => ?_)
  have HB : Hid (Below w.heap.size w W) := by rw [hW]; exact Below.steps (below_alloc _ _) (below_alloc _ _)
  have H2 : Hid (Row W w.heap.size (fun _ => 0)) := by rw [hW]; exact (Row.new w _).below (below_alloc _ _)
  have H3 : Hid (Row W (w.heap.size + 1) (fun _ => 0)) := by rw [hW]; exact Row.new2 (w.alloc _) _ _ (by simp)
  clear hW zr
  go_wp2_with fail
  refine (may7_any false (HM.out.below HB.out) HR.out).mono ?_
  rintro e w1 ⟨rfl, hB⟩
  have HB1 := Lib.hid (Below.steps HB.out hB)
  have H21 := Lib.hid (H2.out.below hB)
  have H31 := Lib.hid (H3.out.below hB)
  clear hB HB H2 H3 HM
  go_wp2_with (first | (refine wpList_loadRow rfl (.tmp 3) rfl _ rfl _ H31.out ?_) | (refine wpList_storeRow rfl (.tmp 2) (.tmp 8) rfl _ rfl _ _ rfl H21.out ?_))
  refine bodyPost_ret (v := .agg (rowL fun _ => 0).toArray) (results_row rfl _ (H21.out.put (fun _ => 0)) rfl) rfl ⟨?_, below_setRow HB1.out (Nat.le_refl _) _⟩
  rw [rowL_congr (fun v _ _ => exE_no HR.out v)]

theorem expo_take {ps : List (Int × Int)} (hr : mayM 0 ps = true) {k : Nat} (h : k < ps.length) (u : Int) : expo (ps.take (k + 1)) u = upd (expo (ps.take k)) (ps.getD k (0, 0)).1 (ps.getD k (0, 0)).2 u := by
  have hlow : ∀ q ∈ ps.take k, q.1 < (ps.getD k (0, 0)).1 := by
    have H : ∀ (l : List (Int × Int)) (lo : Int) (k : Nat), mayM lo l = true → k < l.length → (lo < (l.getD k (0, 0)).1) ∧ ∀ q ∈ l.take k, q.1 < (l.getD k (0, 0)).1 := by
      intro l
      induction l with
      | nil => intro lo k _ hk; simp at hk
      | cons p r ih =>
        intro lo k hm hk
        unfold mayM okP at hm
        simp only [Bool.and_eq_true, decide_eq_true_eq] at hm
        obtain ⟨⟨h1, h2, h3, h4⟩, h5⟩ := hm
        cases k with
        | zero => simpa using h1
        | succ k =>
          have := ih p.1 k h5 (by simpa using hk)
          refine ⟨by have := this.1; simp at this ⊢; omega, fun q hq => ?_⟩
          simp only [List.take_succ_cons, List.mem_cons] at hq
          rcases hq with rfl | hq
          · simpa using this.1
          · simpa using this.2 q hq
    exact (H ps 0 k hr h).2
  rw [List.take_succ_eq_append_getElem h]
  have e : ps[k] = ((ps.getD k (0, 0)).1, (ps.getD k (0, 0)).2) := by simp [List.getD, List.getElem?_eq_getElem h]
  rw [e, expo_snoc hlow]
  rfl

set_option maxHeartbeats 1000000 in
set_option maxRecDepth 100000 in
theorem exps_yes {ao : Option Addr} {n cap : Nat} {ps : List (Int × Int)} {w : World} (h : Ml w ao n cap ps) (hr : mayM 0 ps = true) :
    Calls Try.prog 33 #[.slice ao n cap] w (NewA w (expo ps)) := by
  have zr := zero_row
  have hle := h.le
  have hbig := h.big
  have HM := Lib.hid h
  have HR := Lib.hid hr
  clear h hr
  go_enter Try.func33, Try.ntmps33
  go_upto_region 2 with (fail)
  refine wp_world (fun W hW => ?_)
  have HB : Hid (Below w.heap.size w W) := by rw [hW]; exact Below.steps (below_alloc _ _) (below_alloc _ _)
  have H2 : Hid (Row W w.heap.size (fun _ => 0)) := by rw [hW]; exact (Row.new w _).below (below_alloc _ _)
  have H3 : Hid (Row W (w.heap.size + 1) (fun _ => 0)) := by rw [hW]; exact Row.new2 (w.alloc _) _ _ (by simp)
  clear hW zr
  go_wp2_with fail
  refine (may7_any true (HM.out.below HB.out) HR.out).mono ?_
  rintro e w1 ⟨rfl, hB⟩
  have HB1 := Lib.hid (Below.steps HB.out hB)
  have H21 := Lib.hid (H2.out.below hB)
  have H31 := Lib.hid (H3.out.below hB)
  clear hB HB H2 H3
  go_wp2_with fail
  go_loopw [4] (fun i wr => ∃ k : Nat, k ≤ n ∧ i = .int .i64 k ∧ Hid (Row wr w.heap.size (fun _ => 0) ∧ Row wr (w.heap.size + 1) (expo (ps.take k)) ∧ Below w.heap.size w wr)) (fun i _ => n - (intOf i).toNat)
  case atStart => exact ⟨0, Nat.zero_le _, rfl, H21.out, by rw [List.take_zero]; exact H31.out, HB1.out⟩
  case round =>
    clear H21 H31 HB1
    obtain ⟨k, hk, rfl, HS⟩ := hrel
    by_cases hkn : k < n
    · obtain ⟨b, off, rfl, hb, _⟩ := HM.out.at (by omega)
      have hl := HM.out.len
      have hmem := may_mem HR.out (Int.le_refl 0) _ (Ml.getD_mem (by rw [hl]; exact hkn))
      have HE := Lib.hid (expo_take HR.out (by rw [hl]; exact hkn))
      have hc : ∀ V : World, Below w.heap.size w V → V.cell? ⟨b, off + k * 2, none⟩ = some (.int .i64 (ps.getD k (0, 0)).1) ∧ V.cell? ⟨b, off + k * 2 + 1, none⟩ = some (.int .i64 (ps.getD k (0, 0)).2) := by
        intro V hV
        have h1 := (HM.out.below hV).cells _ rfl k hkn
        rw [Addr.add_lit, Addr.add_lit, ← Nat.add_assoc] at h1
        exact h1
      obtain ⟨p, hp⟩ : ∃ p, p = ps.getD k (0, 0) := ⟨_, rfl⟩
      rw [← hp] at hc HE hmem
      clear hp hl
      obtain ⟨u, x⟩ := p
      obtain ⟨v, rfl⟩ : ∃ v : Nat, u = (v : Int) := ⟨u.toNat, by have := hmem.1.1; simp at this; omega⟩
      have hv : v < 201 := by have := hmem.1.2; simp at this; omega
      have hv2 : (v : Int) < 201 := by omega
      have hv3 : (0 : Int) ≤ v := by omega
      have HC := Lib.hid hc
      clear hmem hc
      have c3 := HS.out.2.1.cell v hv
      have c4 := HS.out.2.1.fz v
      obtain ⟨old, ho⟩ : ∃ o, o = expo (ps.take k) v := ⟨_, rfl⟩
      rw [← ho] at c3
      clear ho
      go_upto_region 7 with (fail)
      refine wp_region_held_drew (S := fun w' => w'.cell? ⟨b, off + k * 2, none⟩ = some (.int .i64 v) ∧ w'.cell? ⟨b, off + k * 2 + 1, none⟩ = some (.int .i64 x)) (by kernel_rfl) (HC.out _ HS.out.2.2.drew) (fun hH => ?_)
      refine step_on 0 rfl (by kernel_rfl) (fun _ _ _ h => h) (by rfl) hH (by intro w hS; go_simp <;> with_reducible rfl) ?_
      try simp only [nrm]
      refine step_on 1 rfl (by kernel_rfl) (fun _ _ _ h => h) (by rfl) hH (by intro w hS; go_simp <;> with_reducible rfl) ?_
      try simp only [nrm]
      refine step_on 2 rfl (by kernel_rfl) (fun _ _ _ h => h) (by rfl) hH (by intro w hS; go_simp <;> with_reducible rfl) ?_
      try simp only [nrm]
      refine step_on 3 rfl (by kernel_rfl) (fun _ _ _ h => h) (by rfl) hH (by intro w hS; go_simp <;> with_reducible rfl) ?_
      try simp only [nrm]
      refine step_on 4 rfl (by kernel_rfl) (fun _ _ _ h => h) (by rfl) hH (by intro w hS; go_simp <;> with_reducible rfl) ?_
      try simp only [nrm]
      refine step_on 5 rfl (by kernel_rfl) (fun _ _ _ h => h) (by rfl) hH (by intro w hS; go_simp <;> with_reducible rfl) ?_
      try simp only [nrm]
      refine step_on 6 rfl (by kernel_rfl) (fun _ _ _ h => h) (by rfl) hH (by intro w hS; go_simp <;> with_reducible rfl) ?_
      try simp only [nrm]
      refine step_on 7 rfl (by kernel_rfl) (fun _ _ _ h => h) (by rfl) hH (by intro w hS; go_simp <;> with_reducible rfl) ?_
      try simp only [nrm]
      refine step_on 8 rfl (by kernel_rfl) (fun _ _ _ h => h) (by rfl) hH (by intro w hS; go_simp <;> with_reducible rfl) ?_
      try simp only [nrm]
      refine step_on 9 rfl (by kernel_rfl) (fun _ _ _ h => h) (by rfl) hH (by intro w hS; go_simp <;> with_reducible rfl) ?_
      try simp only [nrm]
      refine step_on 10 rfl (by kernel_rfl) (fun _ _ _ h => h) (by rfl) hH (by intro w hS; go_simp <;> with_reducible rfl) ?_
      try simp only [nrm]
      refine step_one 11 rfl (by kernel_rfl) (fun K hK => ?_)
      go_simp
      refine hK.out _ _ (HC.out _ (HS.out.2.2.drew.setCell (by simp) _)) (fun h2 => ?_)
      clear hK K hH h2
      try simp only [nrm]
      refine wpAnyH_done (by kernel_rfl) ?_ _
      go_wp2_with fail
      go_roundw
      case rel => exact ⟨k + 1, by omega, by go_num, HS.out.1.far (by omega) _ _, (HS.out.2.1.set v hv x).congr (fun z _ _ => (HE.out z).symm), HS.out.2.2.drew.setCell (by simp) _⟩
      case measure => simp [intOf]; omega
    · obtain rfl : k = n := by omega
      have H3 : Hid (Row wr (w.heap.size + 1) (expo ps)) := by have := HS.out.2.1; rwa [List.take_of_length_le (by rw [HM.out.len]; exact Nat.le_refl _)] at this
      go_wp2_with (first | (refine wpList_loadRow rfl (.tmp 3) rfl _ rfl _ H3.out ?_) | (refine wpList_storeRow rfl (.tmp 2) (.tmp 26) rfl _ rfl _ _ rfl HS.out.1 ?_))
      exact bodyPost_ret (v := .agg (rowL (expo ps)).toArray) (results_row rfl _ (HS.out.1.put (expo ps)) rfl) rfl ⟨rfl, below_setRow HS.out.2.2 (Nat.le_refl _) _⟩

theorem exps_any {ao : Option Addr} {n cap : Nat} {ps : List (Int × Int)} {w : World} (h : Ml w ao n cap ps) :
    Calls Try.prog 33 #[.slice ao n cap] w (NewA w (exE ps)) := by
  cases hr : mayM 0 ps with
  | true => rw [exE_yes hr]; exact exps_yes h hr
  | false => exact exps_no h hr

end Go.Proofs.Ytgalcdfleljliaa

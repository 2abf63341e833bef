/-
  The meter's functions: New, Limits, Step, Piece, Keep, Refuse, Fuel, Pieces, Need.
-/
import Derived.Test.YthllkgjgakeinaaMtOnce
import Derived.Test.YthllkgjgakeinaaMtLen
set_option maxRecDepth 8192
namespace Go.Proofs.Ythllkgjgakeinaa
open Go.RowKit
theorem within_any (r : Bool) (a m : Int) {w : World} (h : (decide (0 ≤ a) && decide (a ≤ m)) = r) : Calls Try.prog 24 #[.int .i64 a, .int .i64 m] w fun e w' => e = .returned (.bool r) ∧ w = w' := by
  by_cases h0 : 0 ≤ a
  · have hd : decide (0 ≤ a) = true := decide_eq_true h0
    rw [hd, Bool.true_and] at h
    have HR := Lib.hid h
    obtain ⟨q, hq⟩ : ∃ q, decide (a ≤ m) = q := ⟨_, rfl⟩
    have HQ := Lib.hid hq
    clear h h0
    go_enter Try.func24, Try.ntmps24
    go_wp2
    go_ret
    exact ⟨by rw [← HR.out, HQ.out]; rfl, rfl⟩
  · have hd : decide (0 ≤ a) = false := decide_eq_false h0
    rw [hd, Bool.false_and] at h
    subst h
    clear h0
    go_enter Try.func24, Try.ntmps24
    go_wp2
    go_ret
    exact ⟨rfl, rfl⟩
def mayL (fu li te pi : Int) : Bool := (decide (0 ≤ fu) && decide (fu ≤ 1000000)) && ((decide (0 ≤ li) && decide (li ≤ 10000)) && ((decide (0 ≤ te) && decide (te ≤ 100000)) && (decide (0 ≤ pi) && decide (pi ≤ 1000))))
theorem mayL_ok {fu li te pi : Int} (h : mayL fu li te pi = true) : (MS.new fu li te pi).Ok := by
  unfold mayL at h
  simp only [Bool.and_eq_true, decide_eq_true_eq] at h
  exact ⟨h.1.1, h.1.2, h.2.2.2.1, h.2.2.2.2, by simp [MS.new], h.1.1, by simp [MS.new], h.2.2.2.1⟩
theorem mnew_no {fu li te pi : Int} {w : World} (h : mayL fu li te pi = false) : Calls Try.prog 9 #[.agg #[.int .i64 fu, .int .i64 li, .int .i64 te, .int .i64 pi]] w (RetB (.tuple #[.pointer none, .int .i64 2]) w) := by
  obtain ⟨ra, ha⟩ : ∃ r, (decide (0 ≤ fu) && decide (fu ≤ 1000000)) = r := ⟨_, rfl⟩
  obtain ⟨rb, hb⟩ : ∃ r, (decide (0 ≤ li) && decide (li ≤ 10000)) = r := ⟨_, rfl⟩
  obtain ⟨rc, hc⟩ : ∃ r, (decide (0 ≤ te) && decide (te ≤ 100000)) = r := ⟨_, rfl⟩
  obtain ⟨rd, hd⟩ : ∃ r, (decide (0 ≤ pi) && decide (pi ≤ 1000)) = r := ⟨_, rfl⟩
  unfold mayL at h
  rw [ha, hb, hc, hd] at h
  have HA : Hid (∀ W, Calls Try.prog 24 #[.int .i64 fu, .int .i64 1000000] W fun e w' => e = .returned (.bool ra) ∧ W = w') := fun W => within_any ra fu 1000000 ha
  have HB : Hid (∀ W, Calls Try.prog 24 #[.int .i64 li, .int .i64 10000] W fun e w' => e = .returned (.bool rb) ∧ W = w') := fun W => within_any rb li 10000 hb
  have HC : Hid (∀ W, Calls Try.prog 24 #[.int .i64 te, .int .i64 100000] W fun e w' => e = .returned (.bool rc) ∧ W = w') := fun W => within_any rc te 100000 hc
  have HD : Hid (∀ W, Calls Try.prog 24 #[.int .i64 pi, .int .i64 1000] W fun e w' => e = .returned (.bool rd) ∧ W = w') := fun W => within_any rd pi 1000 hd
  clear ha hb hc hd
  have hB := Lib.hid (below_alloc w (.cells #[.int .i64 fu, .int .i64 li, .int .i64 te, .int .i64 pi] 23))
  go_enter Try.func9, Try.ntmps9
  go_wp2_with fail
  refine (HA.out _).mono ?_
  rintro e w2 ⟨rfl, rfl⟩
  cases ra with
  | false =>
    go_wp2_with fail
    go_ret2
    exact ⟨rfl, hB.out⟩
  | true =>
    go_wp2_with fail
    refine (HB.out _).mono ?_
    rintro e w2 ⟨rfl, rfl⟩
    cases rb with
    | false =>
      go_wp2_with fail
      go_ret2
      exact ⟨rfl, hB.out⟩
    | true =>
      go_wp2_with fail
      refine (HC.out _).mono ?_
      rintro e w2 ⟨rfl, rfl⟩
      cases rc with
      | false =>
        go_wp2_with fail
        go_ret2
        exact ⟨rfl, hB.out⟩
      | true =>
        obtain rfl : rd = false := by simpa using h
        go_wp2_with fail
        refine (HD.out _).mono ?_
        rintro e w2 ⟨rfl, rfl⟩
        go_wp2_with fail
        go_ret2
        exact ⟨rfl, hB.out⟩
def NewM (s : MS) (w : World) (e : Ending) (w' : World) : Prop := ∃ b, e = .returned (.tuple #[.pointer (some ⟨b, 0, none⟩), .int .i64 0]) ∧ Cells w' b (mc s) ∧ w.heap.size ≤ b ∧ Below w.heap.size w w'
theorem mnew_yes {fu li te pi : Int} {w : World} (h : mayL fu li te pi = true) : Calls Try.prog 9 #[.agg #[.int .i64 fu, .int .i64 li, .int .i64 te, .int .i64 pi]] w (NewM (MS.new fu li te pi) w) := by
  unfold mayL at h
  simp only [Bool.and_eq_true] at h
  have HA : Hid (∀ W, Calls Try.prog 24 #[.int .i64 fu, .int .i64 1000000] W fun e w' => e = .returned (.bool true) ∧ W = w') := fun W => within_any true fu 1000000 (by rw [h.1.1, h.1.2]; rfl)
  have HB : Hid (∀ W, Calls Try.prog 24 #[.int .i64 li, .int .i64 10000] W fun e w' => e = .returned (.bool true) ∧ W = w') := fun W => within_any true li 10000 (by rw [h.2.1.1, h.2.1.2]; rfl)
  have HC : Hid (∀ W, Calls Try.prog 24 #[.int .i64 te, .int .i64 100000] W fun e w' => e = .returned (.bool true) ∧ W = w') := fun W => within_any true te 100000 (by rw [h.2.2.1.1, h.2.2.1.2]; rfl)
  have HD : Hid (∀ W, Calls Try.prog 24 #[.int .i64 pi, .int .i64 1000] W fun e w' => e = .returned (.bool true) ∧ W = w') := fun W => within_any true pi 1000 (by rw [h.2.2.2.1, h.2.2.2.2]; rfl)
  clear h
  have hB := Lib.hid (below_alloc w (.cells #[.int .i64 fu, .int .i64 li, .int .i64 te, .int .i64 pi] 23))
  go_enter Try.func9, Try.ntmps9
  go_wp2_with fail
  refine (HA.out _).mono ?_
  rintro e w2 ⟨rfl, rfl⟩
  go_wp2_with fail
  refine (HB.out _).mono ?_
  rintro e w2 ⟨rfl, rfl⟩
  go_wp2_with fail
  refine (HC.out _).mono ?_
  rintro e w2 ⟨rfl, rfl⟩
  go_wp2_with fail
  refine (HD.out _).mono ?_
  rintro e w2 ⟨rfl, rfl⟩
  go_wp2_with fail
  go_ret2
  refine ⟨_, rfl, ?_, ?_, Below.steps hB.out (below_alloc _ _)⟩
  · have e1 : mc (MS.new fu li te pi) = [.int .i64 fu, .int .i64 li, .int .i64 te, .int .i64 pi, .int .i64 0, .int .i64 0, .int .u32 0, .int .i32 0, .int .u32 0, .int .i64 0, .int .i64 0] := by simp [mc, MS.new, mcl]
    rw [e1]
    exact Cells.new _ _ _ _ (by simp)
  · simp
set_option maxHeartbeats 1000000 in
theorem mcount_step {b : Nat} {s : MS} {w : World} (h : Cells w b (mc s)) (hk : s.Ok) :
    Calls Try.prog 25 #[.pointer (some ⟨b, 0, none⟩), .pointer (some ⟨b, 4, none⟩), .int .i64 s.fu, .int .i64 9] w (RetM b (mc s.step) (.int .i64 s.stepE) w) := by
  have HC := Lib.hid h
  have c4 : w.cell? ⟨b, 4, none⟩ = some (.int .i64 s.st) := h.cell 4
  have f4 := h.fz 4
  have h0 := hk.f0
  have h1 := hk.f1
  have h2 := hk.s0
  have h3 := hk.s1
  have hw : IntKind.i64.wrap (s.fu + 1) = s.fu + 1 := IntWalk.i64_in _ ⟨by omega, by omega⟩
  have hw2 : IntKind.i64.wrap (s.st + 1) = s.st + 1 := IntWalk.i64_in _ ⟨by omega, by omega⟩
  have HW2 := Lib.hid hw2
  clear h hk h0 h1 h2 h3 hw2
  by_cases hc : s.fu ≤ s.st
  · have HE : Hid (s.step = s.refuse 9 (s.fu + 1) ∧ s.stepE = 9) := ⟨by unfold MS.step; rw [if_pos hc], by unfold MS.stepE; rw [if_pos hc]⟩
    go_enter Try.func25, Try.ntmps25
    go_wp2_with fail
    refine (aload_any ⟨b, 4, none⟩ c4).mono ?_
    rintro e w2 ⟨rfl, rfl⟩
    go_wp2_with fail
    refine (mrefuse_any HC.out (by omega)).mono ?_
    rintro e w2 ⟨rfl, hC, hG⟩
    have HR := Lib.hid (And.intro hC hG)
    clear hC hG c4 f4
    go_wp2_with fail
    go_ret
    rw [HE.out.1, HE.out.2]
    exact ⟨rfl, HR.out⟩
  · have HE : Hid (s.step = ⟨s.fu, s.li, s.te, s.pi, s.st + 1, s.pc + 0, s.wh, s.n⟩ ∧ s.stepE = 0) := ⟨by unfold MS.step; rw [if_neg hc]; simp, by unfold MS.stepE; rw [if_neg hc]⟩
    go_enter Try.func25, Try.ntmps25
    go_wp2_with fail
    refine (aload_any ⟨b, 4, none⟩ c4).mono ?_
    rintro e w2 ⟨rfl, rfl⟩
    go_wp2_with fail
    refine (aadd_any ⟨b, 4, none⟩ c4 f4 HW2.out).mono ?_
    rintro e w2 ⟨rfl, hw⟩
    have HR : Hid (Cells w2 b (mc ⟨s.fu, s.li, s.te, s.pi, s.st + 1, s.pc + 0, s.wh, s.n⟩) ∧ w.grownBy w2 (some b)) := ⟨by rw [hw]; simpa [mc, mcl] using HC.out.set 4 (.int .i64 (s.st + 1)), by rw [hw]; exact gb_set _ _ _ _⟩
    clear hw c4 f4
    go_wp2_with fail
    go_ret
    rw [HE.out.1, HE.out.2]
    exact ⟨rfl, HR.out⟩
theorem mstep_nil {w : World} : Calls Try.prog 12 #[.pointer none] w fun e w' => e = .returned (.int .i64 0) ∧ w = w' := by
  go_enter Try.func12, Try.ntmps12
  go_wp2
  go_ret
  exact ⟨rfl, rfl⟩
set_option maxHeartbeats 1000000 in
theorem mstep_any {b : Nat} {s : MS} {w : World} (h : Cells w b (mc s)) (hk : s.Ok) : Calls Try.prog 12 #[.pointer (some ⟨b, 0, none⟩)] w (RetM b (mc s.step) (.int .i64 s.stepE) w) := by
  have HC := Lib.hid h
  have HK := Lib.hid hk
  clear h hk
  go_enter Try.func12, Try.ntmps12
  go_upto_region 3 with (fail)
  refine wp_region_held_drew (S := fun w' => w'.cell? ⟨b, 0, none⟩ = some (.int .i64 s.fu)) (by kernel_rfl) (HC.out.cell 0) (fun hH => ?_)
  refine anyH_world (fun w1 hW => ?_)
  have HC1 : Hid (Cells w1 b (mc s) ∧ w.grownBy w1 (some b)) := by rw [hW]; exact ⟨HC.out.keep rfl, gb_drew (World.grownBy.refl _ _)⟩
  rw [← hW] at hH
  clear hW HC
  refine son 0 hH ?_
  try simp only [nrm]
  refine son 1 hH ?_
  try simp only [nrm]
  refine son 2 hH ?_
  try simp only [nrm]
  refine son 3 hH ?_
  try simp only [nrm]
  refine son 4 hH ?_
  try simp only [nrm]
  refine son 5 hH ?_
  try simp only [nrm]
  refine son 6 hH ?_
  try simp only [nrm]
  refine son 7 hH ?_
  try simp only [nrm]
  refine son 8 hH ?_
  try simp only [nrm]
  refine step_one 9 rfl (by kernel_rfl) (fun KK hK => ?_)
  go_simp
  refine (mcount_step HC1.out.1 HK.out).mono ?_
  rintro e w2 ⟨rfl, hC, hG⟩
  have HR := Lib.hid (And.intro hC (gb_trans HC1.out.2 hG))
  clear hC hG HC1
  go_wp2_with fail
  refine hK.out _ _ (by have e : s.step.fu = s.fu := by (unfold MS.step; split <;> rfl)
                        rw [← e]; exact HR.out.1.cell 0) (fun h2 => ?_)
  clear hK KK hH
  have hH := h2
  clear h2
  try simp only [nrm]
  refine son 10 hH ?_
  try simp only [nrm]
  refine wpAnyH_done (by kernel_rfl) ?_ _
  go_wp2_with fail
  go_ret
  exact ⟨rfl, HR.out⟩
set_option maxHeartbeats 1000000 in
theorem mcount_piece {b : Nat} {s : MS} {w : World} (h : Cells w b (mc s)) (hk : s.Ok) :
    Calls Try.prog 25 #[.pointer (some ⟨b, 0, none⟩), .pointer (some ⟨b, 5, none⟩), .int .i64 s.pi, .int .i64 12] w (RetM b (mc s.piece) (.int .i64 s.pieceE) w) := by
  have HC := Lib.hid h
  have c4 : w.cell? ⟨b, 5, none⟩ = some (.int .i64 s.pc) := h.cell 5
  have f4 := h.fz 5
  have h0 := hk.p0
  have h1 := hk.p1
  have h2 := hk.c0
  have h3 := hk.c1
  have hw : IntKind.i64.wrap (s.pi + 1) = s.pi + 1 := IntWalk.i64_in _ ⟨by omega, by omega⟩
  have hw2 : IntKind.i64.wrap (s.pc + 1) = s.pc + 1 := IntWalk.i64_in _ ⟨by omega, by omega⟩
  have HW2 := Lib.hid hw2
  clear h hk h0 h1 h2 h3 hw2
  by_cases hc : s.pi ≤ s.pc
  · have HE : Hid (s.piece = s.refuse 12 (s.pi + 1) ∧ s.pieceE = 12) := ⟨by unfold MS.piece; rw [if_pos hc], by unfold MS.pieceE; rw [if_pos hc]⟩
    go_enter Try.func25, Try.ntmps25
    go_wp2_with fail
    refine (aload_any ⟨b, 5, none⟩ c4).mono ?_
    rintro e w2 ⟨rfl, rfl⟩
    go_wp2_with fail
    refine (mrefuse_any HC.out (by omega)).mono ?_
    rintro e w2 ⟨rfl, hC, hG⟩
    have HR := Lib.hid (And.intro hC hG)
    clear hC hG c4 f4
    go_wp2_with fail
    go_ret
    rw [HE.out.1, HE.out.2]
    exact ⟨rfl, HR.out⟩
  · have HE : Hid (s.piece = ⟨s.fu, s.li, s.te, s.pi, s.st + 0, s.pc + 1, s.wh, s.n⟩ ∧ s.pieceE = 0) := ⟨by unfold MS.piece; rw [if_neg hc]; simp, by unfold MS.pieceE; rw [if_neg hc]⟩
    go_enter Try.func25, Try.ntmps25
    go_wp2_with fail
    refine (aload_any ⟨b, 5, none⟩ c4).mono ?_
    rintro e w2 ⟨rfl, rfl⟩
    go_wp2_with fail
    refine (aadd_any ⟨b, 5, none⟩ c4 f4 HW2.out).mono ?_
    rintro e w2 ⟨rfl, hw⟩
    have HR : Hid (Cells w2 b (mc ⟨s.fu, s.li, s.te, s.pi, s.st + 0, s.pc + 1, s.wh, s.n⟩) ∧ w.grownBy w2 (some b)) := ⟨by rw [hw]; simpa [mc, mcl] using HC.out.set 5 (.int .i64 (s.pc + 1)), by rw [hw]; exact gb_set _ _ _ _⟩
    clear hw c4 f4
    go_wp2_with fail
    go_ret
    rw [HE.out.1, HE.out.2]
    exact ⟨rfl, HR.out⟩
theorem mpiece_nil {w : World} : Calls Try.prog 14 #[.pointer none] w fun e w' => e = .returned (.int .i64 0) ∧ w = w' := by
  go_enter Try.func14, Try.ntmps14
  go_wp2
  go_ret
  exact ⟨rfl, rfl⟩
set_option maxHeartbeats 1000000 in
theorem mpiece_any {b : Nat} {s : MS} {w : World} (h : Cells w b (mc s)) (hk : s.Ok) : Calls Try.prog 14 #[.pointer (some ⟨b, 0, none⟩)] w (RetM b (mc s.piece) (.int .i64 s.pieceE) w) := by
  have HC := Lib.hid h
  have HK := Lib.hid hk
  clear h hk
  go_enter Try.func14, Try.ntmps14
  go_upto_region 3 with (fail)
  refine wp_region_held_drew (S := fun w' => w'.cell? ⟨b, 3, none⟩ = some (.int .i64 s.pi)) (by kernel_rfl) (HC.out.cell 3) (fun hH => ?_)
  refine anyH_world (fun w1 hW => ?_)
  have HC1 : Hid (Cells w1 b (mc s) ∧ w.grownBy w1 (some b)) := by rw [hW]; exact ⟨HC.out.keep rfl, gb_drew (World.grownBy.refl _ _)⟩
  rw [← hW] at hH
  clear hW HC
  refine son 0 hH ?_
  try simp only [nrm]
  refine son 1 hH ?_
  try simp only [nrm]
  refine son 2 hH ?_
  try simp only [nrm]
  refine son 3 hH ?_
  try simp only [nrm]
  refine son 4 hH ?_
  try simp only [nrm]
  refine son 5 hH ?_
  try simp only [nrm]
  refine son 6 hH ?_
  try simp only [nrm]
  refine son 7 hH ?_
  try simp only [nrm]
  refine son 8 hH ?_
  try simp only [nrm]
  refine step_one 9 rfl (by kernel_rfl) (fun KK hK => ?_)
  go_simp
  refine (mcount_piece HC1.out.1 HK.out).mono ?_
  rintro e w2 ⟨rfl, hC, hG⟩
  have HR := Lib.hid (And.intro hC (gb_trans HC1.out.2 hG))
  clear hC hG HC1
  go_wp2_with fail
  refine hK.out _ _ (by have e : s.piece.pi = s.pi := by (unfold MS.piece; split <;> rfl)
                        rw [← e]; exact HR.out.1.cell 3) (fun h2 => ?_)
  clear hK KK hH
  have hH := h2
  clear h2
  try simp only [nrm]
  refine son 10 hH ?_
  try simp only [nrm]
  refine wpAnyH_done (by kernel_rfl) ?_ _
  go_wp2_with fail
  go_ret
  exact ⟨rfl, HR.out⟩
end Go.Proofs.Ythllkgjgakeinaa
/-
  MeterCounts: of limits just so many steps, and pieces, are counted as they say.
-/
import Derived.Test.YthllkgjgakeinaaMtSt
import Derived.BigQuiet
set_option maxRecDepth 8192
namespace Go.Proofs.Ythllkgjgakeinaa
open Go.RowKit
def cS (fu li te pi : Int) (k : Nat) : MS := ⟨fu, li, te, pi, min (k : Int) fu, 0, if fu < k then 9 else 0, if fu < k then fu + 1 else 0⟩
def cP (fu li te pi : Int) (st k : Nat) : MS := ⟨fu, li, te, pi, min (st : Int) fu, min (k : Int) pi, if fu < st then 9 else if pi < k then 12 else 0, if fu < st then fu + 1 else if pi < k then pi + 1 else 0⟩
theorem cS_zero {fu li te pi : Int} (h : 0 ≤ fu) : MS.new fu li te pi = cS fu li te pi 0 := by
  unfold cS MS.new
  rw [if_neg (by simp; omega), if_neg (by simp; omega), show min ((0 : Nat) : Int) fu = 0 by simp; omega]
theorem cP_zero {fu li te pi : Int} {st : Nat} (h : 0 ≤ pi) : cS fu li te pi st = cP fu li te pi st 0 := by
  unfold cS cP
  rw [show min ((0 : Nat) : Int) pi = 0 by simp; omega]
  by_cases c : fu < st
  · simp [c]
  · rw [if_neg c, if_neg c, if_neg c, if_neg c, if_neg (by simp; omega), if_neg (by simp; omega)]
theorem cS_step {fu li te pi : Int} (k : Nat) : (cS fu li te pi k).step = cS fu li te pi (k + 1) ∧ ((cS fu li te pi k).stepE == 0) = decide ((k : Int) < fu) := by
  unfold MS.step MS.stepE MS.refuse cS
  simp only
  by_cases c : fu ≤ (k : Int)
  · have e1 : min (k : Int) fu = fu := by omega
    have e2 : min ((k + 1 : Nat) : Int) fu = fu := by omega
    have c2 : fu < ((k + 1 : Nat) : Int) := by omega
    rw [e1, e2, if_pos (Int.le_refl _), if_pos (Int.le_refl _), if_pos c2, if_pos c2, decide_eq_false (by omega)]
    refine ⟨?_, rfl⟩
    by_cases c3 : fu < (k : Int)
    · simp [c3]
    · simp [c3]
  · have e1 : min (k : Int) fu = k := by omega
    have e2 : min ((k + 1 : Nat) : Int) fu = (k : Int) + 1 := by omega
    rw [e1, e2, if_neg c, if_neg c, if_neg (by omega), if_neg (by omega), if_neg (by omega), if_neg (by omega), decide_eq_true (by omega)]
    exact ⟨rfl, rfl⟩
theorem cP_piece {fu li te pi : Int} {st : Nat} (k : Nat) : (cP fu li te pi st k).piece = cP fu li te pi st (k + 1) ∧ ((cP fu li te pi st k).pieceE == 0) = decide ((k : Int) < pi) := by
  unfold MS.piece MS.pieceE MS.refuse cP
  simp only
  by_cases c : pi ≤ (k : Int)
  · have e1 : min (k : Int) pi = pi := by omega
    have e2 : min ((k + 1 : Nat) : Int) pi = pi := by omega
    have c2 : pi < ((k + 1 : Nat) : Int) := by omega
    rw [e1, e2, if_pos (Int.le_refl _), if_pos (Int.le_refl _), if_pos c2, if_pos c2, decide_eq_false (by omega)]
    refine ⟨?_, rfl⟩
    by_cases c4 : fu < (st : Int)
    · simp [c4]
    · by_cases c3 : pi < (k : Int)
      · simp [c3, c4]
      · simp [c3, c4]
  · have e1 : min (k : Int) pi = k := by omega
    have e2 : min ((k + 1 : Nat) : Int) pi = (k : Int) + 1 := by omega
    rw [e1, e2, if_neg c, if_neg c, if_neg (show ¬ pi < (k : Int) by omega), if_neg (show ¬ pi < (k : Int) by omega), if_neg (show ¬ pi < ((k + 1 : Nat) : Int) by omega), if_neg (show ¬ pi < ((k + 1 : Nat) : Int) by omega), decide_eq_true (by omega)]
    exact ⟨rfl, rfl⟩
theorem cS_ok {fu li te pi : Int} (h : mayL fu li te pi = true) (k : Nat) : (cS fu li te pi k).Ok := by
  have h1 := mayL_ok h
  exact ⟨h1.f0, h1.f1, h1.p0, h1.p1, by have : 0 ≤ fu := h1.f0; show 0 ≤ min (k : Int) fu; omega, by show min (k : Int) fu ≤ fu; omega, Int.le_refl _, h1.p0⟩
theorem cP_ok {fu li te pi : Int} (h : mayL fu li te pi = true) (st k : Nat) : (cP fu li te pi st k).Ok := by
  have h1 := mayL_ok h
  exact ⟨h1.f0, h1.f1, h1.p0, h1.p1, by have : 0 ≤ fu := h1.f0; show 0 ≤ min (st : Int) fu; omega, by show min (st : Int) fu ≤ fu; omega, by have : 0 ≤ pi := h1.p0; show 0 ≤ min (k : Int) pi; omega, by show min (k : Int) pi ≤ pi; omega⟩
theorem keep_same {s : MS} (h : s.wh ≠ 0) (ps : List (List Nat)) : s.keep ps = s := by
  unfold MS.keep MS.refuse
  rw [if_neg h, if_neg h, if_neg h, if_neg h]
  split
  · rfl
  · split <;> rfl
theorem refuse_same {s : MS} (h : s.wh ≠ 0) (e n : Int) : s.refuse e n = s := by
  unfold MS.refuse
  rw [if_neg h, if_neg h]
theorem keep_need {s : MS} (h : s.wh = 0) (ht : 0 ≤ s.te) (hl : 0 ≤ s.li) (ps : List (List Nat)) (hz : s.keepE ps ≠ 0) : (s.keep ps).wh = s.keepE ps ∧ 0 < (s.keep ps).n := by
  unfold MS.keepE at hz ⊢
  unfold MS.keep MS.refuse
  by_cases c : s.li < (needL ps : Nat)
  · rw [if_pos c, if_pos c, if_pos h, if_pos h]
    exact ⟨rfl, by show (0 : Int) < (needL ps : Nat); omega⟩
  · rw [if_neg c] at hz
    rw [if_neg c, if_neg c]
    by_cases d : s.te < (ps.length : Nat)
    · rw [if_pos d, if_pos d, if_pos h, if_pos h]
      exact ⟨rfl, by show (0 : Int) < (ps.length : Nat); omega⟩
    · rw [if_neg d] at hz
      exact absurd rfl hz
theorem keep_free {s : MS} (ps : List (List Nat)) (hz : s.keepE ps = 0) : s.keep ps = s := by
  unfold MS.keepE at hz
  unfold MS.keep
  by_cases c : s.li < (needL ps : Nat)
  · rw [if_pos c] at hz; omega
  · rw [if_neg c] at hz ⊢
    by_cases d : s.te < (ps.length : Nat)
    · rw [if_pos d] at hz; omega
    · rw [if_neg d]
set_option maxHeartbeats 16000000 in
set_option maxRecDepth 100000 in
theorem meterCounts_any {fu li te pi st pc : Int} {ao : Option Addr} {n cap : Nat} {ps : List (List Nat)} {w : World} (hst : 0 ≤ st ∧ st < 256) (hpc : 0 ≤ pc ∧ pc < 256) (h : Lp w ao n cap ps) : Calls Try.prog 6 #[.agg #[.int .i64 fu, .int .i64 li, .int .i64 te, .int .i64 pi], .int .u8 st, .int .u8 pc, .slice ao n cap] w (RetB (.bool true) w) := by
  obtain ⟨sn, rfl⟩ : ∃ sn : Nat, st = sn := ⟨st.toNat, by omega⟩
  obtain ⟨pn, rfl⟩ : ∃ pn : Nat, pc = pn := ⟨pc.toNat, by omega⟩
  have HP := Lib.hid h
  have hs2 : sn < 256 := by omega
  have hp2 : pn < 256 := by omega
  have hws : IntKind.i64.wrap (sn : Int) = (sn : Int) := IntWalk.i64_in _ ⟨by omega, by omega⟩
  have hwp : IntKind.i64.wrap (pn : Int) = (pn : Int) := IntWalk.i64_in _ ⟨by omega, by omega⟩
  clear h hst hpc
  go_enter Try.func6, Try.ntmps6
  go_upto_region 1 with (fail)
  refine wp_world (fun V1 hV => ?_)
  have S1 : Hid (Sx w V1 [⟨w.heap.size, [.int .i64 fu, .int .i64 li, .int .i64 te, .int .i64 pi]⟩] []) := by
    rw [hV]
    exact Sx.var (Sx.start (N := []) trivial) w.heap.size _ 23 rfl
  clear hV
  by_cases h60 : 60 < sn
  · have hd : decide ((60 : Int) < (sn : Int)) = true := decide_eq_true (by omega)
    go_wp2_with fail
    refine (mknown_any _).mono ?_
    rintro e V2 ⟨rfl, hB⟩
    have S2 : Hid (Sx w V2 [⟨w.heap.size, [.int .i64 fu, .int .i64 li, .int .i64 te, .int .i64 pi]⟩] []) := S1.out.step hB
    clear hB S1
    go_wp2_with fail
    go_ret
    exact ⟨rfl, S2.out.h⟩
  have hd : decide ((60 : Int) < (sn : Int)) = false := decide_eq_false (by omega)
  by_cases h61 : 60 < pn
  · have hd : decide ((60 : Int) < (pn : Int)) = true := decide_eq_true (by omega)
    go_wp2_with fail
    refine (mknown_any _).mono ?_
    rintro e V2 ⟨rfl, hB⟩
    have S2 : Hid (Sx w V2 [⟨w.heap.size, [.int .i64 fu, .int .i64 li, .int .i64 te, .int .i64 pi]⟩] []) := S1.out.step hB
    clear hB S1
    go_wp2_with fail
    go_ret
    exact ⟨rfl, S2.out.h⟩
  have hd2 : decide ((60 : Int) < (pn : Int)) = false := decide_eq_false (by omega)
  go_wp2_with fail
  have k1 := Cells.new V1 V1.heap.size [.int .i64 0, .slice ao n cap, .int .i64 0] 41 rfl
  refine (mgreat_any (lo_lit ((HP.out.below S1.out.h).below (below_alloc V1 _)) k1)).mono ?_
  rintro e V10 ⟨r, rfl, rfl⟩
  clear k1
  have S2 : Hid (Sx w _ [⟨w.heap.size, [.int .i64 fu, .int .i64 li, .int .i64 te, .int .i64 pi]⟩] []) := S1.out.step (below_alloc V1 (.cells #[.int .i64 0, .slice ao n cap, .int .i64 0] 41))
  obtain ⟨V2, hV2⟩ : ∃ V2, V2 = V1.alloc (.cells #[.int .i64 0, .slice ao n cap, .int .i64 0] 41) := ⟨_, rfl⟩
  rw [← hV2] at S2
  rw [← hV2]
  clear hV2 S1
  cases r with
  | true =>
    go_wp2_with fail
    refine (mknown_any _).mono ?_
    rintro e V3 ⟨rfl, hB⟩
    have S3 : Hid (Sx w V3 [⟨w.heap.size, [.int .i64 fu, .int .i64 li, .int .i64 te, .int .i64 pi]⟩] []) := S2.out.step hB
    clear hB S2
    go_wp2_with fail
    go_ret
    exact ⟨rfl, S3.out.h⟩
  | false =>
    obtain ⟨x0, x1, x2, x3⟩ := S2.out.b.1.c4
    cases hrm : mayL fu li te pi with
    | false =>
      go_wp2_with fail
      refine (mnew_no hrm).mono ?_
      rintro e V3 ⟨rfl, hB⟩
      have S3 : Hid (Sx w V3 [⟨w.heap.size, [.int .i64 fu, .int .i64 li, .int .i64 te, .int .i64 pi]⟩] []) := S2.out.step hB
      clear hB S2
      go_wp2_with fail
      refine (mknown_any _).mono ?_
      rintro e V4 ⟨rfl, hB⟩
      have S4 : Hid (Sx w V4 [⟨w.heap.size, [.int .i64 fu, .int .i64 li, .int .i64 te, .int .i64 pi]⟩] []) := S3.out.step hB
      clear hB S3
      go_wp2_with fail
      go_ret
      exact ⟨rfl, S4.out.h⟩
    | true =>
      have h0f : 0 ≤ fu := (mayL_ok hrm).f0
      have h0p : 0 ≤ pi := (mayL_ok hrm).p0
      have HM := Lib.hid hrm
      go_wp2_with fail
      refine (mnew_yes hrm).mono ?_
      rintro e V3 ⟨b, rfl, hC, hb, hB⟩
      rw [cS_zero h0f] at hC
      have S3 : Hid (Sx w V3 [⟨b, mc (cS fu li te pi 0)⟩, ⟨w.heap.size, [.int .i64 fu, .int .i64 li, .int .i64 te, .int .i64 pi]⟩] []) := S2.out.made hC hb hB
      clear hC hb hB S2 x0 x1 x2 x3 hrm
      go_wp2_with fail
      go_loopw [50] (fun i wr => ∃ (k : Nat), i = .int .i64 k ∧ k ≤ sn ∧ Hid (Sx w wr [⟨b, mc (cS fu li te pi k)⟩, ⟨w.heap.size, [.int .i64 fu, .int .i64 li, .int .i64 te, .int .i64 pi]⟩] [])) (fun i _ => sn - (intOf i).toNat)
      case atStart => exact ⟨0, rfl, Nat.zero_le _, S3.out⟩
      case round =>
        clear S3
        obtain ⟨k, rfl, hk, S1⟩ := hrel
        by_cases hkn : k < sn
        · have hki : (k : Int) < (sn : Int) := by omega
          obtain ⟨z, q, hz, hq, hq2⟩ : ∃ (z : Int) (q : Bool), z = (cS fu li te pi k).stepE ∧ (z == 0) = q ∧ decide ((k : Int) < fu) = q := ⟨_, _, rfl, rfl, (cS_step k).2.symm⟩
          have hwk : IntKind.i64.wrap ((k : Int) + 1) = (k : Int) + 1 := IntWalk.i64_in _ ⟨by omega, by omega⟩
          have HA : Hid (∀ V, Cells V b (mc (cS fu li te pi k)) → Calls Try.prog 12 #[.pointer (some ⟨b, 0, none⟩)] V (RetM b (mc (cS fu li te pi (k + 1))) (.int .i64 z) V)) := fun V h => by rw [hz, ← (cS_step k).1]; exact mstep_any h (cS_ok HM.out k)
          clear hz
          go_upto_region 9 with (fail)
          refine wp_region_held_drew (S := fun w' => w'.cell? ⟨w.heap.size, 0, none⟩ = some (.int .i64 fu) ∧ w'.cell? ⟨w.heap.size, 1, none⟩ = some (.int .i64 li) ∧ w'.cell? ⟨w.heap.size, 2, none⟩ = some (.int .i64 te) ∧ w'.cell? ⟨w.heap.size, 3, none⟩ = some (.int .i64 pi)) (by kernel_rfl) S1.out.b.t.1.c4 (fun hH => ?_)
          refine anyH_world (fun V2 hW => ?_)
          have S2 : Hid (Sx w V2 [⟨b, mc (cS fu li te pi k)⟩, ⟨w.heap.size, [.int .i64 fu, .int .i64 li, .int .i64 te, .int .i64 pi]⟩] []) := by rw [hW]; exact S1.out.drew
          rw [← hW] at hH
          clear hW S1
          refine son 0 hH ?_
          try simp only [nrm]
          refine son 3 hH ?_
          try simp only [nrm]
          refine son 4 hH ?_
          try simp only [nrm]
          refine son 5 hH ?_
          try simp only [nrm]
          refine son 6 hH ?_
          try simp only [nrm]
          refine step_one 1 rfl (by kernel_rfl) (fun KK hK => ?_)
          go_simp
          refine (HA.out _ S2.out.b.1).mono ?_
          intro e V3 h
          obtain ⟨rfl, hS⟩ := S2.out.ret [] [⟨w.heap.size, [.int .i64 fu, .int .i64 li, .int .i64 te, .int .i64 pi]⟩] h
          have S3 : Hid (Sx w V3 [⟨b, mc (cS fu li te pi (k + 1))⟩, ⟨w.heap.size, [.int .i64 fu, .int .i64 li, .int .i64 te, .int .i64 pi]⟩] []) := hS
          clear hS h S2
          go_wp2_with fail
          refine hK.out _ _ S3.out.b.t.1.c4 (fun h2 => ?_)
          clear hK KK hH
          have hH := h2
          clear h2
          try simp only [nrm]
          refine son 2 hH ?_
          try simp only [nrm]
          cases q with
          | true =>
            have hb1 := of_decide_eq_true hq2
            have hmn : ¬ fu < (k : Int) + 1 := by omega
            have he : (cS fu li te pi (k + 1)).st = (k : Int) + 1 := by show min ((k + 1 : Nat) : Int) fu = _; omega
            have HF : Hid (∀ V, Cells V b (mc (cS fu li te pi (k + 1))) → Calls Try.prog 20 #[.pointer (some ⟨b, 0, none⟩)] V fun e V' => e = .returned (.int .i64 ((k : Int) + 1)) ∧ V = V') := fun V h => by rw [← he]; exact mfuel_any h
            clear he hb1
            have HO : Hid (∀ V, Cells V b (mc (cS fu li te pi (k + 1))) → Calls Try.prog 21 #[.pointer (some ⟨b, 0, none⟩)] V fun e V' => e = .returned (.int .i64 0) ∧ V = V') := fun V h => mpieces_any h
            refine son 7 hH ?_
            try simp only [nrm]
            refine son 8 hH ?_
            try simp only [nrm]
            refine son 9 hH ?_
            try simp only [nrm]
            refine son 11 hH ?_
            try simp only [nrm]
            refine son 12 hH ?_
            try simp only [nrm]
            refine son 13 hH ?_
            try simp only [nrm]
            refine son 14 hH ?_
            try simp only [nrm]
            refine son 15 hH ?_
            try simp only [nrm]
            refine step_one 10 rfl (by kernel_rfl) (fun KK hK => ?_)
            go_simp
            refine (HF.out _ S3.out.b.1).mono ?_
            rintro e V30 ⟨rfl, rfl⟩
            go_wp2_with fail
            refine hK.out _ _ S3.out.b.t.1.c4 (fun h2 => ?_)
            clear hK KK hH
            have hH := h2
            clear h2
            try simp only [nrm]
            refine son 16 hH ?_
            try simp only [nrm]
            refine son 17 hH ?_
            try simp only [nrm]
            refine son 18 hH ?_
            try simp only [nrm]
            refine son 19 hH ?_
            try simp only [nrm]
            refine step_one 20 rfl (by kernel_rfl) (fun KK hK => ?_)
            go_simp
            refine (HO.out _ S3.out.b.1).mono ?_
            rintro e V30 ⟨rfl, rfl⟩
            go_wp2_with fail
            refine hK.out _ _ S3.out.b.t.1.c4 (fun h2 => ?_)
            clear hK KK hH
            have hH := h2
            clear h2
            try simp only [nrm]
            refine son 21 hH ?_
            try simp only [nrm]
            refine son 22 hH ?_
            try simp only [nrm]
            refine wpAnyH_done (by kernel_rfl) ?_ _
            clear hH
            go_wp2_with fail
            go_roundw
            case rel => exact ⟨k + 1, by go_num, by omega, S3.out⟩
            case measure => simp [intOf]; omega
          | false =>
            have hb1 := of_decide_eq_false hq2
            have hmn : fu < (k : Int) + 1 := by omega
            have he : (cS fu li te pi (k + 1)).st = fu := by show min ((k + 1 : Nat) : Int) fu = _; omega
            have HF : Hid (∀ V, Cells V b (mc (cS fu li te pi (k + 1))) → Calls Try.prog 20 #[.pointer (some ⟨b, 0, none⟩)] V fun e V' => e = .returned (.int .i64 (fu)) ∧ V = V') := fun V h => by rw [← he]; exact mfuel_any h
            clear he hb1
            have HO : Hid (∀ V, Cells V b (mc (cS fu li te pi (k + 1))) → Calls Try.prog 21 #[.pointer (some ⟨b, 0, none⟩)] V fun e V' => e = .returned (.int .i64 0) ∧ V = V') := fun V h => mpieces_any h
            refine son 7 hH ?_
            try simp only [nrm]
            refine son 8 hH ?_
            try simp only [nrm]
            refine son 9 hH ?_
            try simp only [nrm]
            refine son 11 hH ?_
            try simp only [nrm]
            refine son 12 hH ?_
            try simp only [nrm]
            refine son 13 hH ?_
            try simp only [nrm]
            refine son 14 hH ?_
            try simp only [nrm]
            refine son 15 hH ?_
            try simp only [nrm]
            refine step_one 10 rfl (by kernel_rfl) (fun KK hK => ?_)
            go_simp
            refine (HF.out _ S3.out.b.1).mono ?_
            rintro e V30 ⟨rfl, rfl⟩
            go_wp2_with fail
            refine hK.out _ _ S3.out.b.t.1.c4 (fun h2 => ?_)
            clear hK KK hH
            have hH := h2
            clear h2
            try simp only [nrm]
            refine son 16 hH ?_
            try simp only [nrm]
            refine son 17 hH ?_
            try simp only [nrm]
            refine son 18 hH ?_
            try simp only [nrm]
            refine son 19 hH ?_
            try simp only [nrm]
            refine step_one 20 rfl (by kernel_rfl) (fun KK hK => ?_)
            go_simp
            refine (HO.out _ S3.out.b.1).mono ?_
            rintro e V30 ⟨rfl, rfl⟩
            go_wp2_with fail
            refine hK.out _ _ S3.out.b.t.1.c4 (fun h2 => ?_)
            clear hK KK hH
            have hH := h2
            clear h2
            try simp only [nrm]
            refine son 21 hH ?_
            try simp only [nrm]
            refine son 22 hH ?_
            try simp only [nrm]
            refine wpAnyH_done (by kernel_rfl) ?_ _
            clear hH
            go_wp2_with fail
            go_roundw
            case rel => exact ⟨k + 1, by go_num, by omega, S3.out⟩
            case measure => simp [intOf]; omega
        · obtain rfl : k = sn := by omega
          rw [cP_zero h0p] at S1
          go_wp2_with fail
          go_loopw [79] (fun i wr => ∃ (j : Nat), i = .int .i64 j ∧ j ≤ pn ∧ Hid (Sx w wr [⟨b, mc (cP fu li te pi k j)⟩, ⟨w.heap.size, [.int .i64 fu, .int .i64 li, .int .i64 te, .int .i64 pi]⟩] [])) (fun i _ => pn - (intOf i).toNat)
          case atStart => exact ⟨0, rfl, Nat.zero_le _, S1.out⟩
          case round =>
            clear S1
            obtain ⟨j, rfl, hj, S1⟩ := hrel
            by_cases hjn : j < pn
            · have hji : (j : Int) < (pn : Int) := by omega
              obtain ⟨z, q, hz, hq, hq2⟩ : ∃ (z : Int) (q : Bool), z = (cP fu li te pi k j).pieceE ∧ (z == 0) = q ∧ decide ((j : Int) < pi) = q := ⟨_, _, rfl, rfl, (cP_piece (st := k) j).2.symm⟩
              have hwk : IntKind.i64.wrap ((j : Int) + 1) = (j : Int) + 1 := IntWalk.i64_in _ ⟨by omega, by omega⟩
              have HA : Hid (∀ V, Cells V b (mc (cP fu li te pi k j)) → Calls Try.prog 14 #[.pointer (some ⟨b, 0, none⟩)] V (RetM b (mc (cP fu li te pi k (j + 1))) (.int .i64 z) V)) := fun V h => by rw [hz, ← (cP_piece (st := k) j).1]; exact mpiece_any h (cP_ok HM.out k j)
              clear hz
              go_upto_region 15 with (fail)
              refine wp_region_held_drew (S := fun w' => w'.cell? ⟨w.heap.size, 0, none⟩ = some (.int .i64 fu) ∧ w'.cell? ⟨w.heap.size, 1, none⟩ = some (.int .i64 li) ∧ w'.cell? ⟨w.heap.size, 2, none⟩ = some (.int .i64 te) ∧ w'.cell? ⟨w.heap.size, 3, none⟩ = some (.int .i64 pi)) (by kernel_rfl) S1.out.b.t.1.c4 (fun hH => ?_)
              refine anyH_world (fun V2 hW => ?_)
              have S2 : Hid (Sx w V2 [⟨b, mc (cP fu li te pi k j)⟩, ⟨w.heap.size, [.int .i64 fu, .int .i64 li, .int .i64 te, .int .i64 pi]⟩] []) := by rw [hW]; exact S1.out.drew
              rw [← hW] at hH
              clear hW S1
              refine son 0 hH ?_
              try simp only [nrm]
              refine son 3 hH ?_
              try simp only [nrm]
              refine son 4 hH ?_
              try simp only [nrm]
              refine son 5 hH ?_
              try simp only [nrm]
              refine son 6 hH ?_
              try simp only [nrm]
              refine step_one 1 rfl (by kernel_rfl) (fun KK hK => ?_)
              go_simp
              refine (HA.out _ S2.out.b.1).mono ?_
              intro e V3 h
              obtain ⟨rfl, hS⟩ := S2.out.ret [] [⟨w.heap.size, [.int .i64 fu, .int .i64 li, .int .i64 te, .int .i64 pi]⟩] h
              have S3 : Hid (Sx w V3 [⟨b, mc (cP fu li te pi k (j + 1))⟩, ⟨w.heap.size, [.int .i64 fu, .int .i64 li, .int .i64 te, .int .i64 pi]⟩] []) := hS
              clear hS h S2
              go_wp2_with fail
              refine hK.out _ _ S3.out.b.t.1.c4 (fun h2 => ?_)
              clear hK KK hH
              have hH := h2
              clear h2
              try simp only [nrm]
              refine son 2 hH ?_
              try simp only [nrm]
              cases q with
              | true =>
                have hb1 := of_decide_eq_true hq2
                have hmn : ¬ pi < (j : Int) + 1 := by omega
                have he : (cP fu li te pi k (j + 1)).pc = (j : Int) + 1 := by show min ((j + 1 : Nat) : Int) pi = _; omega
                have HF : Hid (∀ V, Cells V b (mc (cP fu li te pi k (j + 1))) → Calls Try.prog 21 #[.pointer (some ⟨b, 0, none⟩)] V fun e V' => e = .returned (.int .i64 ((j : Int) + 1)) ∧ V = V') := fun V h => by rw [← he]; exact mpieces_any h
                clear he hb1
                by_cases hsf : fu < (k : Int)
                · have he2 : (cP fu li te pi k (j + 1)).st = fu := by show min (k : Int) fu = _; omega
                  have HO : Hid (∀ V, Cells V b (mc (cP fu li te pi k (j + 1))) → Calls Try.prog 20 #[.pointer (some ⟨b, 0, none⟩)] V fun e V' => e = .returned (.int .i64 fu) ∧ V = V') := fun V h => by rw [← he2]; exact mfuel_any h
                  clear he2
                  refine son 7 hH ?_
                  try simp only [nrm]
                  refine son 8 hH ?_
                  try simp only [nrm]
                  refine son 9 hH ?_
                  try simp only [nrm]
                  refine son 11 hH ?_
                  try simp only [nrm]
                  refine son 12 hH ?_
                  try simp only [nrm]
                  refine son 13 hH ?_
                  try simp only [nrm]
                  refine son 14 hH ?_
                  try simp only [nrm]
                  refine son 15 hH ?_
                  try simp only [nrm]
                  refine step_one 10 rfl (by kernel_rfl) (fun KK hK => ?_)
                  go_simp
                  refine (HF.out _ S3.out.b.1).mono ?_
                  rintro e V30 ⟨rfl, rfl⟩
                  go_wp2_with fail
                  refine hK.out _ _ S3.out.b.t.1.c4 (fun h2 => ?_)
                  clear hK KK hH
                  have hH := h2
                  clear h2
                  try simp only [nrm]
                  refine son 16 hH ?_
                  try simp only [nrm]
                  refine son 17 hH ?_
                  try simp only [nrm]
                  refine son 18 hH ?_
                  try simp only [nrm]
                  refine son 19 hH ?_
                  try simp only [nrm]
                  refine son 21 hH ?_
                  try simp only [nrm]
                  refine son 22 hH ?_
                  try simp only [nrm]
                  refine son 23 hH ?_
                  try simp only [nrm]
                  refine son 24 hH ?_
                  try simp only [nrm]
                  refine son 25 hH ?_
                  try simp only [nrm]
                  refine step_one 20 rfl (by kernel_rfl) (fun KK hK => ?_)
                  go_simp
                  refine (HO.out _ S3.out.b.1).mono ?_
                  rintro e V30 ⟨rfl, rfl⟩
                  go_wp2_with fail
                  refine hK.out _ _ S3.out.b.t.1.c4 (fun h2 => ?_)
                  clear hK KK hH
                  have hH := h2
                  clear h2
                  try simp only [nrm]
                  refine son 26 hH ?_
                  try simp only [nrm]
                  refine son 27 hH ?_
                  try simp only [nrm]
                  refine wpAnyH_done (by kernel_rfl) ?_ _
                  clear hH
                  go_wp2_with fail
                  go_roundw
                  case rel => exact ⟨j + 1, by go_num, by omega, S3.out⟩
                  case measure => simp [intOf]; omega
                · have he2 : (cP fu li te pi k (j + 1)).st = (k : Nat) := by show min (k : Int) fu = _; omega
                  have HO : Hid (∀ V, Cells V b (mc (cP fu li te pi k (j + 1))) → Calls Try.prog 20 #[.pointer (some ⟨b, 0, none⟩)] V fun e V' => e = .returned (.int .i64 (k : Nat)) ∧ V = V') := fun V h => by rw [← he2]; exact mfuel_any h
                  clear he2
                  refine son 7 hH ?_
                  try simp only [nrm]
                  refine son 8 hH ?_
                  try simp only [nrm]
                  refine son 9 hH ?_
                  try simp only [nrm]
                  refine son 11 hH ?_
                  try simp only [nrm]
                  refine son 12 hH ?_
                  try simp only [nrm]
                  refine son 13 hH ?_
                  try simp only [nrm]
                  refine son 14 hH ?_
                  try simp only [nrm]
                  refine son 15 hH ?_
                  try simp only [nrm]
                  refine step_one 10 rfl (by kernel_rfl) (fun KK hK => ?_)
                  go_simp
                  refine (HF.out _ S3.out.b.1).mono ?_
                  rintro e V30 ⟨rfl, rfl⟩
                  go_wp2_with fail
                  refine hK.out _ _ S3.out.b.t.1.c4 (fun h2 => ?_)
                  clear hK KK hH
                  have hH := h2
                  clear h2
                  try simp only [nrm]
                  refine son 16 hH ?_
                  try simp only [nrm]
                  refine son 17 hH ?_
                  try simp only [nrm]
                  refine son 18 hH ?_
                  try simp only [nrm]
                  refine son 19 hH ?_
                  try simp only [nrm]
                  refine son 21 hH ?_
                  try simp only [nrm]
                  refine son 22 hH ?_
                  try simp only [nrm]
                  refine son 23 hH ?_
                  try simp only [nrm]
                  refine son 24 hH ?_
                  try simp only [nrm]
                  refine son 25 hH ?_
                  try simp only [nrm]
                  refine step_one 20 rfl (by kernel_rfl) (fun KK hK => ?_)
                  go_simp
                  refine (HO.out _ S3.out.b.1).mono ?_
                  rintro e V30 ⟨rfl, rfl⟩
                  go_wp2_with fail
                  refine hK.out _ _ S3.out.b.t.1.c4 (fun h2 => ?_)
                  clear hK KK hH
                  have hH := h2
                  clear h2
                  try simp only [nrm]
                  refine son 26 hH ?_
                  try simp only [nrm]
                  refine son 27 hH ?_
                  try simp only [nrm]
                  refine wpAnyH_done (by kernel_rfl) ?_ _
                  clear hH
                  go_wp2_with fail
                  go_roundw
                  case rel => exact ⟨j + 1, by go_num, by omega, S3.out⟩
                  case measure => simp [intOf]; omega
              | false =>
                have hb1 := of_decide_eq_false hq2
                have hmn : pi < (j : Int) + 1 := by omega
                have he : (cP fu li te pi k (j + 1)).pc = pi := by show min ((j + 1 : Nat) : Int) pi = _; omega
                have HF : Hid (∀ V, Cells V b (mc (cP fu li te pi k (j + 1))) → Calls Try.prog 21 #[.pointer (some ⟨b, 0, none⟩)] V fun e V' => e = .returned (.int .i64 (pi)) ∧ V = V') := fun V h => by rw [← he]; exact mpieces_any h
                clear he hb1
                by_cases hsf : fu < (k : Int)
                · have he2 : (cP fu li te pi k (j + 1)).st = fu := by show min (k : Int) fu = _; omega
                  have HO : Hid (∀ V, Cells V b (mc (cP fu li te pi k (j + 1))) → Calls Try.prog 20 #[.pointer (some ⟨b, 0, none⟩)] V fun e V' => e = .returned (.int .i64 fu) ∧ V = V') := fun V h => by rw [← he2]; exact mfuel_any h
                  clear he2
                  refine son 7 hH ?_
                  try simp only [nrm]
                  refine son 8 hH ?_
                  try simp only [nrm]
                  refine son 9 hH ?_
                  try simp only [nrm]
                  refine son 11 hH ?_
                  try simp only [nrm]
                  refine son 12 hH ?_
                  try simp only [nrm]
                  refine son 13 hH ?_
                  try simp only [nrm]
                  refine son 14 hH ?_
                  try simp only [nrm]
                  refine son 15 hH ?_
                  try simp only [nrm]
                  refine step_one 10 rfl (by kernel_rfl) (fun KK hK => ?_)
                  go_simp
                  refine (HF.out _ S3.out.b.1).mono ?_
                  rintro e V30 ⟨rfl, rfl⟩
                  go_wp2_with fail
                  refine hK.out _ _ S3.out.b.t.1.c4 (fun h2 => ?_)
                  clear hK KK hH
                  have hH := h2
                  clear h2
                  try simp only [nrm]
                  refine son 16 hH ?_
                  try simp only [nrm]
                  refine son 17 hH ?_
                  try simp only [nrm]
                  refine son 18 hH ?_
                  try simp only [nrm]
                  refine son 19 hH ?_
                  try simp only [nrm]
                  refine son 21 hH ?_
                  try simp only [nrm]
                  refine son 22 hH ?_
                  try simp only [nrm]
                  refine son 23 hH ?_
                  try simp only [nrm]
                  refine son 24 hH ?_
                  try simp only [nrm]
                  refine son 25 hH ?_
                  try simp only [nrm]
                  refine step_one 20 rfl (by kernel_rfl) (fun KK hK => ?_)
                  go_simp
                  refine (HO.out _ S3.out.b.1).mono ?_
                  rintro e V30 ⟨rfl, rfl⟩
                  go_wp2_with fail
                  refine hK.out _ _ S3.out.b.t.1.c4 (fun h2 => ?_)
                  clear hK KK hH
                  have hH := h2
                  clear h2
                  try simp only [nrm]
                  refine son 26 hH ?_
                  try simp only [nrm]
                  refine son 27 hH ?_
                  try simp only [nrm]
                  refine wpAnyH_done (by kernel_rfl) ?_ _
                  clear hH
                  go_wp2_with fail
                  go_roundw
                  case rel => exact ⟨j + 1, by go_num, by omega, S3.out⟩
                  case measure => simp [intOf]; omega
                · have he2 : (cP fu li te pi k (j + 1)).st = (k : Nat) := by show min (k : Int) fu = _; omega
                  have HO : Hid (∀ V, Cells V b (mc (cP fu li te pi k (j + 1))) → Calls Try.prog 20 #[.pointer (some ⟨b, 0, none⟩)] V fun e V' => e = .returned (.int .i64 (k : Nat)) ∧ V = V') := fun V h => by rw [← he2]; exact mfuel_any h
                  clear he2
                  refine son 7 hH ?_
                  try simp only [nrm]
                  refine son 8 hH ?_
                  try simp only [nrm]
                  refine son 9 hH ?_
                  try simp only [nrm]
                  refine son 11 hH ?_
                  try simp only [nrm]
                  refine son 12 hH ?_
                  try simp only [nrm]
                  refine son 13 hH ?_
                  try simp only [nrm]
                  refine son 14 hH ?_
                  try simp only [nrm]
                  refine son 15 hH ?_
                  try simp only [nrm]
                  refine step_one 10 rfl (by kernel_rfl) (fun KK hK => ?_)
                  go_simp
                  refine (HF.out _ S3.out.b.1).mono ?_
                  rintro e V30 ⟨rfl, rfl⟩
                  go_wp2_with fail
                  refine hK.out _ _ S3.out.b.t.1.c4 (fun h2 => ?_)
                  clear hK KK hH
                  have hH := h2
                  clear h2
                  try simp only [nrm]
                  refine son 16 hH ?_
                  try simp only [nrm]
                  refine son 17 hH ?_
                  try simp only [nrm]
                  refine son 18 hH ?_
                  try simp only [nrm]
                  refine son 19 hH ?_
                  try simp only [nrm]
                  refine son 21 hH ?_
                  try simp only [nrm]
                  refine son 22 hH ?_
                  try simp only [nrm]
                  refine son 23 hH ?_
                  try simp only [nrm]
                  refine son 24 hH ?_
                  try simp only [nrm]
                  refine son 25 hH ?_
                  try simp only [nrm]
                  refine step_one 20 rfl (by kernel_rfl) (fun KK hK => ?_)
                  go_simp
                  refine (HO.out _ S3.out.b.1).mono ?_
                  rintro e V30 ⟨rfl, rfl⟩
                  go_wp2_with fail
                  refine hK.out _ _ S3.out.b.t.1.c4 (fun h2 => ?_)
                  clear hK KK hH
                  have hH := h2
                  clear h2
                  try simp only [nrm]
                  refine son 26 hH ?_
                  try simp only [nrm]
                  refine son 27 hH ?_
                  try simp only [nrm]
                  refine wpAnyH_done (by kernel_rfl) ?_ _
                  clear hH
                  go_wp2_with fail
                  go_roundw
                  case rel => exact ⟨j + 1, by go_num, by omega, S3.out⟩
                  case measure => simp [intOf]; omega
            · obtain rfl : j = pn := by omega
              have hOK : Hid ((cP fu li te pi k j).Ok) := cP_ok HM.out k j
              have hli : Hid (0 ≤ li ∧ 0 ≤ te) := by
                have h := HM.out
                unfold mayL at h
                simp only [Bool.and_eq_true, decide_eq_true_eq] at h
                exact ⟨h.2.1.1, h.2.2.1.1⟩
              have hf1 : fu ≤ 1000000 := (mayL_ok HM.out).f1
              have hp1 : pi ≤ 1000 := (mayL_ok HM.out).p1
              have hwf : IntKind.i64.wrap (fu + 1) = fu + 1 := IntWalk.i64_in _ ⟨by omega, by omega⟩
              have hwpi : IntKind.i64.wrap (pi + 1) = pi + 1 := IntWalk.i64_in _ ⟨by omega, by omega⟩
              obtain ⟨s, hs⟩ : ∃ s, s = cP fu li te pi k j := ⟨_, rfl⟩
              rw [← hs] at S1
              have HL4 : Hid (∀ V, Cells V b (mc s) → Calls Try.prog 11 #[.pointer (some ⟨b, 0, none⟩)] V (RetB (.agg #[.int .i64 fu, .int .i64 li, .int .i64 te, .int .i64 pi]) V)) := fun V h => by have := mlimits_any h; rw [hs] at this; exact this
              go_upto_region 19 with (fail)
              refine wp_world (fun V2 hV => ?_)
              obtain ⟨g, hg⟩ : ∃ g, g = wr.heap.size := ⟨_, rfl⟩
              have S2 : Hid (Sx w V2 [⟨g, [.int .i64 0, .int .i64 0]⟩, ⟨b, mc s⟩, ⟨w.heap.size, [.int .i64 fu, .int .i64 li, .int .i64 te, .int .i64 pi]⟩] []) := by rw [hV]; exact S1.out.var g _ 35 hg
              rw [← hg]
              clear hV hg S1
              obtain ⟨x0, x1, x2, x3⟩ := S2.out.b.t.t.1.c4
              obtain ⟨n0, n1⟩ := S2.out.b.1.c2
              obtain ⟨f0, f1⟩ := S2.out.b.1.f2
              by_cases hA : fu < (k : Int)
              · have hd9 : decide (fu < (k : Int)) = true := decide_eq_true hA
                have HW : Hid (s.wh = 9 ∧ s.n = fu + 1) := by rw [hs]; unfold cP; exact ⟨if_pos hA, if_pos hA⟩
                go_upto_region 23 with (fail)
                refine wp_world (fun V3 hV => ?_)
                have S3 : Hid (Sx w V3 [⟨g, [.int .i64 9, .int .i64 (fu + 1)]⟩, ⟨b, mc s⟩, ⟨w.heap.size, [.int .i64 fu, .int .i64 li, .int .i64 te, .int .i64 pi]⟩] []) := by rw [hV]; exact (S2.out.set [] [⟨b, mc s⟩, ⟨w.heap.size, [.int .i64 fu, .int .i64 li, .int .i64 te, .int .i64 pi]⟩] 0 (.int .i64 9)).set [] [⟨b, mc s⟩, ⟨w.heap.size, [.int .i64 fu, .int .i64 li, .int .i64 te, .int .i64 pi]⟩] 1 (.int .i64 (fu + 1))
                clear hV S2
                clear x0 x1 x2 x3 n0 n1 f0 f1
                have HN : Hid (∀ V, Cells V b (mc s) → Calls Try.prog 22 #[.pointer (some ⟨b, 0, none⟩)] V (RetB (.agg #[.int .i64 9, .int .i64 (fu + 1)]) V)) := fun V h => by have := mneed_any h; rw [HW.out.1, HW.out.2] at this; exact this
                refine wp_region_held_drew (S := fun w' => w'.cell? ⟨g, 0, none⟩ = some (.int .i64 9) ∧ w'.cell? ⟨g, 1, none⟩ = some (.int .i64 (fu + 1))) (by kernel_rfl) S3.out.b.1.c2 (fun hH => ?_)
                refine anyH_world (fun V4 hW => ?_)
                have S4 : Hid (Sx w V4 [⟨g, [.int .i64 9, .int .i64 (fu + 1)]⟩, ⟨b, mc s⟩, ⟨w.heap.size, [.int .i64 fu, .int .i64 li, .int .i64 te, .int .i64 pi]⟩] []) := by rw [hW]; exact S3.out.drew
                rw [← hW] at hH
                clear hW S3
                refine son 0 hH ?_
                try simp only [nrm]
                refine son 2 hH ?_
                try simp only [nrm]
                refine step_one 1 rfl (by kernel_rfl) (fun KK hK => ?_)
                go_simp
                refine (HN.out _ S4.out.b.t.1).mono ?_
                rintro e V5 ⟨rfl, hB⟩
                have S5 : Hid (Sx w V5 [⟨g, [.int .i64 9, .int .i64 (fu + 1)]⟩, ⟨b, mc s⟩, ⟨w.heap.size, [.int .i64 fu, .int .i64 li, .int .i64 te, .int .i64 pi]⟩] []) := S4.out.step hB
                clear hB S4
                go_wp2_with fail
                refine hK.out _ _ S5.out.b.1.c2 (fun h2 => ?_)
                clear hK KK hH
                have hH := h2
                clear h2
                try simp only [nrm]
                refine son 3 hH ?_
                try simp only [nrm]
                refine wpAnyH_done (by kernel_rfl) ?_ _
                clear hH
                obtain ⟨z, hz⟩ : ∃ z, z = s.keepE ps := ⟨_, rfl⟩
                have HW0 : s.wh ≠ 0 := by rw [HW.out.1]; decide
                have HK : Hid (∀ V, Cells V b (mc s) → Lp V ao n cap ps → Calls Try.prog 16 #[.pointer (some ⟨b, 0, none⟩), .slice ao n cap] V (RetM b (mc s) (.int .i64 z) V)) := fun V h hp => by have := mkeep_any h hp; rw [keep_same HW0, ← hz] at this; exact this
                have HR : Hid (∀ V, Cells V b (mc s) → Calls Try.prog 18 #[.pointer (some ⟨b, 0, none⟩), .int .i64 8] V (RetM b (mc s) (.int .i64 8) V)) := fun V h => by have := mrefer_any (e := 8) h; rw [MS.refE, if_pos rfl, refuse_same HW0] at this; exact this
                clear HW0 hz
                go_wp2_with fail
                refine (HK.out _ S5.out.b.t.1 (HP.out.below S5.out.h)).mono ?_
                intro e V6 h
                obtain ⟨rfl, hS⟩ := S5.out.ret [⟨g, [.int .i64 9, .int .i64 (fu + 1)]⟩] [⟨w.heap.size, [.int .i64 fu, .int .i64 li, .int .i64 te, .int .i64 pi]⟩] h
                have S6 : Hid (Sx w V6 [⟨g, [.int .i64 9, .int .i64 (fu + 1)]⟩, ⟨b, mc s⟩, ⟨w.heap.size, [.int .i64 fu, .int .i64 li, .int .i64 te, .int .i64 pi]⟩] []) := hS
                clear hS h S5
                obtain ⟨n0, n1⟩ := S6.out.b.1.c2
                go_upto_region 30 with (fail)
                clear n0 n1
                refine wp_region_held_drew (S := fun w' => (w'.cell? ⟨g, 0, none⟩ = some (.int .i64 9) ∧ w'.cell? ⟨g, 1, none⟩ = some (.int .i64 (fu + 1))) ∧ (w'.cell? ⟨w.heap.size, 0, none⟩ = some (.int .i64 fu) ∧ w'.cell? ⟨w.heap.size, 1, none⟩ = some (.int .i64 li) ∧ w'.cell? ⟨w.heap.size, 2, none⟩ = some (.int .i64 te) ∧ w'.cell? ⟨w.heap.size, 3, none⟩ = some (.int .i64 pi))) (by kernel_rfl) ⟨S6.out.b.1.c2, S6.out.b.t.t.1.c4⟩ (fun hH => ?_)
                refine anyH_world (fun V7 hW => ?_)
                have S7 : Hid (Sx w V7 [⟨g, [.int .i64 9, .int .i64 (fu + 1)]⟩, ⟨b, mc s⟩, ⟨w.heap.size, [.int .i64 fu, .int .i64 li, .int .i64 te, .int .i64 pi]⟩] []) := by rw [hW]; exact S6.out.drew
                rw [← hW] at hH
                clear hW S6
                refine son 0 hH ?_
                try simp only [nrm]
                refine son 2 hH ?_
                try simp only [nrm]
                refine step_one 1 rfl (by kernel_rfl) (fun KK hK => ?_)
                go_simp
                refine (HN.out _ S7.out.b.t.1).mono ?_
                rintro e V8 ⟨rfl, hB⟩
                have S8 : Hid (Sx w V8 [⟨g, [.int .i64 9, .int .i64 (fu + 1)]⟩, ⟨b, mc s⟩, ⟨w.heap.size, [.int .i64 fu, .int .i64 li, .int .i64 te, .int .i64 pi]⟩] []) := S7.out.step hB
                clear hB S7
                go_wp2_with fail
                refine hK.out _ _ ⟨S8.out.b.1.c2, S8.out.b.t.t.1.c4⟩ (fun h2 => ?_)
                clear hK KK hH
                have hH := h2
                clear h2
                try simp only [nrm]
                refine son 3 hH ?_
                try simp only [nrm]
                refine son 4 hH ?_
                try simp only [nrm]
                refine son 5 hH ?_
                try simp only [nrm]
                refine step_one 6 rfl (by kernel_rfl) (fun KK hK => ?_)
                go_simp
                refine (HR.out _ S8.out.b.t.1).mono ?_
                intro e V9 h
                obtain ⟨rfl, hS⟩ := S8.out.ret [⟨g, [.int .i64 9, .int .i64 (fu + 1)]⟩] [⟨w.heap.size, [.int .i64 fu, .int .i64 li, .int .i64 te, .int .i64 pi]⟩] h
                have S9 : Hid (Sx w V9 [⟨g, [.int .i64 9, .int .i64 (fu + 1)]⟩, ⟨b, mc s⟩, ⟨w.heap.size, [.int .i64 fu, .int .i64 li, .int .i64 te, .int .i64 pi]⟩] []) := hS
                clear hS h S8
                go_wp2_with fail
                refine hK.out _ _ ⟨S9.out.b.1.c2, S9.out.b.t.t.1.c4⟩ (fun h2 => ?_)
                clear hK KK hH
                have hH := h2
                clear h2
                try simp only [nrm]
                refine son 7 hH ?_
                try simp only [nrm]
                refine son 8 hH ?_
                try simp only [nrm]
                refine son 9 hH ?_
                try simp only [nrm]
                refine son 10 hH ?_
                try simp only [nrm]
                refine son 12 hH ?_
                try simp only [nrm]
                refine step_one 11 rfl (by kernel_rfl) (fun KK hK => ?_)
                go_simp
                refine (HN.out _ S9.out.b.t.1).mono ?_
                rintro e V10 ⟨rfl, hB⟩
                have S10 : Hid (Sx w V10 [⟨g, [.int .i64 9, .int .i64 (fu + 1)]⟩, ⟨b, mc s⟩, ⟨w.heap.size, [.int .i64 fu, .int .i64 li, .int .i64 te, .int .i64 pi]⟩] []) := S9.out.step hB
                clear hB S9
                go_wp2_with fail
                refine hK.out _ _ ⟨S10.out.b.1.c2, S10.out.b.t.t.1.c4⟩ (fun h2 => ?_)
                clear hK KK hH
                have hH := h2
                clear h2
                try simp only [nrm]
                refine son 13 hH ?_
                try simp only [nrm]
                refine son 14 hH ?_
                try simp only [nrm]
                refine son 15 hH ?_
                try simp only [nrm]
                refine son 16 hH ?_
                try simp only [nrm]
                refine son 18 hH ?_
                try simp only [nrm]
                refine step_one 17 rfl (by kernel_rfl) (fun KK hK => ?_)
                go_simp
                refine (HL4.out _ S10.out.b.t.1).mono ?_
                rintro e V11 ⟨rfl, hB⟩
                have S11 : Hid (Sx w V11 [⟨g, [.int .i64 9, .int .i64 (fu + 1)]⟩, ⟨b, mc s⟩, ⟨w.heap.size, [.int .i64 fu, .int .i64 li, .int .i64 te, .int .i64 pi]⟩] []) := S10.out.step hB
                clear hB S10
                go_wp2_with fail
                refine hK.out _ _ ⟨S11.out.b.1.c2, S11.out.b.t.t.1.c4⟩ (fun h2 => ?_)
                clear hK KK hH
                have hH := h2
                clear h2
                try simp only [nrm]
                refine son 19 hH ?_
                try simp only [nrm]
                refine son 20 hH ?_
                try simp only [nrm]
                refine son 21 hH ?_
                try simp only [nrm]
                refine step_one 22 rfl (by kernel_rfl) (fun KK hK => ?_)
                go_simp
                refine (mknown_any _).mono ?_
                rintro e V12 ⟨rfl, hB⟩
                have S12 : Hid (Sx w V12 [⟨g, [.int .i64 9, .int .i64 (fu + 1)]⟩, ⟨b, mc s⟩, ⟨w.heap.size, [.int .i64 fu, .int .i64 li, .int .i64 te, .int .i64 pi]⟩] []) := S11.out.step hB
                clear hB S11
                go_wp2_with fail
                refine hK.out _ _ ⟨S12.out.b.1.c2, S12.out.b.t.t.1.c4⟩ (fun h2 => ?_)
                clear hK KK hH
                have hH := h2
                clear h2
                try simp only [nrm]
                refine son 23 hH ?_
                try simp only [nrm]
                refine son 24 hH ?_
                try simp only [nrm]
                refine wpAnyH_done (by kernel_rfl) ?_ _
                clear hH
                go_wp2_with fail
                go_ret
                exact ⟨rfl, S12.out.h⟩
              have hd9 : decide (fu < (k : Int)) = false := decide_eq_false hA
              by_cases hB : pi < (j : Int)
              · have hd8 : decide (pi < (j : Int)) = true := decide_eq_true hB
                have HW : Hid (s.wh = 12 ∧ s.n = pi + 1) := by rw [hs]; unfold cP; exact ⟨by simp only; rw [if_neg hA, if_pos hB], by simp only; rw [if_neg hA, if_pos hB]⟩
                go_upto_region 23 with (fail)
                refine wp_world (fun V3 hV => ?_)
                have S3 : Hid (Sx w V3 [⟨g, [.int .i64 12, .int .i64 (pi + 1)]⟩, ⟨b, mc s⟩, ⟨w.heap.size, [.int .i64 fu, .int .i64 li, .int .i64 te, .int .i64 pi]⟩] []) := by rw [hV]; exact (S2.out.set [] [⟨b, mc s⟩, ⟨w.heap.size, [.int .i64 fu, .int .i64 li, .int .i64 te, .int .i64 pi]⟩] 0 (.int .i64 12)).set [] [⟨b, mc s⟩, ⟨w.heap.size, [.int .i64 fu, .int .i64 li, .int .i64 te, .int .i64 pi]⟩] 1 (.int .i64 (pi + 1))
                clear hV S2
                clear x0 x1 x2 x3 n0 n1 f0 f1
                have HN : Hid (∀ V, Cells V b (mc s) → Calls Try.prog 22 #[.pointer (some ⟨b, 0, none⟩)] V (RetB (.agg #[.int .i64 12, .int .i64 (pi + 1)]) V)) := fun V h => by have := mneed_any h; rw [HW.out.1, HW.out.2] at this; exact this
                refine wp_region_held_drew (S := fun w' => w'.cell? ⟨g, 0, none⟩ = some (.int .i64 12) ∧ w'.cell? ⟨g, 1, none⟩ = some (.int .i64 (pi + 1))) (by kernel_rfl) S3.out.b.1.c2 (fun hH => ?_)
                refine anyH_world (fun V4 hW => ?_)
                have S4 : Hid (Sx w V4 [⟨g, [.int .i64 12, .int .i64 (pi + 1)]⟩, ⟨b, mc s⟩, ⟨w.heap.size, [.int .i64 fu, .int .i64 li, .int .i64 te, .int .i64 pi]⟩] []) := by rw [hW]; exact S3.out.drew
                rw [← hW] at hH
                clear hW S3
                refine son 0 hH ?_
                try simp only [nrm]
                refine son 2 hH ?_
                try simp only [nrm]
                refine step_one 1 rfl (by kernel_rfl) (fun KK hK => ?_)
                go_simp
                refine (HN.out _ S4.out.b.t.1).mono ?_
                rintro e V5 ⟨rfl, hB⟩
                have S5 : Hid (Sx w V5 [⟨g, [.int .i64 12, .int .i64 (pi + 1)]⟩, ⟨b, mc s⟩, ⟨w.heap.size, [.int .i64 fu, .int .i64 li, .int .i64 te, .int .i64 pi]⟩] []) := S4.out.step hB
                clear hB S4
                go_wp2_with fail
                refine hK.out _ _ S5.out.b.1.c2 (fun h2 => ?_)
                clear hK KK hH
                have hH := h2
                clear h2
                try simp only [nrm]
                refine son 3 hH ?_
                try simp only [nrm]
                refine wpAnyH_done (by kernel_rfl) ?_ _
                clear hH
                obtain ⟨z, hz⟩ : ∃ z, z = s.keepE ps := ⟨_, rfl⟩
                have HW0 : s.wh ≠ 0 := by rw [HW.out.1]; decide
                have HK : Hid (∀ V, Cells V b (mc s) → Lp V ao n cap ps → Calls Try.prog 16 #[.pointer (some ⟨b, 0, none⟩), .slice ao n cap] V (RetM b (mc s) (.int .i64 z) V)) := fun V h hp => by have := mkeep_any h hp; rw [keep_same HW0, ← hz] at this; exact this
                have HR : Hid (∀ V, Cells V b (mc s) → Calls Try.prog 18 #[.pointer (some ⟨b, 0, none⟩), .int .i64 8] V (RetM b (mc s) (.int .i64 8) V)) := fun V h => by have := mrefer_any (e := 8) h; rw [MS.refE, if_pos rfl, refuse_same HW0] at this; exact this
                clear HW0 hz
                go_wp2_with fail
                refine (HK.out _ S5.out.b.t.1 (HP.out.below S5.out.h)).mono ?_
                intro e V6 h
                obtain ⟨rfl, hS⟩ := S5.out.ret [⟨g, [.int .i64 12, .int .i64 (pi + 1)]⟩] [⟨w.heap.size, [.int .i64 fu, .int .i64 li, .int .i64 te, .int .i64 pi]⟩] h
                have S6 : Hid (Sx w V6 [⟨g, [.int .i64 12, .int .i64 (pi + 1)]⟩, ⟨b, mc s⟩, ⟨w.heap.size, [.int .i64 fu, .int .i64 li, .int .i64 te, .int .i64 pi]⟩] []) := hS
                clear hS h S5
                obtain ⟨n0, n1⟩ := S6.out.b.1.c2
                go_upto_region 30 with (fail)
                clear n0 n1
                refine wp_region_held_drew (S := fun w' => (w'.cell? ⟨g, 0, none⟩ = some (.int .i64 12) ∧ w'.cell? ⟨g, 1, none⟩ = some (.int .i64 (pi + 1))) ∧ (w'.cell? ⟨w.heap.size, 0, none⟩ = some (.int .i64 fu) ∧ w'.cell? ⟨w.heap.size, 1, none⟩ = some (.int .i64 li) ∧ w'.cell? ⟨w.heap.size, 2, none⟩ = some (.int .i64 te) ∧ w'.cell? ⟨w.heap.size, 3, none⟩ = some (.int .i64 pi))) (by kernel_rfl) ⟨S6.out.b.1.c2, S6.out.b.t.t.1.c4⟩ (fun hH => ?_)
                refine anyH_world (fun V7 hW => ?_)
                have S7 : Hid (Sx w V7 [⟨g, [.int .i64 12, .int .i64 (pi + 1)]⟩, ⟨b, mc s⟩, ⟨w.heap.size, [.int .i64 fu, .int .i64 li, .int .i64 te, .int .i64 pi]⟩] []) := by rw [hW]; exact S6.out.drew
                rw [← hW] at hH
                clear hW S6
                refine son 0 hH ?_
                try simp only [nrm]
                refine son 2 hH ?_
                try simp only [nrm]
                refine step_one 1 rfl (by kernel_rfl) (fun KK hK => ?_)
                go_simp
                refine (HN.out _ S7.out.b.t.1).mono ?_
                rintro e V8 ⟨rfl, hB⟩
                have S8 : Hid (Sx w V8 [⟨g, [.int .i64 12, .int .i64 (pi + 1)]⟩, ⟨b, mc s⟩, ⟨w.heap.size, [.int .i64 fu, .int .i64 li, .int .i64 te, .int .i64 pi]⟩] []) := S7.out.step hB
                clear hB S7
                go_wp2_with fail
                refine hK.out _ _ ⟨S8.out.b.1.c2, S8.out.b.t.t.1.c4⟩ (fun h2 => ?_)
                clear hK KK hH
                have hH := h2
                clear h2
                try simp only [nrm]
                refine son 3 hH ?_
                try simp only [nrm]
                refine son 4 hH ?_
                try simp only [nrm]
                refine son 5 hH ?_
                try simp only [nrm]
                refine step_one 6 rfl (by kernel_rfl) (fun KK hK => ?_)
                go_simp
                refine (HR.out _ S8.out.b.t.1).mono ?_
                intro e V9 h
                obtain ⟨rfl, hS⟩ := S8.out.ret [⟨g, [.int .i64 12, .int .i64 (pi + 1)]⟩] [⟨w.heap.size, [.int .i64 fu, .int .i64 li, .int .i64 te, .int .i64 pi]⟩] h
                have S9 : Hid (Sx w V9 [⟨g, [.int .i64 12, .int .i64 (pi + 1)]⟩, ⟨b, mc s⟩, ⟨w.heap.size, [.int .i64 fu, .int .i64 li, .int .i64 te, .int .i64 pi]⟩] []) := hS
                clear hS h S8
                go_wp2_with fail
                refine hK.out _ _ ⟨S9.out.b.1.c2, S9.out.b.t.t.1.c4⟩ (fun h2 => ?_)
                clear hK KK hH
                have hH := h2
                clear h2
                try simp only [nrm]
                refine son 7 hH ?_
                try simp only [nrm]
                refine son 8 hH ?_
                try simp only [nrm]
                refine son 9 hH ?_
                try simp only [nrm]
                refine son 10 hH ?_
                try simp only [nrm]
                refine son 12 hH ?_
                try simp only [nrm]
                refine step_one 11 rfl (by kernel_rfl) (fun KK hK => ?_)
                go_simp
                refine (HN.out _ S9.out.b.t.1).mono ?_
                rintro e V10 ⟨rfl, hB⟩
                have S10 : Hid (Sx w V10 [⟨g, [.int .i64 12, .int .i64 (pi + 1)]⟩, ⟨b, mc s⟩, ⟨w.heap.size, [.int .i64 fu, .int .i64 li, .int .i64 te, .int .i64 pi]⟩] []) := S9.out.step hB
                clear hB S9
                go_wp2_with fail
                refine hK.out _ _ ⟨S10.out.b.1.c2, S10.out.b.t.t.1.c4⟩ (fun h2 => ?_)
                clear hK KK hH
                have hH := h2
                clear h2
                try simp only [nrm]
                refine son 13 hH ?_
                try simp only [nrm]
                refine son 14 hH ?_
                try simp only [nrm]
                refine son 15 hH ?_
                try simp only [nrm]
                refine son 16 hH ?_
                try simp only [nrm]
                refine son 18 hH ?_
                try simp only [nrm]
                refine step_one 17 rfl (by kernel_rfl) (fun KK hK => ?_)
                go_simp
                refine (HL4.out _ S10.out.b.t.1).mono ?_
                rintro e V11 ⟨rfl, hB⟩
                have S11 : Hid (Sx w V11 [⟨g, [.int .i64 12, .int .i64 (pi + 1)]⟩, ⟨b, mc s⟩, ⟨w.heap.size, [.int .i64 fu, .int .i64 li, .int .i64 te, .int .i64 pi]⟩] []) := S10.out.step hB
                clear hB S10
                go_wp2_with fail
                refine hK.out _ _ ⟨S11.out.b.1.c2, S11.out.b.t.t.1.c4⟩ (fun h2 => ?_)
                clear hK KK hH
                have hH := h2
                clear h2
                try simp only [nrm]
                refine son 19 hH ?_
                try simp only [nrm]
                refine son 20 hH ?_
                try simp only [nrm]
                refine son 21 hH ?_
                try simp only [nrm]
                refine step_one 22 rfl (by kernel_rfl) (fun KK hK => ?_)
                go_simp
                refine (mknown_any _).mono ?_
                rintro e V12 ⟨rfl, hB⟩
                have S12 : Hid (Sx w V12 [⟨g, [.int .i64 12, .int .i64 (pi + 1)]⟩, ⟨b, mc s⟩, ⟨w.heap.size, [.int .i64 fu, .int .i64 li, .int .i64 te, .int .i64 pi]⟩] []) := S11.out.step hB
                clear hB S11
                go_wp2_with fail
                refine hK.out _ _ ⟨S12.out.b.1.c2, S12.out.b.t.t.1.c4⟩ (fun h2 => ?_)
                clear hK KK hH
                have hH := h2
                clear h2
                try simp only [nrm]
                refine son 23 hH ?_
                try simp only [nrm]
                refine son 24 hH ?_
                try simp only [nrm]
                refine wpAnyH_done (by kernel_rfl) ?_ _
                clear hH
                go_wp2_with fail
                go_ret
                exact ⟨rfl, S12.out.h⟩
              have hd8 : decide (pi < (j : Int)) = false := decide_eq_false hB
              have HW : Hid (s.wh = 0 ∧ s.n = 0) := by rw [hs]; unfold cP; exact ⟨by simp only; rw [if_neg hA, if_neg hB], by simp only; rw [if_neg hA, if_neg hB]⟩
              go_upto_region 23 with (fail)
              clear x0 x1 x2 x3 n0 n1 f0 f1
              have HN : Hid (∀ V, Cells V b (mc s) → Calls Try.prog 22 #[.pointer (some ⟨b, 0, none⟩)] V (RetB (.agg #[.int .i64 0, .int .i64 (0)]) V)) := fun V h => by have := mneed_any h; rw [HW.out.1, HW.out.2] at this; exact this
              refine wp_region_held_drew (S := fun w' => w'.cell? ⟨g, 0, none⟩ = some (.int .i64 0) ∧ w'.cell? ⟨g, 1, none⟩ = some (.int .i64 (0))) (by kernel_rfl) S2.out.b.1.c2 (fun hH => ?_)
              refine anyH_world (fun V3 hW => ?_)
              have S3 : Hid (Sx w V3 [⟨g, [.int .i64 0, .int .i64 0]⟩, ⟨b, mc s⟩, ⟨w.heap.size, [.int .i64 fu, .int .i64 li, .int .i64 te, .int .i64 pi]⟩] []) := by rw [hW]; exact S2.out.drew
              rw [← hW] at hH
              clear hW S2
              refine son 0 hH ?_
              try simp only [nrm]
              refine son 2 hH ?_
              try simp only [nrm]
              refine step_one 1 rfl (by kernel_rfl) (fun KK hK => ?_)
              go_simp
              refine (HN.out _ S3.out.b.t.1).mono ?_
              rintro e V4 ⟨rfl, hB⟩
              have S4 : Hid (Sx w V4 [⟨g, [.int .i64 0, .int .i64 0]⟩, ⟨b, mc s⟩, ⟨w.heap.size, [.int .i64 fu, .int .i64 li, .int .i64 te, .int .i64 pi]⟩] []) := S3.out.step hB
              clear hB S3
              go_wp2_with fail
              refine hK.out _ _ S4.out.b.1.c2 (fun h2 => ?_)
              clear hK KK hH
              have hH := h2
              clear h2
              try simp only [nrm]
              refine son 3 hH ?_
              try simp only [nrm]
              refine wpAnyH_done (by kernel_rfl) ?_ _
              clear hH
              obtain ⟨z, hz⟩ : ∃ z, z = s.keepE ps := ⟨_, rfl⟩
              have HK : Hid (∀ V, Cells V b (mc s) → Lp V ao n cap ps → Calls Try.prog 16 #[.pointer (some ⟨b, 0, none⟩), .slice ao n cap] V (RetM b (mc (s.keep ps)) (.int .i64 z) V)) := fun V h hp => by rw [hz]; exact mkeep_any h hp
              have hlt : 0 ≤ s.te ∧ 0 ≤ s.li := by rw [hs]; exact ⟨hli.out.2, hli.out.1⟩
              have HNZ : Hid (z ≠ 0 → (s.keep ps).wh = z ∧ 0 < (s.keep ps).n) := fun h => by rw [hz] at h ⊢; exact keep_need HW.out.1 hlt.1 hlt.2 ps h
              have HFZ : Hid (z = 0 → s.keep ps = s) := fun h => keep_free ps (hz ▸ h)
              clear hz hlt
              go_wp2_with fail
              refine (HK.out _ S4.out.b.t.1 (HP.out.below S4.out.h)).mono ?_
              intro e V5 h
              obtain ⟨rfl, hS⟩ := S4.out.ret [⟨g, [.int .i64 0, .int .i64 0]⟩] [⟨w.heap.size, [.int .i64 fu, .int .i64 li, .int .i64 te, .int .i64 pi]⟩] h
              have S5 : Hid (Sx w V5 [⟨g, [.int .i64 0, .int .i64 0]⟩, ⟨b, mc (s.keep ps)⟩, ⟨w.heap.size, [.int .i64 fu, .int .i64 li, .int .i64 te, .int .i64 pi]⟩] []) := hS
              clear hS h S4
              obtain ⟨n0, n1⟩ := S5.out.b.1.c2
              by_cases hz0 : z = 0
              · subst hz0
                have hsk := HFZ.out rfl
                rw [hsk] at S5
                have HR : Hid (∀ V, Cells V b (mc s) → Calls Try.prog 18 #[.pointer (some ⟨b, 0, none⟩), .int .i64 8] V (RetM b (mc (s.refuse 8 0)) (.int .i64 8) V)) := fun V h => by have := mrefer_any (e := 8) h; rw [MS.refE, if_pos rfl] at this; exact this
                have HN8 : Hid (∀ V, Cells V b (mc (s.refuse 8 0)) → Calls Try.prog 22 #[.pointer (some ⟨b, 0, none⟩)] V (RetB (.agg #[.int .i64 8, .int .i64 0]) V)) := fun V h => by have := mneed_any h; unfold MS.refuse at this; simp only [HW.out.1, if_true] at this; exact this
                clear hsk
                go_upto_region 27 with (fail)
                clear n0 n1
                refine wp_region_held_drew (S := fun w' => w'.cell? ⟨g, 0, none⟩ = some (.int .i64 0) ∧ w'.cell? ⟨g, 1, none⟩ = some (.int .i64 0)) (by kernel_rfl) S5.out.b.1.c2 (fun hH => ?_)
                refine anyH_world (fun V6 hW => ?_)
                have S6 : Hid (Sx w V6 [⟨g, [.int .i64 0, .int .i64 0]⟩, ⟨b, mc s⟩, ⟨w.heap.size, [.int .i64 fu, .int .i64 li, .int .i64 te, .int .i64 pi]⟩] []) := by rw [hW]; exact S5.out.drew
                rw [← hW] at hH
                clear hW S5
                refine son 0 hH ?_
                try simp only [nrm]
                refine son 2 hH ?_
                try simp only [nrm]
                refine step_one 1 rfl (by kernel_rfl) (fun KK hK => ?_)
                go_simp
                refine (HN.out _ S6.out.b.t.1).mono ?_
                rintro e V7 ⟨rfl, hB⟩
                have S7 : Hid (Sx w V7 [⟨g, [.int .i64 0, .int .i64 0]⟩, ⟨b, mc s⟩, ⟨w.heap.size, [.int .i64 fu, .int .i64 li, .int .i64 te, .int .i64 pi]⟩] []) := S6.out.step hB
                clear hB S6
                go_wp2_with fail
                refine hK.out _ _ S7.out.b.1.c2 (fun h2 => ?_)
                clear hK KK hH
                have hH := h2
                clear h2
                try simp only [nrm]
                refine son 3 hH ?_
                try simp only [nrm]
                refine son 4 hH ?_
                try simp only [nrm]
                refine son 5 hH ?_
                try simp only [nrm]
                refine step_one 6 rfl (by kernel_rfl) (fun KK hK => ?_)
                go_simp
                refine (HR.out _ S7.out.b.t.1).mono ?_
                intro e V8 h
                obtain ⟨rfl, hS⟩ := S7.out.ret [⟨g, [.int .i64 0, .int .i64 0]⟩] [⟨w.heap.size, [.int .i64 fu, .int .i64 li, .int .i64 te, .int .i64 pi]⟩] h
                have S8 : Hid (Sx w V8 [⟨g, [.int .i64 0, .int .i64 0]⟩, ⟨b, mc (s.refuse 8 0)⟩, ⟨w.heap.size, [.int .i64 fu, .int .i64 li, .int .i64 te, .int .i64 pi]⟩] []) := hS
                clear hS h S7
                go_wp2_with fail
                refine hK.out _ _ S8.out.b.1.c2 (fun h2 => ?_)
                clear hK KK hH
                have hH := h2
                clear h2
                try simp only [nrm]
                refine son 7 hH ?_
                try simp only [nrm]
                refine son 8 hH ?_
                try simp only [nrm]
                refine son 9 hH ?_
                try simp only [nrm]
                refine son 10 hH ?_
                try simp only [nrm]
                refine son 12 hH ?_
                try simp only [nrm]
                refine step_one 11 rfl (by kernel_rfl) (fun KK hK => ?_)
                go_simp
                refine (HN8.out _ S8.out.b.t.1).mono ?_
                rintro e V9 ⟨rfl, hB⟩
                have S9 : Hid (Sx w V9 [⟨g, [.int .i64 0, .int .i64 0]⟩, ⟨b, mc (s.refuse 8 0)⟩, ⟨w.heap.size, [.int .i64 fu, .int .i64 li, .int .i64 te, .int .i64 pi]⟩] []) := S8.out.step hB
                clear hB S8
                go_wp2_with fail
                refine hK.out _ _ S9.out.b.1.c2 (fun h2 => ?_)
                clear hK KK hH
                have hH := h2
                clear h2
                try simp only [nrm]
                refine son 13 hH ?_
                try simp only [nrm]
                refine son 14 hH ?_
                try simp only [nrm]
                refine son 15 hH ?_
                try simp only [nrm]
                refine step_one 16 rfl (by kernel_rfl) (fun KK hK => ?_)
                go_simp
                refine (mknown_any _).mono ?_
                rintro e V10 ⟨rfl, hB⟩
                have S10 : Hid (Sx w V10 [⟨g, [.int .i64 0, .int .i64 0]⟩, ⟨b, mc (s.refuse 8 0)⟩, ⟨w.heap.size, [.int .i64 fu, .int .i64 li, .int .i64 te, .int .i64 pi]⟩] []) := S9.out.step hB
                clear hB S9
                go_wp2_with fail
                refine hK.out _ _ S10.out.b.1.c2 (fun h2 => ?_)
                clear hK KK hH
                have hH := h2
                clear h2
                try simp only [nrm]
                refine son 17 hH ?_
                try simp only [nrm]
                refine son 18 hH ?_
                try simp only [nrm]
                refine wpAnyH_done (by kernel_rfl) ?_ _
                clear hH
                go_wp2_with fail
                go_ret
                exact ⟨rfl, S10.out.h⟩
              · have hzb : (z == 0) = false := by simpa using hz0
                obtain ⟨h1, h2⟩ := HNZ.out hz0
                obtain ⟨y, hy⟩ : ∃ y, y = (s.keep ps).n := ⟨_, rfl⟩
                rw [← hy] at h2
                have hdy : decide (0 < y) = true := decide_eq_true h2
                have HNK : Hid (∀ V, Cells V b (mc (s.keep ps)) → Calls Try.prog 22 #[.pointer (some ⟨b, 0, none⟩)] V (RetB (.agg #[.int .i64 z, .int .i64 y]) V)) := fun V h => by have := mneed_any h; rw [h1, ← hy] at this; exact this
                have hfl : ∀ (x y : Int) (W : World), (Instr.field 35 (.agg #[.int .i64 x, .int .i64 y]) 0).run Try.prog W = .ok (.int .i64 x) W := fun _ _ _ => by kernel_rfl
                have hfl2 : ∀ (x y : Int) (W : World), (Instr.field 35 (.agg #[.int .i64 x, .int .i64 y]) 1).run Try.prog W = .ok (.int .i64 y) W := fun _ _ _ => by kernel_rfl
                clear h1 hy hz0
                go_wp2_with fail
                refine (HNK.out _ S5.out.b.t.1).mono ?_
                rintro e V6 ⟨rfl, hB⟩
                have S6 : Hid (Sx w V6 [⟨g, [.int .i64 0, .int .i64 0]⟩, ⟨b, mc (s.keep ps)⟩, ⟨w.heap.size, [.int .i64 fu, .int .i64 li, .int .i64 te, .int .i64 pi]⟩] []) := S5.out.step hB
                clear hB S5
                go_wp2_with fail
                refine (HNK.out _ S6.out.b.t.1).mono ?_
                rintro e V7 ⟨rfl, hB⟩
                have S7 : Hid (Sx w V7 [⟨g, [.int .i64 0, .int .i64 0]⟩, ⟨b, mc (s.keep ps)⟩, ⟨w.heap.size, [.int .i64 fu, .int .i64 li, .int .i64 te, .int .i64 pi]⟩] []) := S6.out.step hB
                clear hB S6
                go_wp2_with fail
                refine (mknown_any _).mono ?_
                rintro e V8 ⟨rfl, hB⟩
                have S8 : Hid (Sx w V8 [⟨g, [.int .i64 0, .int .i64 0]⟩, ⟨b, mc (s.keep ps)⟩, ⟨w.heap.size, [.int .i64 fu, .int .i64 li, .int .i64 te, .int .i64 pi]⟩] []) := S7.out.step hB
                clear hB S7
                go_wp2_with fail
                go_ret
                exact ⟨rfl, S8.out.h⟩
end Go.Proofs.Ythllkgjgakeinaa
/-
  MeterPlays: calls of a meter, one by one, beside the reference's.
-/
import Derived.Test.YthllkgjgakeinaaMtSt
import Derived.BigQuiet
set_option maxRecDepth 8192
namespace Go.Proofs.Ythllkgjgakeinaa
open Go.RowKit
theorem rc_new (fu li te pi : Int) : rc (MS.new fu li te pi) = [.int .i64 fu, .int .i64 li, .int .i64 te, .int .i64 pi, .int .i64 0, .int .i64 0, .int .i64 0, .int .i64 0] := rfl
set_option maxHeartbeats 16000000 in
set_option maxRecDepth 100000 in
theorem meterPlays_any {fu li te pi : Int} {ao : Option Addr} {n cap : Nat} {l : List MOp} {w : World} (h : Lo w ao n cap l) : Calls Try.prog 3 #[.agg #[.int .i64 fu, .int .i64 li, .int .i64 te, .int .i64 pi], .slice ao n cap] w (RetB (.bool true) w) := by
  have HP := Lib.hid h
  have hbig := h.big
  clear h
  go_enter Try.func3, Try.ntmps3
  go_upto_region 1 with (fail)
  refine wp_world (fun V1 hV => ?_)
  have S1 : Hid (Sx w V1 [⟨w.heap.size, [.int .i64 fu, .int .i64 li, .int .i64 te, .int .i64 pi]⟩] []) := by
    rw [hV]
    exact Sx.var (Sx.start (N := []) trivial) w.heap.size _ 23 rfl
  clear hV
  go_wp2_with fail
  refine (mgreat_any (HP.out.below S1.out.h)).mono ?_
  rintro e V10 ⟨r, rfl, rfl⟩
  cases r with
  | true =>
    go_wp2_with fail
    refine (mknown_any _).mono ?_
    rintro e V2 ⟨rfl, hB⟩
    have S2 : Hid (Sx w V2 [⟨w.heap.size, [.int .i64 fu, .int .i64 li, .int .i64 te, .int .i64 pi]⟩] []) := S1.out.step hB
    clear hB S1
    go_wp2_with fail
    go_ret
    exact ⟨rfl, S2.out.h⟩
  | false =>
    obtain ⟨⟨x0, x1, x2, x3⟩, _⟩ := And.intro S1.out.b.1.c4 trivial
    obtain ⟨rm, hrm⟩ : ∃ r, mayL fu li te pi = r := ⟨_, rfl⟩
    have HM : Hid (∀ V, Calls Try.prog 10 #[.agg #[.int .i64 fu, .int .i64 li, .int .i64 te, .int .i64 pi]] V (RetB (.bool rm) V)) := fun V => rmay_any rm hrm
    cases rm with
    | false =>
      go_wp2_with fail
      refine (mnew_no hrm).mono ?_
      rintro e V2 ⟨rfl, hB⟩
      have S2 : Hid (Sx w V2 [⟨w.heap.size, [.int .i64 fu, .int .i64 li, .int .i64 te, .int .i64 pi]⟩] []) := S1.out.step hB
      clear hB S1
      obtain ⟨x0, x1, x2, x3⟩ := S2.out.b.1.c4
      go_wp2_with fail
      refine (HM.out _).mono ?_
      rintro e V3 ⟨rfl, hB⟩
      have S3 : Hid (Sx w V3 [⟨w.heap.size, [.int .i64 fu, .int .i64 li, .int .i64 te, .int .i64 pi]⟩] []) := S2.out.step hB
      clear hB S2
      go_wp2_with fail
      refine (mknown_any _).mono ?_
      rintro e V4 ⟨rfl, hB⟩
      have S4 : Hid (Sx w V4 [⟨w.heap.size, [.int .i64 fu, .int .i64 li, .int .i64 te, .int .i64 pi]⟩] []) := S3.out.step hB
      clear hB S3
      go_wp2_with fail
      go_ret
      exact ⟨rfl, S4.out.h⟩
    | true =>
      go_wp2_with fail
      refine (mnew_yes hrm).mono ?_
      rintro e V2 ⟨b, rfl, hC, hb, hB⟩
      have S2 : Hid (Sx w V2 [⟨b, mc (MS.new fu li te pi)⟩, ⟨w.heap.size, [.int .i64 fu, .int .i64 li, .int .i64 te, .int .i64 pi]⟩] []) := S1.out.made hC hb hB
      have HK : Hid ((MS.new fu li te pi).Ok) := mayL_ok hrm
      have HLM : Hid (∀ V, Cells V b (mc (MS.new fu li te pi)) → Calls Try.prog 11 #[.pointer (some ⟨b, 0, none⟩)] V (RetB (.agg #[.int .i64 fu, .int .i64 li, .int .i64 te, .int .i64 pi]) V)) := fun V h => mlimits_any h
      clear hC hb hB S1 x0 x1 x2 x3
      obtain ⟨x0, x1, x2, x3⟩ := S2.out.b.t.1.c4
      go_wp2_with fail
      refine (HM.out _).mono ?_
      rintro e V3 ⟨rfl, hB⟩
      have S3 : Hid (Sx w V3 [⟨b, mc (MS.new fu li te pi)⟩, ⟨w.heap.size, [.int .i64 fu, .int .i64 li, .int .i64 te, .int .i64 pi]⟩] []) := S2.out.step hB
      clear hB S2
      clear x0 x1 x2 x3
      go_upto_region 6 with (fail)
      refine wp_region_held_drew (S := fun w' => w'.cell? ⟨w.heap.size, 0, none⟩ = some (.int .i64 fu) ∧ w'.cell? ⟨w.heap.size, 1, none⟩ = some (.int .i64 li) ∧ w'.cell? ⟨w.heap.size, 2, none⟩ = some (.int .i64 te) ∧ w'.cell? ⟨w.heap.size, 3, none⟩ = some (.int .i64 pi)) (by kernel_rfl) S3.out.b.t.1.c4 (fun hH => ?_)
      refine anyH_world (fun V4 hW => ?_)
      have S4 : Hid (Sx w V4 [⟨b, mc (MS.new fu li te pi)⟩, ⟨w.heap.size, [.int .i64 fu, .int .i64 li, .int .i64 te, .int .i64 pi]⟩] []) := by rw [hW]; exact S3.out.drew
      rw [← hW] at hH
      clear hW S3
      refine son 0 hH ?_
      try simp only [nrm]
      refine son 1 hH ?_
      try simp only [nrm]
      refine son 2 hH ?_
      try simp only [nrm]
      refine son 3 hH ?_
      try simp only [nrm]
      refine son 4 hH ?_
      try simp only [nrm]
      refine son 5 hH ?_
      try simp only [nrm]
      refine son 6 hH ?_
      try simp only [nrm]
      refine son 7 hH ?_
      try simp only [nrm]
      refine son 9 hH ?_
      try simp only [nrm]
      refine step_one 8 rfl (by kernel_rfl) (fun KK hK => ?_)
      go_simp
      refine (HLM.out _ S4.out.b.1).mono ?_
      rintro e V5 ⟨rfl, hB⟩
      have S5 : Hid (Sx w V5 [⟨b, mc (MS.new fu li te pi)⟩, ⟨w.heap.size, [.int .i64 fu, .int .i64 li, .int .i64 te, .int .i64 pi]⟩] []) := S4.out.step hB
      clear hB S4
      go_wp2_with fail
      refine hK.out _ _ S5.out.b.t.1.c4 (fun h2 => ?_)
      clear hK KK hH
      have hH := h2
      clear h2
      try simp only [nrm]
      refine son 10 hH ?_
      try simp only [nrm]
      refine son 11 hH ?_
      try simp only [nrm]
      refine wpAnyH_done (by kernel_rfl) ?_ _
      clear hH
      have hx := S5.out.b.t.1.c4
      obtain ⟨x0, x1, x2, x3⟩ := hx
      go_upto_region 9 with (fail)
      refine wp_world (fun V6 hV => ?_)
      obtain ⟨c, hc⟩ : ∃ c, c = V5.heap.size := ⟨_, rfl⟩
      have S6 : Hid (Sx w V6 [⟨c, rc (MS.new fu li te pi)⟩, ⟨b, mc (MS.new fu li te pi)⟩, ⟨w.heap.size, [.int .i64 fu, .int .i64 li, .int .i64 te, .int .i64 pi]⟩] []) := by
        rw [hV]
        exact S5.out.var c _ 37 hc
      rw [← hc]
      clear hV hc x0 x1 x2 x3 S5
      go_wp2_with fail
      go_loopw [49] (fun i wr => ∃ (k : Nat) (s : MS), i = .int .i64 k ∧ k ≤ n ∧ Hid (Sx w wr [⟨c, rc s⟩, ⟨b, mc s⟩, ⟨w.heap.size, [.int .i64 fu, .int .i64 li, .int .i64 te, .int .i64 pi]⟩] [] ∧ s.Ok)) (fun i _ => n - (intOf i).toNat)
      case atStart => exact ⟨0, _, rfl, Nat.zero_le _, S6.out, HK.out⟩
      case round =>
        clear S6 HK
        obtain ⟨k, s, rfl, hk, HR⟩ := hrel
        have S1 : Hid (Sx w wr [⟨c, rc s⟩, ⟨b, mc s⟩, ⟨w.heap.size, [.int .i64 fu, .int .i64 li, .int .i64 te, .int .i64 pi]⟩] []) := HR.out.1
        have HK : Hid s.Ok := HR.out.2
        clear HR
        by_cases hkn : k < n
        · have hki : (k : Int) < (n : Int) := by omega
          obtain ⟨lb, lo, po, pn, pc, rfl, _, hp, hcl⟩ := HP.out.at hkn
          obtain ⟨a0, a1, a2⟩ := hcl wr S1.out.h
          obtain ⟨kd, hkd⟩ : ∃ kd, kd = (l.getD k opZ).1 := ⟨_, rfl⟩
          obtain ⟨ps, hps⟩ : ∃ ps, ps = (l.getD k opZ).2.1 := ⟨_, rfl⟩
          obtain ⟨er, her⟩ : ∃ er, er = (l.getD k opZ).2.2 := ⟨_, rfl⟩
          rw [← hkd] at a0
          rw [← her] at a2
          rw [← hps] at hp
          have HLP := Lib.hid hp
          clear hcl hkd hps her hp
          go_upto_region 12 with (fail)
          refine wp_world (fun V2 hV => ?_)
          obtain ⟨g, hg⟩ : ∃ g, g = wr.heap.size := ⟨_, rfl⟩
          have S2 : Hid (Sx w V2 [⟨g, [.int .i64 kd, .slice po pn pc, .int .i64 er]⟩, ⟨c, rc s⟩, ⟨b, mc s⟩, ⟨w.heap.size, [.int .i64 fu, .int .i64 li, .int .i64 te, .int .i64 pi]⟩] []) := by
            rw [hV]
            exact S1.out.var g _ 41 hg
          rw [← hg]
          clear hV hg a0 a1 a2 S1
          obtain ⟨o0, o1, o2⟩ := S2.out.b.1.c3
          go_upto_region 14 with (fail)
          clear o0 o1 o2
          by_cases hk1 : kd = 1
          · subst hk1
            obtain ⟨z, hz⟩ : ∃ z, z = s.stepE := ⟨_, rfl⟩
            have HA : Hid (∀ V, Cells V b (mc s) → Calls Try.prog 12 #[.pointer (some ⟨b, 0, none⟩)] V (RetM b (mc (s.step)) (.int .i64 z) V)) := fun V h => by rw [hz]; exact mstep_any h HK.out
            have HB : Hid (∀ V, Cells V c (rc s) → Calls Try.prog 13 #[.pointer (some ⟨c, 0, none⟩)] V (RetM c (rc (s.step)) (.int .i64 z) V)) := fun V h => by rw [hz]; exact rstep_any h HK.out
            clear hz
            go_wp2_with fail
            refine (HA.out _ S2.out.b.t.t.1).mono ?_
            intro e V3 h
            obtain ⟨rfl, hS⟩ := S2.out.ret [⟨g, [.int .i64 1, .slice po pn pc, .int .i64 er]⟩, ⟨c, rc s⟩] [⟨w.heap.size, [.int .i64 fu, .int .i64 li, .int .i64 te, .int .i64 pi]⟩] h
            have S3 : Hid (Sx w V3 [⟨g, [.int .i64 1, .slice po pn pc, .int .i64 er]⟩, ⟨c, rc s⟩, ⟨b, mc (s.step)⟩, ⟨w.heap.size, [.int .i64 fu, .int .i64 li, .int .i64 te, .int .i64 pi]⟩] []) := hS
            clear hS h S2
            go_wp2_with fail
            refine (HB.out _ S3.out.b.t.1).mono ?_
            intro e V4 h
            obtain ⟨rfl, hS⟩ := S3.out.ret [⟨g, [.int .i64 1, .slice po pn pc, .int .i64 er]⟩] [⟨b, mc (s.step)⟩, ⟨w.heap.size, [.int .i64 fu, .int .i64 li, .int .i64 te, .int .i64 pi]⟩] h
            have S4 : Hid (Sx w V4 [⟨g, [.int .i64 1, .slice po pn pc, .int .i64 er]⟩, ⟨c, rc (s.step)⟩, ⟨b, mc (s.step)⟩, ⟨w.heap.size, [.int .i64 fu, .int .i64 li, .int .i64 te, .int .i64 pi]⟩] []) := hS
            clear hS h S3
            go_upto_region 22 with (fail)
            obtain ⟨z0, hz0⟩ : ∃ z, z = (s.step).st := ⟨_, rfl⟩
            obtain ⟨z1, hz1⟩ : ∃ z, z = (s.step).pc := ⟨_, rfl⟩
            obtain ⟨z2, hz2⟩ : ∃ z, z = (s.step).wh := ⟨_, rfl⟩
            obtain ⟨z3, hz3⟩ : ∃ z, z = (s.step).n := ⟨_, rfl⟩
            have HF : Hid (∀ V, Cells V b (mc (s.step)) → Calls Try.prog 20 #[.pointer (some ⟨b, 0, none⟩)] V fun e V' => e = .returned (.int .i64 z0) ∧ V = V') := fun V h => by rw [hz0]; exact mfuel_any h
            have HG : Hid (∀ V, Cells V b (mc (s.step)) → Calls Try.prog 21 #[.pointer (some ⟨b, 0, none⟩)] V fun e V' => e = .returned (.int .i64 z1) ∧ V = V') := fun V h => by rw [hz1]; exact mpieces_any h
            have HN : Hid (∀ V, Cells V b (mc (s.step)) → Calls Try.prog 22 #[.pointer (some ⟨b, 0, none⟩)] V (RetB (.agg #[.int .i64 z2, .int .i64 z3]) V)) := fun V h => by rw [hz2, hz3]; exact mneed_any h
            have HT : Hid (∀ w' : World, Cells w' c (rc (s.step)) → w'.cell? ⟨c, 4, none⟩ = some (.int .i64 z0) ∧ w'.cell? ⟨c, 5, none⟩ = some (.int .i64 z1) ∧ w'.cell? ⟨c, 6, none⟩ = some (.int .i64 z2) ∧ w'.cell? ⟨c, 7, none⟩ = some (.int .i64 z3)) := fun V h => by rw [hz0, hz1, hz2, hz3]; exact h.rt.2
            clear hz0 hz1 hz2 hz3
            refine wp_region_held_drew (S := fun w' => w'.cell? ⟨c, 4, none⟩ = some (.int .i64 z0) ∧ w'.cell? ⟨c, 5, none⟩ = some (.int .i64 z1) ∧ w'.cell? ⟨c, 6, none⟩ = some (.int .i64 z2) ∧ w'.cell? ⟨c, 7, none⟩ = some (.int .i64 z3)) (by kernel_rfl) (HT.out _ S4.out.b.t.1) (fun hH => ?_)
            refine anyH_world (fun V5 hW => ?_)
            have S5 : Hid (Sx w V5 [⟨g, [.int .i64 1, .slice po pn pc, .int .i64 er]⟩, ⟨c, rc (s.step)⟩, ⟨b, mc (s.step)⟩, ⟨w.heap.size, [.int .i64 fu, .int .i64 li, .int .i64 te, .int .i64 pi]⟩] []) := by rw [hW]; exact S4.out.drew
            rw [← hW] at hH
            clear hW S4
            refine son 0 hH ?_
            try simp only [nrm]
            refine son 1 hH ?_
            try simp only [nrm]
            refine son 2 hH ?_
            try simp only [nrm]
            refine son 3 hH ?_
            try simp only [nrm]
            refine son 4 hH ?_
            try simp only [nrm]
            refine son 6 hH ?_
            try simp only [nrm]
            refine son 7 hH ?_
            try simp only [nrm]
            refine son 8 hH ?_
            try simp only [nrm]
            refine son 9 hH ?_
            try simp only [nrm]
            refine step_one 5 rfl (by kernel_rfl) (fun KK hK => ?_)
            go_simp
            refine (HF.out _ S5.out.b.t.t.1).mono ?_
            rintro e V50 ⟨rfl, rfl⟩
            go_wp2_with fail
            refine hK.out _ _ (HT.out _ S5.out.b.t.1) (fun h2 => ?_)
            clear hK KK hH
            have hH := h2
            clear h2
            try simp only [nrm]
            refine son 10 hH ?_
            try simp only [nrm]
            refine son 11 hH ?_
            try simp only [nrm]
            refine son 12 hH ?_
            try simp only [nrm]
            refine son 13 hH ?_
            try simp only [nrm]
            refine son 15 hH ?_
            try simp only [nrm]
            refine son 16 hH ?_
            try simp only [nrm]
            refine son 17 hH ?_
            try simp only [nrm]
            refine son 18 hH ?_
            try simp only [nrm]
            refine step_one 14 rfl (by kernel_rfl) (fun KK hK => ?_)
            go_simp
            refine (HG.out _ S5.out.b.t.t.1).mono ?_
            rintro e V50 ⟨rfl, rfl⟩
            go_wp2_with fail
            refine hK.out _ _ (HT.out _ S5.out.b.t.1) (fun h2 => ?_)
            clear hK KK hH
            have hH := h2
            clear h2
            try simp only [nrm]
            refine son 19 hH ?_
            try simp only [nrm]
            refine son 20 hH ?_
            try simp only [nrm]
            refine son 21 hH ?_
            try simp only [nrm]
            refine son 22 hH ?_
            try simp only [nrm]
            refine son 24 hH ?_
            try simp only [nrm]
            refine son 25 hH ?_
            try simp only [nrm]
            refine son 26 hH ?_
            try simp only [nrm]
            refine son 27 hH ?_
            try simp only [nrm]
            refine step_one 23 rfl (by kernel_rfl) (fun KK hK => ?_)
            go_simp
            refine (HN.out _ S5.out.b.t.t.1).mono ?_
            rintro e V6 ⟨rfl, hB⟩
            have S6 : Hid (Sx w V6 [⟨g, [.int .i64 1, .slice po pn pc, .int .i64 er]⟩, ⟨c, rc (s.step)⟩, ⟨b, mc (s.step)⟩, ⟨w.heap.size, [.int .i64 fu, .int .i64 li, .int .i64 te, .int .i64 pi]⟩] []) := S5.out.step hB
            clear hB S5
            go_wp2_with fail
            refine hK.out _ _ (HT.out _ S6.out.b.t.1) (fun h2 => ?_)
            clear hK KK hH
            have hH := h2
            clear h2
            try simp only [nrm]
            refine son 28 hH ?_
            try simp only [nrm]
            refine son 29 hH ?_
            try simp only [nrm]
            refine wpAnyH_done (by kernel_rfl) ?_ _
            clear hH
            go_wp2_with fail
            go_roundw
            case rel => exact ⟨k + 1, _, by go_num, by omega, Sx.pop S6.out, HK.out.step⟩
            case measure => simp [intOf]; omega
          have hd1 : (kd == 1) = false := by simpa using hk1
          by_cases hk2 : kd = 2
          · subst hk2
            obtain ⟨z, hz⟩ : ∃ z, z = s.pieceE := ⟨_, rfl⟩
            have HA : Hid (∀ V, Cells V b (mc s) → Calls Try.prog 14 #[.pointer (some ⟨b, 0, none⟩)] V (RetM b (mc (s.piece)) (.int .i64 z) V)) := fun V h => by rw [hz]; exact mpiece_any h HK.out
            have HB : Hid (∀ V, Cells V c (rc s) → Calls Try.prog 15 #[.pointer (some ⟨c, 0, none⟩)] V (RetM c (rc (s.piece)) (.int .i64 z) V)) := fun V h => by rw [hz]; exact rpiece_any h HK.out
            clear hz
            go_wp2_with fail
            refine (HA.out _ S2.out.b.t.t.1).mono ?_
            intro e V3 h
            obtain ⟨rfl, hS⟩ := S2.out.ret [⟨g, [.int .i64 2, .slice po pn pc, .int .i64 er]⟩, ⟨c, rc s⟩] [⟨w.heap.size, [.int .i64 fu, .int .i64 li, .int .i64 te, .int .i64 pi]⟩] h
            have S3 : Hid (Sx w V3 [⟨g, [.int .i64 2, .slice po pn pc, .int .i64 er]⟩, ⟨c, rc s⟩, ⟨b, mc (s.piece)⟩, ⟨w.heap.size, [.int .i64 fu, .int .i64 li, .int .i64 te, .int .i64 pi]⟩] []) := hS
            clear hS h S2
            go_wp2_with fail
            refine (HB.out _ S3.out.b.t.1).mono ?_
            intro e V4 h
            obtain ⟨rfl, hS⟩ := S3.out.ret [⟨g, [.int .i64 2, .slice po pn pc, .int .i64 er]⟩] [⟨b, mc (s.piece)⟩, ⟨w.heap.size, [.int .i64 fu, .int .i64 li, .int .i64 te, .int .i64 pi]⟩] h
            have S4 : Hid (Sx w V4 [⟨g, [.int .i64 2, .slice po pn pc, .int .i64 er]⟩, ⟨c, rc (s.piece)⟩, ⟨b, mc (s.piece)⟩, ⟨w.heap.size, [.int .i64 fu, .int .i64 li, .int .i64 te, .int .i64 pi]⟩] []) := hS
            clear hS h S3
            go_upto_region 22 with (fail)
            obtain ⟨z0, hz0⟩ : ∃ z, z = (s.piece).st := ⟨_, rfl⟩
            obtain ⟨z1, hz1⟩ : ∃ z, z = (s.piece).pc := ⟨_, rfl⟩
            obtain ⟨z2, hz2⟩ : ∃ z, z = (s.piece).wh := ⟨_, rfl⟩
            obtain ⟨z3, hz3⟩ : ∃ z, z = (s.piece).n := ⟨_, rfl⟩
            have HF : Hid (∀ V, Cells V b (mc (s.piece)) → Calls Try.prog 20 #[.pointer (some ⟨b, 0, none⟩)] V fun e V' => e = .returned (.int .i64 z0) ∧ V = V') := fun V h => by rw [hz0]; exact mfuel_any h
            have HG : Hid (∀ V, Cells V b (mc (s.piece)) → Calls Try.prog 21 #[.pointer (some ⟨b, 0, none⟩)] V fun e V' => e = .returned (.int .i64 z1) ∧ V = V') := fun V h => by rw [hz1]; exact mpieces_any h
            have HN : Hid (∀ V, Cells V b (mc (s.piece)) → Calls Try.prog 22 #[.pointer (some ⟨b, 0, none⟩)] V (RetB (.agg #[.int .i64 z2, .int .i64 z3]) V)) := fun V h => by rw [hz2, hz3]; exact mneed_any h
            have HT : Hid (∀ w' : World, Cells w' c (rc (s.piece)) → w'.cell? ⟨c, 4, none⟩ = some (.int .i64 z0) ∧ w'.cell? ⟨c, 5, none⟩ = some (.int .i64 z1) ∧ w'.cell? ⟨c, 6, none⟩ = some (.int .i64 z2) ∧ w'.cell? ⟨c, 7, none⟩ = some (.int .i64 z3)) := fun V h => by rw [hz0, hz1, hz2, hz3]; exact h.rt.2
            clear hz0 hz1 hz2 hz3
            refine wp_region_held_drew (S := fun w' => w'.cell? ⟨c, 4, none⟩ = some (.int .i64 z0) ∧ w'.cell? ⟨c, 5, none⟩ = some (.int .i64 z1) ∧ w'.cell? ⟨c, 6, none⟩ = some (.int .i64 z2) ∧ w'.cell? ⟨c, 7, none⟩ = some (.int .i64 z3)) (by kernel_rfl) (HT.out _ S4.out.b.t.1) (fun hH => ?_)
            refine anyH_world (fun V5 hW => ?_)
            have S5 : Hid (Sx w V5 [⟨g, [.int .i64 2, .slice po pn pc, .int .i64 er]⟩, ⟨c, rc (s.piece)⟩, ⟨b, mc (s.piece)⟩, ⟨w.heap.size, [.int .i64 fu, .int .i64 li, .int .i64 te, .int .i64 pi]⟩] []) := by rw [hW]; exact S4.out.drew
            rw [← hW] at hH
            clear hW S4
            refine son 0 hH ?_
            try simp only [nrm]
            refine son 1 hH ?_
            try simp only [nrm]
            refine son 2 hH ?_
            try simp only [nrm]
            refine son 3 hH ?_
            try simp only [nrm]
            refine son 4 hH ?_
            try simp only [nrm]
            refine son 6 hH ?_
            try simp only [nrm]
            refine son 7 hH ?_
            try simp only [nrm]
            refine son 8 hH ?_
            try simp only [nrm]
            refine son 9 hH ?_
            try simp only [nrm]
            refine step_one 5 rfl (by kernel_rfl) (fun KK hK => ?_)
            go_simp
            refine (HF.out _ S5.out.b.t.t.1).mono ?_
            rintro e V50 ⟨rfl, rfl⟩
            go_wp2_with fail
            refine hK.out _ _ (HT.out _ S5.out.b.t.1) (fun h2 => ?_)
            clear hK KK hH
            have hH := h2
            clear h2
            try simp only [nrm]
            refine son 10 hH ?_
            try simp only [nrm]
            refine son 11 hH ?_
            try simp only [nrm]
            refine son 12 hH ?_
            try simp only [nrm]
            refine son 13 hH ?_
            try simp only [nrm]
            refine son 15 hH ?_
            try simp only [nrm]
            refine son 16 hH ?_
            try simp only [nrm]
            refine son 17 hH ?_
            try simp only [nrm]
            refine son 18 hH ?_
            try simp only [nrm]
            refine step_one 14 rfl (by kernel_rfl) (fun KK hK => ?_)
            go_simp
            refine (HG.out _ S5.out.b.t.t.1).mono ?_
            rintro e V50 ⟨rfl, rfl⟩
            go_wp2_with fail
            refine hK.out _ _ (HT.out _ S5.out.b.t.1) (fun h2 => ?_)
            clear hK KK hH
            have hH := h2
            clear h2
            try simp only [nrm]
            refine son 19 hH ?_
            try simp only [nrm]
            refine son 20 hH ?_
            try simp only [nrm]
            refine son 21 hH ?_
            try simp only [nrm]
            refine son 22 hH ?_
            try simp only [nrm]
            refine son 24 hH ?_
            try simp only [nrm]
            refine son 25 hH ?_
            try simp only [nrm]
            refine son 26 hH ?_
            try simp only [nrm]
            refine son 27 hH ?_
            try simp only [nrm]
            refine step_one 23 rfl (by kernel_rfl) (fun KK hK => ?_)
            go_simp
            refine (HN.out _ S5.out.b.t.t.1).mono ?_
            rintro e V6 ⟨rfl, hB⟩
            have S6 : Hid (Sx w V6 [⟨g, [.int .i64 2, .slice po pn pc, .int .i64 er]⟩, ⟨c, rc (s.piece)⟩, ⟨b, mc (s.piece)⟩, ⟨w.heap.size, [.int .i64 fu, .int .i64 li, .int .i64 te, .int .i64 pi]⟩] []) := S5.out.step hB
            clear hB S5
            go_wp2_with fail
            refine hK.out _ _ (HT.out _ S6.out.b.t.1) (fun h2 => ?_)
            clear hK KK hH
            have hH := h2
            clear h2
            try simp only [nrm]
            refine son 28 hH ?_
            try simp only [nrm]
            refine son 29 hH ?_
            try simp only [nrm]
            refine wpAnyH_done (by kernel_rfl) ?_ _
            clear hH
            go_wp2_with fail
            go_roundw
            case rel => exact ⟨k + 1, _, by go_num, by omega, Sx.pop S6.out, HK.out.piece⟩
            case measure => simp [intOf]; omega
          have hd2 : (kd == 2) = false := by simpa using hk2
          by_cases hk3 : kd = 3
          · subst hk3
            obtain ⟨z, hz⟩ : ∃ z, z = s.keepE ps := ⟨_, rfl⟩
            have HA : Hid (∀ V, Cells V b (mc s) → Lp V po pn pc ps → Calls Try.prog 16 #[.pointer (some ⟨b, 0, none⟩), .slice po pn pc] V (RetM b (mc (s.keep ps)) (.int .i64 z) V)) := fun V h hp => by rw [hz]; exact mkeep_any h hp
            have HB : Hid (∀ V, Cells V c (rc s) → Lp V po pn pc ps → Calls Try.prog 17 #[.pointer (some ⟨c, 0, none⟩), .slice po pn pc] V (RetM c (rc (s.keep ps)) (.int .i64 z) V)) := fun V h hp => by rw [hz]; exact rkeep_any h hp
            clear hz
            go_upto_region 19 with (fail)
            refine wp_region_held_drew (S := fun w' => w'.cell? ⟨g, 1, none⟩ = some (.slice po pn pc)) (by kernel_rfl) S2.out.b.1.c3.2.1 (fun hH => ?_)
            refine anyH_world (fun V3 hW => ?_)
            have S3 : Hid (Sx w V3 [⟨g, [.int .i64 3, .slice po pn pc, .int .i64 er]⟩, ⟨c, rc s⟩, ⟨b, mc s⟩, ⟨w.heap.size, [.int .i64 fu, .int .i64 li, .int .i64 te, .int .i64 pi]⟩] []) := by rw [hW]; exact S2.out.drew
            rw [← hW] at hH
            clear hW S2
            refine son 0 hH ?_
            try simp only [nrm]
            refine son 1 hH ?_
            try simp only [nrm]
            refine son 2 hH ?_
            try simp only [nrm]
            refine son 4 hH ?_
            try simp only [nrm]
            refine son 5 hH ?_
            try simp only [nrm]
            refine son 6 hH ?_
            try simp only [nrm]
            refine step_one 3 rfl (by kernel_rfl) (fun KK hK => ?_)
            go_simp
            refine (HA.out _ S3.out.b.t.t.1 (HLP.out.below S3.out.h)).mono ?_
            intro e V4 h
            obtain ⟨rfl, hS⟩ := S3.out.ret [⟨g, [.int .i64 3, .slice po pn pc, .int .i64 er]⟩, ⟨c, rc s⟩] [⟨w.heap.size, [.int .i64 fu, .int .i64 li, .int .i64 te, .int .i64 pi]⟩] h
            have S4 : Hid (Sx w V4 [⟨g, [.int .i64 3, .slice po pn pc, .int .i64 er]⟩, ⟨c, rc s⟩, ⟨b, mc (s.keep ps)⟩, ⟨w.heap.size, [.int .i64 fu, .int .i64 li, .int .i64 te, .int .i64 pi]⟩] []) := hS
            clear hS h S3
            go_wp2_with fail
            refine hK.out _ _ S4.out.b.1.c3.2.1 (fun h2 => ?_)
            clear hK KK hH
            have hH := h2
            clear h2
            try simp only [nrm]
            refine step_one 7 rfl (by kernel_rfl) (fun KK hK => ?_)
            go_simp
            refine (HB.out _ S4.out.b.t.1 (HLP.out.below S4.out.h)).mono ?_
            intro e V5 h
            obtain ⟨rfl, hS⟩ := S4.out.ret [⟨g, [.int .i64 3, .slice po pn pc, .int .i64 er]⟩] [⟨b, mc (s.keep ps)⟩, ⟨w.heap.size, [.int .i64 fu, .int .i64 li, .int .i64 te, .int .i64 pi]⟩] h
            have S5 : Hid (Sx w V5 [⟨g, [.int .i64 3, .slice po pn pc, .int .i64 er]⟩, ⟨c, rc (s.keep ps)⟩, ⟨b, mc (s.keep ps)⟩, ⟨w.heap.size, [.int .i64 fu, .int .i64 li, .int .i64 te, .int .i64 pi]⟩] []) := hS
            clear hS h S4
            go_wp2_with fail
            refine hK.out _ _ S5.out.b.1.c3.2.1 (fun h2 => ?_)
            clear hK KK hH
            have hH := h2
            clear h2
            try simp only [nrm]
            refine son 8 hH ?_
            try simp only [nrm]
            refine son 9 hH ?_
            try simp only [nrm]
            refine wpAnyH_done (by kernel_rfl) ?_ _
            clear hH
            go_upto_region 22 with (fail)
            obtain ⟨z0, hz0⟩ : ∃ z, z = (s.keep ps).st := ⟨_, rfl⟩
            obtain ⟨z1, hz1⟩ : ∃ z, z = (s.keep ps).pc := ⟨_, rfl⟩
            obtain ⟨z2, hz2⟩ : ∃ z, z = (s.keep ps).wh := ⟨_, rfl⟩
            obtain ⟨z3, hz3⟩ : ∃ z, z = (s.keep ps).n := ⟨_, rfl⟩
            have HF : Hid (∀ V, Cells V b (mc (s.keep ps)) → Calls Try.prog 20 #[.pointer (some ⟨b, 0, none⟩)] V fun e V' => e = .returned (.int .i64 z0) ∧ V = V') := fun V h => by rw [hz0]; exact mfuel_any h
            have HG : Hid (∀ V, Cells V b (mc (s.keep ps)) → Calls Try.prog 21 #[.pointer (some ⟨b, 0, none⟩)] V fun e V' => e = .returned (.int .i64 z1) ∧ V = V') := fun V h => by rw [hz1]; exact mpieces_any h
            have HN : Hid (∀ V, Cells V b (mc (s.keep ps)) → Calls Try.prog 22 #[.pointer (some ⟨b, 0, none⟩)] V (RetB (.agg #[.int .i64 z2, .int .i64 z3]) V)) := fun V h => by rw [hz2, hz3]; exact mneed_any h
            have HT : Hid (∀ w' : World, Cells w' c (rc (s.keep ps)) → w'.cell? ⟨c, 4, none⟩ = some (.int .i64 z0) ∧ w'.cell? ⟨c, 5, none⟩ = some (.int .i64 z1) ∧ w'.cell? ⟨c, 6, none⟩ = some (.int .i64 z2) ∧ w'.cell? ⟨c, 7, none⟩ = some (.int .i64 z3)) := fun V h => by rw [hz0, hz1, hz2, hz3]; exact h.rt.2
            clear hz0 hz1 hz2 hz3
            refine wp_region_held_drew (S := fun w' => w'.cell? ⟨c, 4, none⟩ = some (.int .i64 z0) ∧ w'.cell? ⟨c, 5, none⟩ = some (.int .i64 z1) ∧ w'.cell? ⟨c, 6, none⟩ = some (.int .i64 z2) ∧ w'.cell? ⟨c, 7, none⟩ = some (.int .i64 z3)) (by kernel_rfl) (HT.out _ S5.out.b.t.1) (fun hH => ?_)
            refine anyH_world (fun V6 hW => ?_)
            have S6 : Hid (Sx w V6 [⟨g, [.int .i64 3, .slice po pn pc, .int .i64 er]⟩, ⟨c, rc (s.keep ps)⟩, ⟨b, mc (s.keep ps)⟩, ⟨w.heap.size, [.int .i64 fu, .int .i64 li, .int .i64 te, .int .i64 pi]⟩] []) := by rw [hW]; exact S5.out.drew
            rw [← hW] at hH
            clear hW S5
            refine son 0 hH ?_
            try simp only [nrm]
            refine son 1 hH ?_
            try simp only [nrm]
            refine son 2 hH ?_
            try simp only [nrm]
            refine son 3 hH ?_
            try simp only [nrm]
            refine son 4 hH ?_
            try simp only [nrm]
            refine son 6 hH ?_
            try simp only [nrm]
            refine son 7 hH ?_
            try simp only [nrm]
            refine son 8 hH ?_
            try simp only [nrm]
            refine son 9 hH ?_
            try simp only [nrm]
            refine step_one 5 rfl (by kernel_rfl) (fun KK hK => ?_)
            go_simp
            refine (HF.out _ S6.out.b.t.t.1).mono ?_
            rintro e V60 ⟨rfl, rfl⟩
            go_wp2_with fail
            refine hK.out _ _ (HT.out _ S6.out.b.t.1) (fun h2 => ?_)
            clear hK KK hH
            have hH := h2
            clear h2
            try simp only [nrm]
            refine son 10 hH ?_
            try simp only [nrm]
            refine son 11 hH ?_
            try simp only [nrm]
            refine son 12 hH ?_
            try simp only [nrm]
            refine son 13 hH ?_
            try simp only [nrm]
            refine son 15 hH ?_
            try simp only [nrm]
            refine son 16 hH ?_
            try simp only [nrm]
            refine son 17 hH ?_
            try simp only [nrm]
            refine son 18 hH ?_
            try simp only [nrm]
            refine step_one 14 rfl (by kernel_rfl) (fun KK hK => ?_)
            go_simp
            refine (HG.out _ S6.out.b.t.t.1).mono ?_
            rintro e V60 ⟨rfl, rfl⟩
            go_wp2_with fail
            refine hK.out _ _ (HT.out _ S6.out.b.t.1) (fun h2 => ?_)
            clear hK KK hH
            have hH := h2
            clear h2
            try simp only [nrm]
            refine son 19 hH ?_
            try simp only [nrm]
            refine son 20 hH ?_
            try simp only [nrm]
            refine son 21 hH ?_
            try simp only [nrm]
            refine son 22 hH ?_
            try simp only [nrm]
            refine son 24 hH ?_
            try simp only [nrm]
            refine son 25 hH ?_
            try simp only [nrm]
            refine son 26 hH ?_
            try simp only [nrm]
            refine son 27 hH ?_
            try simp only [nrm]
            refine step_one 23 rfl (by kernel_rfl) (fun KK hK => ?_)
            go_simp
            refine (HN.out _ S6.out.b.t.t.1).mono ?_
            rintro e V7 ⟨rfl, hB⟩
            have S7 : Hid (Sx w V7 [⟨g, [.int .i64 3, .slice po pn pc, .int .i64 er]⟩, ⟨c, rc (s.keep ps)⟩, ⟨b, mc (s.keep ps)⟩, ⟨w.heap.size, [.int .i64 fu, .int .i64 li, .int .i64 te, .int .i64 pi]⟩] []) := S6.out.step hB
            clear hB S6
            go_wp2_with fail
            refine hK.out _ _ (HT.out _ S7.out.b.t.1) (fun h2 => ?_)
            clear hK KK hH
            have hH := h2
            clear h2
            try simp only [nrm]
            refine son 28 hH ?_
            try simp only [nrm]
            refine son 29 hH ?_
            try simp only [nrm]
            refine wpAnyH_done (by kernel_rfl) ?_ _
            clear hH
            go_wp2_with fail
            go_roundw
            case rel => exact ⟨k + 1, _, by go_num, by omega, Sx.pop S7.out, (HK.out.keep _)⟩
            case measure => simp [intOf]; omega
          have hd3 : (kd == 3) = false := by simpa using hk3
          by_cases hk4 : kd = 4
          · subst hk4
            obtain ⟨z, hz⟩ : ∃ z, z = er := ⟨_, rfl⟩
            have HA : Hid (∀ V, Cells V b (mc s) → Calls Try.prog 18 #[.pointer (some ⟨b, 0, none⟩), .int .i64 er] V (RetM b (mc (s.refE er)) (.int .i64 z) V)) := fun V h => by rw [hz]; exact mrefer_any h
            have HB : Hid (∀ V, Cells V c (rc s) → Calls Try.prog 19 #[.pointer (some ⟨c, 0, none⟩), .int .i64 er] V (RetM c (rc (s.refE er)) (.int .i64 z) V)) := fun V h => by rw [hz]; exact rrefer_any h
            clear hz
            go_upto_region 21 with (fail)
            refine wp_region_held_drew (S := fun w' => w'.cell? ⟨g, 2, none⟩ = some (.int .i64 er)) (by kernel_rfl) S2.out.b.1.c3.2.2 (fun hH => ?_)
            refine anyH_world (fun V3 hW => ?_)
            have S3 : Hid (Sx w V3 [⟨g, [.int .i64 4, .slice po pn pc, .int .i64 er]⟩, ⟨c, rc s⟩, ⟨b, mc s⟩, ⟨w.heap.size, [.int .i64 fu, .int .i64 li, .int .i64 te, .int .i64 pi]⟩] []) := by rw [hW]; exact S2.out.drew
            rw [← hW] at hH
            clear hW S2
            refine son 0 hH ?_
            try simp only [nrm]
            refine son 1 hH ?_
            try simp only [nrm]
            refine son 2 hH ?_
            try simp only [nrm]
            refine son 4 hH ?_
            try simp only [nrm]
            refine son 5 hH ?_
            try simp only [nrm]
            refine son 6 hH ?_
            try simp only [nrm]
            refine step_one 3 rfl (by kernel_rfl) (fun KK hK => ?_)
            go_simp
            refine (HA.out _ S3.out.b.t.t.1).mono ?_
            intro e V4 h
            obtain ⟨rfl, hS⟩ := S3.out.ret [⟨g, [.int .i64 4, .slice po pn pc, .int .i64 er]⟩, ⟨c, rc s⟩] [⟨w.heap.size, [.int .i64 fu, .int .i64 li, .int .i64 te, .int .i64 pi]⟩] h
            have S4 : Hid (Sx w V4 [⟨g, [.int .i64 4, .slice po pn pc, .int .i64 er]⟩, ⟨c, rc s⟩, ⟨b, mc (s.refE er)⟩, ⟨w.heap.size, [.int .i64 fu, .int .i64 li, .int .i64 te, .int .i64 pi]⟩] []) := hS
            clear hS h S3
            go_wp2_with fail
            refine hK.out _ _ S4.out.b.1.c3.2.2 (fun h2 => ?_)
            clear hK KK hH
            have hH := h2
            clear h2
            try simp only [nrm]
            refine step_one 7 rfl (by kernel_rfl) (fun KK hK => ?_)
            go_simp
            refine (HB.out _ S4.out.b.t.1).mono ?_
            intro e V5 h
            obtain ⟨rfl, hS⟩ := S4.out.ret [⟨g, [.int .i64 4, .slice po pn pc, .int .i64 er]⟩] [⟨b, mc (s.refE er)⟩, ⟨w.heap.size, [.int .i64 fu, .int .i64 li, .int .i64 te, .int .i64 pi]⟩] h
            have S5 : Hid (Sx w V5 [⟨g, [.int .i64 4, .slice po pn pc, .int .i64 er]⟩, ⟨c, rc (s.refE er)⟩, ⟨b, mc (s.refE er)⟩, ⟨w.heap.size, [.int .i64 fu, .int .i64 li, .int .i64 te, .int .i64 pi]⟩] []) := hS
            clear hS h S4
            go_wp2_with fail
            refine hK.out _ _ S5.out.b.1.c3.2.2 (fun h2 => ?_)
            clear hK KK hH
            have hH := h2
            clear h2
            try simp only [nrm]
            refine son 8 hH ?_
            try simp only [nrm]
            refine son 9 hH ?_
            try simp only [nrm]
            refine wpAnyH_done (by kernel_rfl) ?_ _
            clear hH
            go_upto_region 22 with (fail)
            obtain ⟨z0, hz0⟩ : ∃ z, z = (s.refE er).st := ⟨_, rfl⟩
            obtain ⟨z1, hz1⟩ : ∃ z, z = (s.refE er).pc := ⟨_, rfl⟩
            obtain ⟨z2, hz2⟩ : ∃ z, z = (s.refE er).wh := ⟨_, rfl⟩
            obtain ⟨z3, hz3⟩ : ∃ z, z = (s.refE er).n := ⟨_, rfl⟩
            have HF : Hid (∀ V, Cells V b (mc (s.refE er)) → Calls Try.prog 20 #[.pointer (some ⟨b, 0, none⟩)] V fun e V' => e = .returned (.int .i64 z0) ∧ V = V') := fun V h => by rw [hz0]; exact mfuel_any h
            have HG : Hid (∀ V, Cells V b (mc (s.refE er)) → Calls Try.prog 21 #[.pointer (some ⟨b, 0, none⟩)] V fun e V' => e = .returned (.int .i64 z1) ∧ V = V') := fun V h => by rw [hz1]; exact mpieces_any h
            have HN : Hid (∀ V, Cells V b (mc (s.refE er)) → Calls Try.prog 22 #[.pointer (some ⟨b, 0, none⟩)] V (RetB (.agg #[.int .i64 z2, .int .i64 z3]) V)) := fun V h => by rw [hz2, hz3]; exact mneed_any h
            have HT : Hid (∀ w' : World, Cells w' c (rc (s.refE er)) → w'.cell? ⟨c, 4, none⟩ = some (.int .i64 z0) ∧ w'.cell? ⟨c, 5, none⟩ = some (.int .i64 z1) ∧ w'.cell? ⟨c, 6, none⟩ = some (.int .i64 z2) ∧ w'.cell? ⟨c, 7, none⟩ = some (.int .i64 z3)) := fun V h => by rw [hz0, hz1, hz2, hz3]; exact h.rt.2
            clear hz0 hz1 hz2 hz3
            refine wp_region_held_drew (S := fun w' => w'.cell? ⟨c, 4, none⟩ = some (.int .i64 z0) ∧ w'.cell? ⟨c, 5, none⟩ = some (.int .i64 z1) ∧ w'.cell? ⟨c, 6, none⟩ = some (.int .i64 z2) ∧ w'.cell? ⟨c, 7, none⟩ = some (.int .i64 z3)) (by kernel_rfl) (HT.out _ S5.out.b.t.1) (fun hH => ?_)
            refine anyH_world (fun V6 hW => ?_)
            have S6 : Hid (Sx w V6 [⟨g, [.int .i64 4, .slice po pn pc, .int .i64 er]⟩, ⟨c, rc (s.refE er)⟩, ⟨b, mc (s.refE er)⟩, ⟨w.heap.size, [.int .i64 fu, .int .i64 li, .int .i64 te, .int .i64 pi]⟩] []) := by rw [hW]; exact S5.out.drew
            rw [← hW] at hH
            clear hW S5
            refine son 0 hH ?_
            try simp only [nrm]
            refine son 1 hH ?_
            try simp only [nrm]
            refine son 2 hH ?_
            try simp only [nrm]
            refine son 3 hH ?_
            try simp only [nrm]
            refine son 4 hH ?_
            try simp only [nrm]
            refine son 6 hH ?_
            try simp only [nrm]
            refine son 7 hH ?_
            try simp only [nrm]
            refine son 8 hH ?_
            try simp only [nrm]
            refine son 9 hH ?_
            try simp only [nrm]
            refine step_one 5 rfl (by kernel_rfl) (fun KK hK => ?_)
            go_simp
            refine (HF.out _ S6.out.b.t.t.1).mono ?_
            rintro e V60 ⟨rfl, rfl⟩
            go_wp2_with fail
            refine hK.out _ _ (HT.out _ S6.out.b.t.1) (fun h2 => ?_)
            clear hK KK hH
            have hH := h2
            clear h2
            try simp only [nrm]
            refine son 10 hH ?_
            try simp only [nrm]
            refine son 11 hH ?_
            try simp only [nrm]
            refine son 12 hH ?_
            try simp only [nrm]
            refine son 13 hH ?_
            try simp only [nrm]
            refine son 15 hH ?_
            try simp only [nrm]
            refine son 16 hH ?_
            try simp only [nrm]
            refine son 17 hH ?_
            try simp only [nrm]
            refine son 18 hH ?_
            try simp only [nrm]
            refine step_one 14 rfl (by kernel_rfl) (fun KK hK => ?_)
            go_simp
            refine (HG.out _ S6.out.b.t.t.1).mono ?_
            rintro e V60 ⟨rfl, rfl⟩
            go_wp2_with fail
            refine hK.out _ _ (HT.out _ S6.out.b.t.1) (fun h2 => ?_)
            clear hK KK hH
            have hH := h2
            clear h2
            try simp only [nrm]
            refine son 19 hH ?_
            try simp only [nrm]
            refine son 20 hH ?_
            try simp only [nrm]
            refine son 21 hH ?_
            try simp only [nrm]
            refine son 22 hH ?_
            try simp only [nrm]
            refine son 24 hH ?_
            try simp only [nrm]
            refine son 25 hH ?_
            try simp only [nrm]
            refine son 26 hH ?_
            try simp only [nrm]
            refine son 27 hH ?_
            try simp only [nrm]
            refine step_one 23 rfl (by kernel_rfl) (fun KK hK => ?_)
            go_simp
            refine (HN.out _ S6.out.b.t.t.1).mono ?_
            rintro e V7 ⟨rfl, hB⟩
            have S7 : Hid (Sx w V7 [⟨g, [.int .i64 4, .slice po pn pc, .int .i64 er]⟩, ⟨c, rc (s.refE er)⟩, ⟨b, mc (s.refE er)⟩, ⟨w.heap.size, [.int .i64 fu, .int .i64 li, .int .i64 te, .int .i64 pi]⟩] []) := S6.out.step hB
            clear hB S6
            go_wp2_with fail
            refine hK.out _ _ (HT.out _ S7.out.b.t.1) (fun h2 => ?_)
            clear hK KK hH
            have hH := h2
            clear h2
            try simp only [nrm]
            refine son 28 hH ?_
            try simp only [nrm]
            refine son 29 hH ?_
            try simp only [nrm]
            refine wpAnyH_done (by kernel_rfl) ?_ _
            clear hH
            go_wp2_with fail
            go_roundw
            case rel => exact ⟨k + 1, _, by go_num, by omega, Sx.pop S7.out, (HK.out.refE _)⟩
            case measure => simp [intOf]; omega
          have hd4 : (kd == 4) = false := by simpa using hk4
          clear hk1 hk2 hk3 hk4
          go_upto_region 22 with (fail)
          obtain ⟨z0, hz0⟩ : ∃ z, z = (s).st := ⟨_, rfl⟩
          obtain ⟨z1, hz1⟩ : ∃ z, z = (s).pc := ⟨_, rfl⟩
          obtain ⟨z2, hz2⟩ : ∃ z, z = (s).wh := ⟨_, rfl⟩
          obtain ⟨z3, hz3⟩ : ∃ z, z = (s).n := ⟨_, rfl⟩
          have HF : Hid (∀ V, Cells V b (mc (s)) → Calls Try.prog 20 #[.pointer (some ⟨b, 0, none⟩)] V fun e V' => e = .returned (.int .i64 z0) ∧ V = V') := fun V h => by rw [hz0]; exact mfuel_any h
          have HG : Hid (∀ V, Cells V b (mc (s)) → Calls Try.prog 21 #[.pointer (some ⟨b, 0, none⟩)] V fun e V' => e = .returned (.int .i64 z1) ∧ V = V') := fun V h => by rw [hz1]; exact mpieces_any h
          have HN : Hid (∀ V, Cells V b (mc (s)) → Calls Try.prog 22 #[.pointer (some ⟨b, 0, none⟩)] V (RetB (.agg #[.int .i64 z2, .int .i64 z3]) V)) := fun V h => by rw [hz2, hz3]; exact mneed_any h
          have HT : Hid (∀ w' : World, Cells w' c (rc (s)) → w'.cell? ⟨c, 4, none⟩ = some (.int .i64 z0) ∧ w'.cell? ⟨c, 5, none⟩ = some (.int .i64 z1) ∧ w'.cell? ⟨c, 6, none⟩ = some (.int .i64 z2) ∧ w'.cell? ⟨c, 7, none⟩ = some (.int .i64 z3)) := fun V h => by rw [hz0, hz1, hz2, hz3]; exact h.rt.2
          clear hz0 hz1 hz2 hz3
          refine wp_region_held_drew (S := fun w' => w'.cell? ⟨c, 4, none⟩ = some (.int .i64 z0) ∧ w'.cell? ⟨c, 5, none⟩ = some (.int .i64 z1) ∧ w'.cell? ⟨c, 6, none⟩ = some (.int .i64 z2) ∧ w'.cell? ⟨c, 7, none⟩ = some (.int .i64 z3)) (by kernel_rfl) (HT.out _ S2.out.b.t.1) (fun hH => ?_)
          refine anyH_world (fun V3 hW => ?_)
          have S3 : Hid (Sx w V3 [⟨g, [.int .i64 kd, .slice po pn pc, .int .i64 er]⟩, ⟨c, rc s⟩, ⟨b, mc s⟩, ⟨w.heap.size, [.int .i64 fu, .int .i64 li, .int .i64 te, .int .i64 pi]⟩] []) := by rw [hW]; exact S2.out.drew
          rw [← hW] at hH
          clear hW S2
          refine son 0 hH ?_
          try simp only [nrm]
          refine son 1 hH ?_
          try simp only [nrm]
          refine son 2 hH ?_
          try simp only [nrm]
          refine son 3 hH ?_
          try simp only [nrm]
          refine son 4 hH ?_
          try simp only [nrm]
          refine son 6 hH ?_
          try simp only [nrm]
          refine son 7 hH ?_
          try simp only [nrm]
          refine son 8 hH ?_
          try simp only [nrm]
          refine son 9 hH ?_
          try simp only [nrm]
          refine step_one 5 rfl (by kernel_rfl) (fun KK hK => ?_)
          go_simp
          refine (HF.out _ S3.out.b.t.t.1).mono ?_
          rintro e V30 ⟨rfl, rfl⟩
          go_wp2_with fail
          refine hK.out _ _ (HT.out _ S3.out.b.t.1) (fun h2 => ?_)
          clear hK KK hH
          have hH := h2
          clear h2
          try simp only [nrm]
          refine son 10 hH ?_
          try simp only [nrm]
          refine son 11 hH ?_
          try simp only [nrm]
          refine son 12 hH ?_
          try simp only [nrm]
          refine son 13 hH ?_
          try simp only [nrm]
          refine son 15 hH ?_
          try simp only [nrm]
          refine son 16 hH ?_
          try simp only [nrm]
          refine son 17 hH ?_
          try simp only [nrm]
          refine son 18 hH ?_
          try simp only [nrm]
          refine step_one 14 rfl (by kernel_rfl) (fun KK hK => ?_)
          go_simp
          refine (HG.out _ S3.out.b.t.t.1).mono ?_
          rintro e V30 ⟨rfl, rfl⟩
          go_wp2_with fail
          refine hK.out _ _ (HT.out _ S3.out.b.t.1) (fun h2 => ?_)
          clear hK KK hH
          have hH := h2
          clear h2
          try simp only [nrm]
          refine son 19 hH ?_
          try simp only [nrm]
          refine son 20 hH ?_
          try simp only [nrm]
          refine son 21 hH ?_
          try simp only [nrm]
          refine son 22 hH ?_
          try simp only [nrm]
          refine son 24 hH ?_
          try simp only [nrm]
          refine son 25 hH ?_
          try simp only [nrm]
          refine son 26 hH ?_
          try simp only [nrm]
          refine son 27 hH ?_
          try simp only [nrm]
          refine step_one 23 rfl (by kernel_rfl) (fun KK hK => ?_)
          go_simp
          refine (HN.out _ S3.out.b.t.t.1).mono ?_
          rintro e V4 ⟨rfl, hB⟩
          have S4 : Hid (Sx w V4 [⟨g, [.int .i64 kd, .slice po pn pc, .int .i64 er]⟩, ⟨c, rc s⟩, ⟨b, mc s⟩, ⟨w.heap.size, [.int .i64 fu, .int .i64 li, .int .i64 te, .int .i64 pi]⟩] []) := S3.out.step hB
          clear hB S3
          go_wp2_with fail
          refine hK.out _ _ (HT.out _ S4.out.b.t.1) (fun h2 => ?_)
          clear hK KK hH
          have hH := h2
          clear h2
          try simp only [nrm]
          refine son 28 hH ?_
          try simp only [nrm]
          refine son 29 hH ?_
          try simp only [nrm]
          refine wpAnyH_done (by kernel_rfl) ?_ _
          clear hH
          go_wp2_with fail
          go_roundw
          case rel => exact ⟨k + 1, _, by go_num, by omega, Sx.pop S4.out, HK.out⟩
          case measure => simp [intOf]; omega
        · obtain rfl : k = n := by omega
          go_wp2_with fail
          refine (mknown_any _).mono ?_
          rintro e V2 ⟨rfl, hB⟩
          have S2 : Hid (Sx w V2 [⟨c, rc s⟩, ⟨b, mc s⟩, ⟨w.heap.size, [.int .i64 fu, .int .i64 li, .int .i64 te, .int .i64 pi]⟩] []) := S1.out.step hB
          clear hB S1
          go_wp2_with fail
          go_ret
          exact ⟨rfl, S2.out.h⟩
end Go.Proofs.Ythllkgjgakeinaa
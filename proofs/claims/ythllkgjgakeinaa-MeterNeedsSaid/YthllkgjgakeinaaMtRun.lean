/-
  The law's run: how many calls go well, what the first one that does not would need.
-/
import Derived.Test.YthllkgjgakeinaaMtSt
import Derived.Test.YthllkgjgakeinaaMtNeedP
import Derived.BigQuiet
set_option maxRecDepth 8192
namespace Go.Proofs.Ythllkgjgakeinaa
open Go.RowKit
set_option maxHeartbeats 4000000 in
set_option maxRecDepth 100000 in
theorem mrun_no {fu li te pi : Int} {v : Value} {w : World} (hm : mayL fu li te pi = false) : Calls Try.prog 23 #[.agg #[.int .i64 fu, .int .i64 li, .int .i64 te, .int .i64 pi], v] w (RetB (.tuple #[.int .i64 0, .agg #[.int .i64 0, .int .i64 0], .bool true]) w) := by
  go_enter Try.func23, Try.ntmps23
  go_upto_region 1 with (fail)
  refine wp_world (fun V1 hV => ?_)
  have S1 : Hid (Sx w V1 [⟨w.heap.size + 1, [.int .i64 0, .int .i64 0]⟩, ⟨w.heap.size, [.int .i64 fu, .int .i64 li, .int .i64 te, .int .i64 pi]⟩] []) := by
    rw [hV]
    exact Sx.var (Sx.var (Sx.start (N := []) trivial) w.heap.size _ 23 rfl) (w.heap.size + 1) _ 35 (by simp)
  clear hV
  obtain ⟨x0, x1, x2, x3⟩ := S1.out.b.t.1.c4
  go_wp2_with fail
  refine (mnew_no hm).mono ?_
  rintro e V2 ⟨rfl, hB⟩
  have S2 : Hid (Sx w V2 [⟨w.heap.size + 1, [.int .i64 0, .int .i64 0]⟩, ⟨w.heap.size, [.int .i64 fu, .int .i64 li, .int .i64 te, .int .i64 pi]⟩] []) := S1.out.step hB
  clear hB S1
  clear x0 x1 x2 x3
  obtain ⟨n0, n1⟩ := S2.out.b.1.c2
  obtain ⟨f0, f1⟩ := S2.out.b.1.f2
  go_wp2_with fail
  refine bodyPost_ret (v := .tuple #[.int .i64 0, .agg #[.int .i64 0, .int .i64 0], .bool true]) (by simp [results, Try.results23, go_sem, n0, n1]) rfl ?_
  exact ⟨rfl, (S2.out.h.setCell (by simp) _).setCell (by simp) _⟩
set_option maxHeartbeats 16000000 in
set_option maxRecDepth 100000 in
theorem mrun_yes {fu li te pi : Int} {ao : Option Addr} {n cap : Nat} {l : List MOp} {w : World} (hm : mayL fu li te pi = true) (h : Lo w ao n cap l) {i : Nat} {wh ne : Int} (hr : runP (MS.new fu li te pi) l = (i, wh, ne)) : Calls Try.prog 23 #[.agg #[.int .i64 fu, .int .i64 li, .int .i64 te, .int .i64 pi], .slice ao n cap] w (RetB (.tuple #[.int .i64 i, .agg #[.int .i64 wh, .int .i64 ne], .bool true]) w) := by
  have HP := Lib.hid h
  have HL := Lib.hid h.len
  have HRU := Lib.hid hr
  have hbig := h.big
  clear h hr
  go_enter Try.func23, Try.ntmps23
  go_upto_region 1 with (fail)
  refine wp_world (fun V1 hV => ?_)
  have S1 : Hid (Sx w V1 [⟨w.heap.size + 1, [.int .i64 0, .int .i64 0]⟩, ⟨w.heap.size, [.int .i64 fu, .int .i64 li, .int .i64 te, .int .i64 pi]⟩] []) := by
    rw [hV]
    exact Sx.var (Sx.var (Sx.start (N := []) trivial) w.heap.size _ 23 rfl) (w.heap.size + 1) _ 35 (by simp)
  clear hV
  obtain ⟨x0, x1, x2, x3⟩ := S1.out.b.t.1.c4
  go_wp2_with fail
  refine (mnew_yes hm).mono ?_
  rintro e V2 ⟨b, rfl, hC, hb, hB⟩
  have S2 : Hid (Sx w V2 [⟨b, mc (MS.new fu li te pi)⟩, ⟨w.heap.size + 1, [.int .i64 0, .int .i64 0]⟩, ⟨w.heap.size, [.int .i64 fu, .int .i64 li, .int .i64 te, .int .i64 pi]⟩] []) := S1.out.made hC hb hB
  have HK : Hid ((MS.new fu li te pi).Ok) := mayL_ok hm
  clear hC hb hB S1 x0 x1 x2 x3 hm
  go_wp2_with fail
  go_loopw [26] (fun i wr => ∃ (k : Nat), i = .int .i64 k ∧ k ≤ n ∧ Hid (Sx w wr [⟨b, mc (runS (MS.new fu li te pi) (l.take k))⟩, ⟨w.heap.size + 1, [.int .i64 0, .int .i64 0]⟩, ⟨w.heap.size, [.int .i64 fu, .int .i64 li, .int .i64 te, .int .i64 pi]⟩] [] ∧ (runS (MS.new fu li te pi) (l.take k)).Ok ∧ goes (MS.new fu li te pi) (l.take k) ∧ (runS (MS.new fu li te pi) (l.take k)).wh = 0)) (fun i _ => n - (intOf i).toNat)
  case atStart => exact ⟨0, rfl, Nat.zero_le _, S2.out, HK.out, trivial, rfl⟩
  case round =>
    clear S2 HK
    obtain ⟨k, rfl, hk, HR⟩ := hrel
    by_cases hkn : k < n
    · have hki : (k : Int) < (n : Int) := by omega
      have hkl : k < l.length := by rw [HL.out]; exact hkn
      have htk : l.take (k + 1) = l.take k ++ [l.getD k opZ] := by rw [List.take_succ_eq_append_getElem hkl]; simp [List.getD, hkl]
      have hsp : l = l.take k ++ l.getD k opZ :: l.drop (k + 1) := by
        conv => lhs; rw [← List.take_append_drop (k + 1) l, htk]
        simp
      obtain ⟨s, hs⟩ : ∃ s, s = runS (MS.new fu li te pi) (l.take k) := ⟨_, rfl⟩
      have hfu := (run_fu (l.take k) (MS.new fu li te pi)).1
      have hpi := (run_fu (l.take k) (MS.new fu li te pi)).2.2.2
      rw [← hs] at hfu hpi HR
      have S1 : Hid (Sx w wr [⟨b, mc s⟩, ⟨w.heap.size + 1, [.int .i64 0, .int .i64 0]⟩, ⟨w.heap.size, [.int .i64 fu, .int .i64 li, .int .i64 te, .int .i64 pi]⟩] []) := HR.out.1
      have HK : Hid s.Ok := HR.out.2.1
      have HZ : Hid (s.wh = 0) := HR.out.2.2.2
      obtain ⟨oo, hoo⟩ : ∃ oo, oo = l.getD k opZ := ⟨_, rfl⟩
      rw [← hoo] at htk hsp
      have HG : Hid (goes (MS.new fu li te pi) (l.take k)) := HR.out.2.2.1
      have HNX : Hid (runS (MS.new fu li te pi) (l.take (k + 1)) = s.op oo) := by rw [Hid, htk, runS_snoc, ← hs]
      have HNG : Hid (s.opE oo = 0 → goes (MS.new fu li te pi) (l.take (k + 1))) := fun h => by rw [htk]; exact (goes_snoc _ _ _).2 ⟨HG.out, by rw [← hs]; exact h⟩
      have HST : Hid (s.opE oo ≠ 0 → i = k ∧ wh = s.opE oo ∧ (s.op oo).wh = wh ∧ (s.op oo).n = ne) := fun h => by
        have e := runP_stop (r := l.drop (k + 1)) HG.out (o := oo) (by rw [← hs]; exact h)
        rw [← hsp, HRU.out, ← hs] at e
        simp only [Prod.mk.injEq, List.length_take] at e
        exact ⟨by rw [e.1]; omega, by rw [e.2.1]; exact op_need h HZ.out, e.2.1.symm, e.2.2.symm⟩
      have HFP : Hid (fu = s.fu ∧ pi = s.pi) := ⟨hfu.symm, hpi.symm⟩
      clear HR hfu hpi htk hsp hs HG
      obtain ⟨lb, lo, po, pn, pc, rfl, _, hp, hcl⟩ := HP.out.at hkn
      obtain ⟨a0, a1, a2⟩ := hcl wr S1.out.h
      rw [← hoo] at a0 a2 hp
      obtain ⟨kd, hkd⟩ : ∃ kd, kd = oo.1 := ⟨_, rfl⟩
      obtain ⟨er, her⟩ : ∃ er, er = oo.2.2 := ⟨_, rfl⟩
      rw [← hkd] at a0
      rw [← her] at a2
      have HKD := Lib.hid hkd
      have HLP := Lib.hid hp
      clear hcl hkd her hp hoo hkl
      go_upto_region 7 with (fail)
      refine wp_world (fun V2 hV => ?_)
      obtain ⟨g, hg⟩ : ∃ g, g = wr.heap.size := ⟨_, rfl⟩
      have S2 : Hid (Sx w V2 [⟨g, [.int .i64 kd, .slice po pn pc, .int .i64 er]⟩, ⟨b, mc s⟩, ⟨w.heap.size + 1, [.int .i64 0, .int .i64 0]⟩, ⟨w.heap.size, [.int .i64 fu, .int .i64 li, .int .i64 te, .int .i64 pi]⟩] []) := by
        rw [hV]
        exact S1.out.var g _ 41 hg
      rw [← hg]
      clear hV hg a0 a1 a2 S1
      obtain ⟨o0, o1, o2⟩ := S2.out.b.1.c3
      go_upto_region 9 with (fail)
      clear o0 o1 o2
      by_cases hk1 : kd = 1
      · subst hk1
        obtain ⟨z, hz⟩ : ∃ z, z = s.stepE := ⟨_, rfl⟩
        have HOP : Hid (s.op oo = s.step ∧ s.opE oo = z) := ⟨by unfold MS.op; rw [if_pos HKD.out.symm], by unfold MS.opE; rw [if_pos HKD.out.symm, hz]⟩
        have HA : Hid (∀ V, Cells V b (mc s) → Calls Try.prog 12 #[.pointer (some ⟨b, 0, none⟩)] V (RetM b (mc (s.step)) (.int .i64 z) V)) := fun V h => by rw [hz]; exact mstep_any h HK.out
        clear hz
        go_wp2_with fail
        refine (HA.out _ S2.out.b.t.1).mono ?_
        intro e V3 h
        obtain ⟨rfl, hS⟩ := S2.out.ret [⟨g, [.int .i64 1, .slice po pn pc, .int .i64 er]⟩] [⟨w.heap.size + 1, [.int .i64 0, .int .i64 0]⟩, ⟨w.heap.size, [.int .i64 fu, .int .i64 li, .int .i64 te, .int .i64 pi]⟩] h
        have S3 : Hid (Sx w V3 [⟨g, [.int .i64 1, .slice po pn pc, .int .i64 er]⟩, ⟨b, mc (s.step)⟩, ⟨w.heap.size + 1, [.int .i64 0, .int .i64 0]⟩, ⟨w.heap.size, [.int .i64 fu, .int .i64 li, .int .i64 te, .int .i64 pi]⟩] []) := hS
        clear hS h S2
        go_upto_region 15 with (fail)
        have HF : Hid (∀ V, Cells V b (mc (s.step)) → Calls Try.prog 20 #[.pointer (some ⟨b, 0, none⟩)] V fun e V' => e = .returned (.int .i64 (s.step).st) ∧ V = V') := fun V h => mfuel_any h
        have HH : Hid (∀ V, Cells V b (mc (s.step)) → Calls Try.prog 21 #[.pointer (some ⟨b, 0, none⟩)] V fun e V' => e = .returned (.int .i64 (s.step).pc) ∧ V = V') := fun V h => mpieces_any h
        have HN : Hid (∀ V, Cells V b (mc (s.step)) → Calls Try.prog 22 #[.pointer (some ⟨b, 0, none⟩)] V (RetB (.agg #[.int .i64 (s.step).wh, .int .i64 (s.step).n]) V)) := fun V h => mneed_any h
        have HOK : Hid ((s.step).Ok) := by rw [← HOP.out.1]; exact HK.out.op oo
        have df : decide (fu < (s.step).st) = false := decide_eq_false (by have h1 := HOK.out.s1; have h2 := (run_fu [oo] s).1; have h3 : (s.op oo).fu = s.fu := h2; rw [HOP.out.1] at h3; have h4 := HFP.out.1; omega)
        have dp : decide (pi < (s.step).pc) = false := decide_eq_false (by have h1 := HOK.out.c1; have h2 := (run_fu [oo] s).2.2.2; have h3 : (s.op oo).pi = s.pi := h2; rw [HOP.out.1] at h3; have h4 := HFP.out.2; omega)
        obtain ⟨z0, hz0⟩ : ∃ z, z = (s.step).st := ⟨_, rfl⟩
        obtain ⟨z1, hz1⟩ : ∃ z, z = (s.step).pc := ⟨_, rfl⟩
        obtain ⟨z2, hz2⟩ : ∃ z, z = (s.step).wh := ⟨_, rfl⟩
        obtain ⟨z3, hz3⟩ : ∃ z, z = (s.step).n := ⟨_, rfl⟩
        rw [← hz0] at HF df
        rw [← hz1] at HH dp
        rw [← hz2, ← hz3] at HN
        have HZ2 := Lib.hid hz2
        have HZ3 := Lib.hid hz3
        clear hz0 hz1 hz2 hz3
        refine wp_region_held_drew (S := fun w' => w'.cell? ⟨w.heap.size, 0, none⟩ = some (.int .i64 fu) ∧ w'.cell? ⟨w.heap.size, 1, none⟩ = some (.int .i64 li) ∧ w'.cell? ⟨w.heap.size, 2, none⟩ = some (.int .i64 te) ∧ w'.cell? ⟨w.heap.size, 3, none⟩ = some (.int .i64 pi)) (by kernel_rfl) S3.out.b.t.t.t.1.c4 (fun hH => ?_)
        refine anyH_world (fun V4 hW => ?_)
        have S4 : Hid (Sx w V4 [⟨g, [.int .i64 1, .slice po pn pc, .int .i64 er]⟩, ⟨b, mc (s.step)⟩, ⟨w.heap.size + 1, [.int .i64 0, .int .i64 0]⟩, ⟨w.heap.size, [.int .i64 fu, .int .i64 li, .int .i64 te, .int .i64 pi]⟩] []) := by rw [hW]; exact S3.out.drew
        rw [← hW] at hH
        clear hW S3
        refine son 0 hH ?_
        try simp only [nrm]
        refine son 2 hH ?_
        try simp only [nrm]
        refine son 3 hH ?_
        try simp only [nrm]
        refine step_one 1 rfl (by kernel_rfl) (fun KK hK => ?_)
        go_simp
        refine (HF.out _ S4.out.b.t.1).mono ?_
        rintro e V40 ⟨rfl, rfl⟩
        go_wp2_with fail
        refine hK.out _ _ S4.out.b.t.t.t.1.c4 (fun h2 => ?_)
        clear hK KK hH
        have hH := h2
        clear h2
        try simp only [nrm]
        refine son 4 hH ?_
        try simp only [nrm]
        refine son 5 hH ?_
        try simp only [nrm]
        refine son 6 hH ?_
        try simp only [nrm]
        refine son 8 hH ?_
        try simp only [nrm]
        refine son 9 hH ?_
        try simp only [nrm]
        refine step_one 7 rfl (by kernel_rfl) (fun KK hK => ?_)
        go_simp
        refine (HH.out _ S4.out.b.t.1).mono ?_
        rintro e V40 ⟨rfl, rfl⟩
        go_wp2_with fail
        refine hK.out _ _ S4.out.b.t.t.t.1.c4 (fun h2 => ?_)
        clear hK KK hH
        have hH := h2
        clear h2
        try simp only [nrm]
        refine son 10 hH ?_
        try simp only [nrm]
        refine son 11 hH ?_
        try simp only [nrm]
        refine wpAnyH_done (by kernel_rfl) ?_ _
        clear hH df dp
        by_cases hz : z = 0
        · subst hz
          go_wp2_with fail
          go_roundw
          case rel => exact ⟨k + 1, by go_num, by omega, by rw [HNX.out, HOP.out.1]; exact Sx.pop S4.out, by rw [HNX.out, HOP.out.1]; exact HOK.out, HNG.out HOP.out.2, by rw [HNX.out, (op_free HOP.out.2).1]; exact HZ.out⟩
          case measure => simp [intOf]; omega
        · obtain ⟨rfl, h1, h2, h3⟩ := HST.out (by rw [HOP.out.2]; exact hz)
          rw [HOP.out.1, ← HZ2.out] at h2
          rw [HOP.out.1, ← HZ3.out] at h3
          rw [HOP.out.2] at h1
          subst h1
          obtain rfl : wh = z2 := h2.symm
          obtain rfl : ne = z3 := h3.symm
          have hzb : (wh != 0) = true := by simpa using hz
          clear hz h2 h3 HST HNG
          have hfl : ∀ (x y : Int) (W : World), (Instr.field 35 (.agg #[.int .i64 x, .int .i64 y]) 0).run Try.prog W = .ok (.int .i64 x) W := fun _ _ _ => by kernel_rfl
          go_wp2_with fail
          refine (HN.out _ S4.out.b.t.1).mono ?_
          rintro e V5 ⟨rfl, hB⟩
          have S5 : Hid (Sx w V5 [⟨g, [.int .i64 1, .slice po pn pc, .int .i64 er]⟩, ⟨b, mc (s.step)⟩, ⟨w.heap.size + 1, [.int .i64 0, .int .i64 0]⟩, ⟨w.heap.size, [.int .i64 fu, .int .i64 li, .int .i64 te, .int .i64 pi]⟩] []) := S4.out.step hB
          clear hB S4
          go_wp2_with fail
          refine (HN.out _ S5.out.b.t.1).mono ?_
          rintro e V6 ⟨rfl, hB⟩
          have S6 : Hid (Sx w V6 [⟨g, [.int .i64 1, .slice po pn pc, .int .i64 er]⟩, ⟨b, mc (s.step)⟩, ⟨w.heap.size + 1, [.int .i64 0, .int .i64 0]⟩, ⟨w.heap.size, [.int .i64 fu, .int .i64 li, .int .i64 te, .int .i64 pi]⟩] []) := S5.out.step hB
          clear hB S5
          obtain ⟨n0, n1⟩ := S6.out.b.t.t.1.c2
          obtain ⟨f0, f1⟩ := S6.out.b.t.t.1.f2
          go_wp2_with fail
          refine bodyPost_ret (v := .tuple #[.int .i64 i, .agg #[.int .i64 wh, .int .i64 ne], .bool true]) (by simp [results, Try.results23, go_sem, n0, n1]) rfl ?_
          exact ⟨rfl, (S6.out.h.setCell (by simp) _).setCell (by simp) _⟩
      have hd1 : (kd == 1) = false := by simpa using hk1
      by_cases hk2 : kd = 2
      · subst hk2
        obtain ⟨z, hz⟩ : ∃ z, z = s.pieceE := ⟨_, rfl⟩
        have HOP : Hid (s.op oo = s.piece ∧ s.opE oo = z) := ⟨by unfold MS.op; rw [if_neg (by rw [← HKD.out]; omega), if_pos HKD.out.symm], by unfold MS.opE; rw [if_neg (by rw [← HKD.out]; omega), if_pos HKD.out.symm, hz]⟩
        have HA : Hid (∀ V, Cells V b (mc s) → Calls Try.prog 14 #[.pointer (some ⟨b, 0, none⟩)] V (RetM b (mc (s.piece)) (.int .i64 z) V)) := fun V h => by rw [hz]; exact mpiece_any h HK.out
        clear hz
        go_wp2_with fail
        refine (HA.out _ S2.out.b.t.1).mono ?_
        intro e V3 h
        obtain ⟨rfl, hS⟩ := S2.out.ret [⟨g, [.int .i64 2, .slice po pn pc, .int .i64 er]⟩] [⟨w.heap.size + 1, [.int .i64 0, .int .i64 0]⟩, ⟨w.heap.size, [.int .i64 fu, .int .i64 li, .int .i64 te, .int .i64 pi]⟩] h
        have S3 : Hid (Sx w V3 [⟨g, [.int .i64 2, .slice po pn pc, .int .i64 er]⟩, ⟨b, mc (s.piece)⟩, ⟨w.heap.size + 1, [.int .i64 0, .int .i64 0]⟩, ⟨w.heap.size, [.int .i64 fu, .int .i64 li, .int .i64 te, .int .i64 pi]⟩] []) := hS
        clear hS h S2
        go_upto_region 15 with (fail)
        have HF : Hid (∀ V, Cells V b (mc (s.piece)) → Calls Try.prog 20 #[.pointer (some ⟨b, 0, none⟩)] V fun e V' => e = .returned (.int .i64 (s.piece).st) ∧ V = V') := fun V h => mfuel_any h
        have HH : Hid (∀ V, Cells V b (mc (s.piece)) → Calls Try.prog 21 #[.pointer (some ⟨b, 0, none⟩)] V fun e V' => e = .returned (.int .i64 (s.piece).pc) ∧ V = V') := fun V h => mpieces_any h
        have HN : Hid (∀ V, Cells V b (mc (s.piece)) → Calls Try.prog 22 #[.pointer (some ⟨b, 0, none⟩)] V (RetB (.agg #[.int .i64 (s.piece).wh, .int .i64 (s.piece).n]) V)) := fun V h => mneed_any h
        have HOK : Hid ((s.piece).Ok) := by rw [← HOP.out.1]; exact HK.out.op oo
        have df : decide (fu < (s.piece).st) = false := decide_eq_false (by have h1 := HOK.out.s1; have h2 := (run_fu [oo] s).1; have h3 : (s.op oo).fu = s.fu := h2; rw [HOP.out.1] at h3; have h4 := HFP.out.1; omega)
        have dp : decide (pi < (s.piece).pc) = false := decide_eq_false (by have h1 := HOK.out.c1; have h2 := (run_fu [oo] s).2.2.2; have h3 : (s.op oo).pi = s.pi := h2; rw [HOP.out.1] at h3; have h4 := HFP.out.2; omega)
        obtain ⟨z0, hz0⟩ : ∃ z, z = (s.piece).st := ⟨_, rfl⟩
        obtain ⟨z1, hz1⟩ : ∃ z, z = (s.piece).pc := ⟨_, rfl⟩
        obtain ⟨z2, hz2⟩ : ∃ z, z = (s.piece).wh := ⟨_, rfl⟩
        obtain ⟨z3, hz3⟩ : ∃ z, z = (s.piece).n := ⟨_, rfl⟩
        rw [← hz0] at HF df
        rw [← hz1] at HH dp
        rw [← hz2, ← hz3] at HN
        have HZ2 := Lib.hid hz2
        have HZ3 := Lib.hid hz3
        clear hz0 hz1 hz2 hz3
        refine wp_region_held_drew (S := fun w' => w'.cell? ⟨w.heap.size, 0, none⟩ = some (.int .i64 fu) ∧ w'.cell? ⟨w.heap.size, 1, none⟩ = some (.int .i64 li) ∧ w'.cell? ⟨w.heap.size, 2, none⟩ = some (.int .i64 te) ∧ w'.cell? ⟨w.heap.size, 3, none⟩ = some (.int .i64 pi)) (by kernel_rfl) S3.out.b.t.t.t.1.c4 (fun hH => ?_)
        refine anyH_world (fun V4 hW => ?_)
        have S4 : Hid (Sx w V4 [⟨g, [.int .i64 2, .slice po pn pc, .int .i64 er]⟩, ⟨b, mc (s.piece)⟩, ⟨w.heap.size + 1, [.int .i64 0, .int .i64 0]⟩, ⟨w.heap.size, [.int .i64 fu, .int .i64 li, .int .i64 te, .int .i64 pi]⟩] []) := by rw [hW]; exact S3.out.drew
        rw [← hW] at hH
        clear hW S3
        refine son 0 hH ?_
        try simp only [nrm]
        refine son 2 hH ?_
        try simp only [nrm]
        refine son 3 hH ?_
        try simp only [nrm]
        refine step_one 1 rfl (by kernel_rfl) (fun KK hK => ?_)
        go_simp
        refine (HF.out _ S4.out.b.t.1).mono ?_
        rintro e V40 ⟨rfl, rfl⟩
        go_wp2_with fail
        refine hK.out _ _ S4.out.b.t.t.t.1.c4 (fun h2 => ?_)
        clear hK KK hH
        have hH := h2
        clear h2
        try simp only [nrm]
        refine son 4 hH ?_
        try simp only [nrm]
        refine son 5 hH ?_
        try simp only [nrm]
        refine son 6 hH ?_
        try simp only [nrm]
        refine son 8 hH ?_
        try simp only [nrm]
        refine son 9 hH ?_
        try simp only [nrm]
        refine step_one 7 rfl (by kernel_rfl) (fun KK hK => ?_)
        go_simp
        refine (HH.out _ S4.out.b.t.1).mono ?_
        rintro e V40 ⟨rfl, rfl⟩
        go_wp2_with fail
        refine hK.out _ _ S4.out.b.t.t.t.1.c4 (fun h2 => ?_)
        clear hK KK hH
        have hH := h2
        clear h2
        try simp only [nrm]
        refine son 10 hH ?_
        try simp only [nrm]
        refine son 11 hH ?_
        try simp only [nrm]
        refine wpAnyH_done (by kernel_rfl) ?_ _
        clear hH df dp
        by_cases hz : z = 0
        · subst hz
          go_wp2_with fail
          go_roundw
          case rel => exact ⟨k + 1, by go_num, by omega, by rw [HNX.out, HOP.out.1]; exact Sx.pop S4.out, by rw [HNX.out, HOP.out.1]; exact HOK.out, HNG.out HOP.out.2, by rw [HNX.out, (op_free HOP.out.2).1]; exact HZ.out⟩
          case measure => simp [intOf]; omega
        · obtain ⟨rfl, h1, h2, h3⟩ := HST.out (by rw [HOP.out.2]; exact hz)
          rw [HOP.out.1, ← HZ2.out] at h2
          rw [HOP.out.1, ← HZ3.out] at h3
          rw [HOP.out.2] at h1
          subst h1
          obtain rfl : wh = z2 := h2.symm
          obtain rfl : ne = z3 := h3.symm
          have hzb : (wh != 0) = true := by simpa using hz
          clear hz h2 h3 HST HNG
          have hfl : ∀ (x y : Int) (W : World), (Instr.field 35 (.agg #[.int .i64 x, .int .i64 y]) 0).run Try.prog W = .ok (.int .i64 x) W := fun _ _ _ => by kernel_rfl
          go_wp2_with fail
          refine (HN.out _ S4.out.b.t.1).mono ?_
          rintro e V5 ⟨rfl, hB⟩
          have S5 : Hid (Sx w V5 [⟨g, [.int .i64 2, .slice po pn pc, .int .i64 er]⟩, ⟨b, mc (s.piece)⟩, ⟨w.heap.size + 1, [.int .i64 0, .int .i64 0]⟩, ⟨w.heap.size, [.int .i64 fu, .int .i64 li, .int .i64 te, .int .i64 pi]⟩] []) := S4.out.step hB
          clear hB S4
          go_wp2_with fail
          refine (HN.out _ S5.out.b.t.1).mono ?_
          rintro e V6 ⟨rfl, hB⟩
          have S6 : Hid (Sx w V6 [⟨g, [.int .i64 2, .slice po pn pc, .int .i64 er]⟩, ⟨b, mc (s.piece)⟩, ⟨w.heap.size + 1, [.int .i64 0, .int .i64 0]⟩, ⟨w.heap.size, [.int .i64 fu, .int .i64 li, .int .i64 te, .int .i64 pi]⟩] []) := S5.out.step hB
          clear hB S5
          obtain ⟨n0, n1⟩ := S6.out.b.t.t.1.c2
          obtain ⟨f0, f1⟩ := S6.out.b.t.t.1.f2
          go_wp2_with fail
          refine bodyPost_ret (v := .tuple #[.int .i64 i, .agg #[.int .i64 wh, .int .i64 ne], .bool true]) (by simp [results, Try.results23, go_sem, n0, n1]) rfl ?_
          exact ⟨rfl, (S6.out.h.setCell (by simp) _).setCell (by simp) _⟩
      have hd2 : (kd == 2) = false := by simpa using hk2
      by_cases hk3 : kd = 3
      · subst hk3
        obtain ⟨z, hz⟩ : ∃ z, z = s.keepE oo.2.1 := ⟨_, rfl⟩
        have HOP : Hid (s.op oo = s.keep oo.2.1 ∧ s.opE oo = z) := ⟨by unfold MS.op; rw [if_neg (by rw [← HKD.out]; omega), if_neg (by rw [← HKD.out]; omega), if_pos HKD.out.symm], by unfold MS.opE; rw [if_neg (by rw [← HKD.out]; omega), if_neg (by rw [← HKD.out]; omega), if_pos HKD.out.symm, hz]⟩
        have HA : Hid (∀ V, Cells V b (mc s) → Lp V po pn pc oo.2.1 → Calls Try.prog 16 #[.pointer (some ⟨b, 0, none⟩), .slice po pn pc] V (RetM b (mc (s.keep oo.2.1)) (.int .i64 z) V)) := fun V h hp => by rw [hz]; exact mkeep_any h hp
        clear hz
        obtain ⟨_, o1, _⟩ := S2.out.b.1.c3
        go_wp2_with fail
        refine (HA.out _ S2.out.b.t.1 (HLP.out.below S2.out.h)).mono ?_
        intro e V3 h
        obtain ⟨rfl, hS⟩ := S2.out.ret [⟨g, [.int .i64 3, .slice po pn pc, .int .i64 er]⟩] [⟨w.heap.size + 1, [.int .i64 0, .int .i64 0]⟩, ⟨w.heap.size, [.int .i64 fu, .int .i64 li, .int .i64 te, .int .i64 pi]⟩] h
        have S3 : Hid (Sx w V3 [⟨g, [.int .i64 3, .slice po pn pc, .int .i64 er]⟩, ⟨b, mc (s.keep oo.2.1)⟩, ⟨w.heap.size + 1, [.int .i64 0, .int .i64 0]⟩, ⟨w.heap.size, [.int .i64 fu, .int .i64 li, .int .i64 te, .int .i64 pi]⟩] []) := hS
        clear hS h S2
        clear o1
        go_upto_region 15 with (fail)
        have HF : Hid (∀ V, Cells V b (mc (s.keep oo.2.1)) → Calls Try.prog 20 #[.pointer (some ⟨b, 0, none⟩)] V fun e V' => e = .returned (.int .i64 (s.keep oo.2.1).st) ∧ V = V') := fun V h => mfuel_any h
        have HH : Hid (∀ V, Cells V b (mc (s.keep oo.2.1)) → Calls Try.prog 21 #[.pointer (some ⟨b, 0, none⟩)] V fun e V' => e = .returned (.int .i64 (s.keep oo.2.1).pc) ∧ V = V') := fun V h => mpieces_any h
        have HN : Hid (∀ V, Cells V b (mc (s.keep oo.2.1)) → Calls Try.prog 22 #[.pointer (some ⟨b, 0, none⟩)] V (RetB (.agg #[.int .i64 (s.keep oo.2.1).wh, .int .i64 (s.keep oo.2.1).n]) V)) := fun V h => mneed_any h
        have HOK : Hid ((s.keep oo.2.1).Ok) := by rw [← HOP.out.1]; exact HK.out.op oo
        have df : decide (fu < (s.keep oo.2.1).st) = false := decide_eq_false (by have h1 := HOK.out.s1; have h2 := (run_fu [oo] s).1; have h3 : (s.op oo).fu = s.fu := h2; rw [HOP.out.1] at h3; have h4 := HFP.out.1; omega)
        have dp : decide (pi < (s.keep oo.2.1).pc) = false := decide_eq_false (by have h1 := HOK.out.c1; have h2 := (run_fu [oo] s).2.2.2; have h3 : (s.op oo).pi = s.pi := h2; rw [HOP.out.1] at h3; have h4 := HFP.out.2; omega)
        obtain ⟨z0, hz0⟩ : ∃ z, z = (s.keep oo.2.1).st := ⟨_, rfl⟩
        obtain ⟨z1, hz1⟩ : ∃ z, z = (s.keep oo.2.1).pc := ⟨_, rfl⟩
        obtain ⟨z2, hz2⟩ : ∃ z, z = (s.keep oo.2.1).wh := ⟨_, rfl⟩
        obtain ⟨z3, hz3⟩ : ∃ z, z = (s.keep oo.2.1).n := ⟨_, rfl⟩
        rw [← hz0] at HF df
        rw [← hz1] at HH dp
        rw [← hz2, ← hz3] at HN
        have HZ2 := Lib.hid hz2
        have HZ3 := Lib.hid hz3
        clear hz0 hz1 hz2 hz3
        refine wp_region_held_drew (S := fun w' => w'.cell? ⟨w.heap.size, 0, none⟩ = some (.int .i64 fu) ∧ w'.cell? ⟨w.heap.size, 1, none⟩ = some (.int .i64 li) ∧ w'.cell? ⟨w.heap.size, 2, none⟩ = some (.int .i64 te) ∧ w'.cell? ⟨w.heap.size, 3, none⟩ = some (.int .i64 pi)) (by kernel_rfl) S3.out.b.t.t.t.1.c4 (fun hH => ?_)
        refine anyH_world (fun V4 hW => ?_)
        have S4 : Hid (Sx w V4 [⟨g, [.int .i64 3, .slice po pn pc, .int .i64 er]⟩, ⟨b, mc (s.keep oo.2.1)⟩, ⟨w.heap.size + 1, [.int .i64 0, .int .i64 0]⟩, ⟨w.heap.size, [.int .i64 fu, .int .i64 li, .int .i64 te, .int .i64 pi]⟩] []) := by rw [hW]; exact S3.out.drew
        rw [← hW] at hH
        clear hW S3
        refine son 0 hH ?_
        try simp only [nrm]
        refine son 2 hH ?_
        try simp only [nrm]
        refine son 3 hH ?_
        try simp only [nrm]
        refine step_one 1 rfl (by kernel_rfl) (fun KK hK => ?_)
        go_simp
        refine (HF.out _ S4.out.b.t.1).mono ?_
        rintro e V40 ⟨rfl, rfl⟩
        go_wp2_with fail
        refine hK.out _ _ S4.out.b.t.t.t.1.c4 (fun h2 => ?_)
        clear hK KK hH
        have hH := h2
        clear h2
        try simp only [nrm]
        refine son 4 hH ?_
        try simp only [nrm]
        refine son 5 hH ?_
        try simp only [nrm]
        refine son 6 hH ?_
        try simp only [nrm]
        refine son 8 hH ?_
        try simp only [nrm]
        refine son 9 hH ?_
        try simp only [nrm]
        refine step_one 7 rfl (by kernel_rfl) (fun KK hK => ?_)
        go_simp
        refine (HH.out _ S4.out.b.t.1).mono ?_
        rintro e V40 ⟨rfl, rfl⟩
        go_wp2_with fail
        refine hK.out _ _ S4.out.b.t.t.t.1.c4 (fun h2 => ?_)
        clear hK KK hH
        have hH := h2
        clear h2
        try simp only [nrm]
        refine son 10 hH ?_
        try simp only [nrm]
        refine son 11 hH ?_
        try simp only [nrm]
        refine wpAnyH_done (by kernel_rfl) ?_ _
        clear hH df dp
        by_cases hz : z = 0
        · subst hz
          go_wp2_with fail
          go_roundw
          case rel => exact ⟨k + 1, by go_num, by omega, by rw [HNX.out, HOP.out.1]; exact Sx.pop S4.out, by rw [HNX.out, HOP.out.1]; exact HOK.out, HNG.out HOP.out.2, by rw [HNX.out, (op_free HOP.out.2).1]; exact HZ.out⟩
          case measure => simp [intOf]; omega
        · obtain ⟨rfl, h1, h2, h3⟩ := HST.out (by rw [HOP.out.2]; exact hz)
          rw [HOP.out.1, ← HZ2.out] at h2
          rw [HOP.out.1, ← HZ3.out] at h3
          rw [HOP.out.2] at h1
          subst h1
          obtain rfl : wh = z2 := h2.symm
          obtain rfl : ne = z3 := h3.symm
          have hzb : (wh != 0) = true := by simpa using hz
          clear hz h2 h3 HST HNG
          have hfl : ∀ (x y : Int) (W : World), (Instr.field 35 (.agg #[.int .i64 x, .int .i64 y]) 0).run Try.prog W = .ok (.int .i64 x) W := fun _ _ _ => by kernel_rfl
          go_wp2_with fail
          refine (HN.out _ S4.out.b.t.1).mono ?_
          rintro e V5 ⟨rfl, hB⟩
          have S5 : Hid (Sx w V5 [⟨g, [.int .i64 3, .slice po pn pc, .int .i64 er]⟩, ⟨b, mc (s.keep oo.2.1)⟩, ⟨w.heap.size + 1, [.int .i64 0, .int .i64 0]⟩, ⟨w.heap.size, [.int .i64 fu, .int .i64 li, .int .i64 te, .int .i64 pi]⟩] []) := S4.out.step hB
          clear hB S4
          go_wp2_with fail
          refine (HN.out _ S5.out.b.t.1).mono ?_
          rintro e V6 ⟨rfl, hB⟩
          have S6 : Hid (Sx w V6 [⟨g, [.int .i64 3, .slice po pn pc, .int .i64 er]⟩, ⟨b, mc (s.keep oo.2.1)⟩, ⟨w.heap.size + 1, [.int .i64 0, .int .i64 0]⟩, ⟨w.heap.size, [.int .i64 fu, .int .i64 li, .int .i64 te, .int .i64 pi]⟩] []) := S5.out.step hB
          clear hB S5
          obtain ⟨n0, n1⟩ := S6.out.b.t.t.1.c2
          obtain ⟨f0, f1⟩ := S6.out.b.t.t.1.f2
          go_wp2_with fail
          refine bodyPost_ret (v := .tuple #[.int .i64 i, .agg #[.int .i64 wh, .int .i64 ne], .bool true]) (by simp [results, Try.results23, go_sem, n0, n1]) rfl ?_
          exact ⟨rfl, (S6.out.h.setCell (by simp) _).setCell (by simp) _⟩
      have hd3 : (kd == 3) = false := by simpa using hk3
      have HOP : Hid (s.op oo = s ∧ s.opE oo = 0) := by
        rw [HKD.out] at hk1 hk2 hk3
        exact ⟨by unfold MS.op; rw [if_neg hk1, if_neg hk2, if_neg hk3], by unfold MS.opE; rw [if_neg hk1, if_neg hk2, if_neg hk3]⟩
      clear hk1 hk2 hk3
      go_upto_region 15 with (fail)
      have HF : Hid (∀ V, Cells V b (mc (s)) → Calls Try.prog 20 #[.pointer (some ⟨b, 0, none⟩)] V fun e V' => e = .returned (.int .i64 (s).st) ∧ V = V') := fun V h => mfuel_any h
      have HH : Hid (∀ V, Cells V b (mc (s)) → Calls Try.prog 21 #[.pointer (some ⟨b, 0, none⟩)] V fun e V' => e = .returned (.int .i64 (s).pc) ∧ V = V') := fun V h => mpieces_any h
      have HN : Hid (∀ V, Cells V b (mc (s)) → Calls Try.prog 22 #[.pointer (some ⟨b, 0, none⟩)] V (RetB (.agg #[.int .i64 (s).wh, .int .i64 (s).n]) V)) := fun V h => mneed_any h
      have HOK : Hid ((s).Ok) := by rw [← HOP.out.1]; exact HK.out.op oo
      have df : decide (fu < (s).st) = false := decide_eq_false (by have h1 := HOK.out.s1; have h2 := (run_fu [oo] s).1; have h3 : (s.op oo).fu = s.fu := h2; rw [HOP.out.1] at h3; have h4 := HFP.out.1; omega)
      have dp : decide (pi < (s).pc) = false := decide_eq_false (by have h1 := HOK.out.c1; have h2 := (run_fu [oo] s).2.2.2; have h3 : (s.op oo).pi = s.pi := h2; rw [HOP.out.1] at h3; have h4 := HFP.out.2; omega)
      obtain ⟨z0, hz0⟩ : ∃ z, z = (s).st := ⟨_, rfl⟩
      obtain ⟨z1, hz1⟩ : ∃ z, z = (s).pc := ⟨_, rfl⟩
      obtain ⟨z2, hz2⟩ : ∃ z, z = (s).wh := ⟨_, rfl⟩
      obtain ⟨z3, hz3⟩ : ∃ z, z = (s).n := ⟨_, rfl⟩
      rw [← hz0] at HF df
      rw [← hz1] at HH dp
      rw [← hz2, ← hz3] at HN
      have HZ2 := Lib.hid hz2
      have HZ3 := Lib.hid hz3
      clear hz0 hz1 hz2 hz3
      refine wp_region_held_drew (S := fun w' => w'.cell? ⟨w.heap.size, 0, none⟩ = some (.int .i64 fu) ∧ w'.cell? ⟨w.heap.size, 1, none⟩ = some (.int .i64 li) ∧ w'.cell? ⟨w.heap.size, 2, none⟩ = some (.int .i64 te) ∧ w'.cell? ⟨w.heap.size, 3, none⟩ = some (.int .i64 pi)) (by kernel_rfl) S2.out.b.t.t.t.1.c4 (fun hH => ?_)
      refine anyH_world (fun V3 hW => ?_)
      have S3 : Hid (Sx w V3 [⟨g, [.int .i64 kd, .slice po pn pc, .int .i64 er]⟩, ⟨b, mc s⟩, ⟨w.heap.size + 1, [.int .i64 0, .int .i64 0]⟩, ⟨w.heap.size, [.int .i64 fu, .int .i64 li, .int .i64 te, .int .i64 pi]⟩] []) := by rw [hW]; exact S2.out.drew
      rw [← hW] at hH
      clear hW S2
      refine son 0 hH ?_
      try simp only [nrm]
      refine son 2 hH ?_
      try simp only [nrm]
      refine son 3 hH ?_
      try simp only [nrm]
      refine step_one 1 rfl (by kernel_rfl) (fun KK hK => ?_)
      go_simp
      refine (HF.out _ S3.out.b.t.1).mono ?_
      rintro e V30 ⟨rfl, rfl⟩
      go_wp2_with fail
      refine hK.out _ _ S3.out.b.t.t.t.1.c4 (fun h2 => ?_)
      clear hK KK hH
      have hH := h2
      clear h2
      try simp only [nrm]
      refine son 4 hH ?_
      try simp only [nrm]
      refine son 5 hH ?_
      try simp only [nrm]
      refine son 6 hH ?_
      try simp only [nrm]
      refine son 8 hH ?_
      try simp only [nrm]
      refine son 9 hH ?_
      try simp only [nrm]
      refine step_one 7 rfl (by kernel_rfl) (fun KK hK => ?_)
      go_simp
      refine (HH.out _ S3.out.b.t.1).mono ?_
      rintro e V30 ⟨rfl, rfl⟩
      go_wp2_with fail
      refine hK.out _ _ S3.out.b.t.t.t.1.c4 (fun h2 => ?_)
      clear hK KK hH
      have hH := h2
      clear h2
      try simp only [nrm]
      refine son 10 hH ?_
      try simp only [nrm]
      refine son 11 hH ?_
      try simp only [nrm]
      refine wpAnyH_done (by kernel_rfl) ?_ _
      clear hH df dp
      go_wp2_with fail
      go_roundw
      case rel => exact ⟨k + 1, by go_num, by omega, by rw [HNX.out, HOP.out.1]; exact Sx.pop S3.out, by rw [HNX.out, HOP.out.1]; exact HOK.out, HNG.out HOP.out.2, by rw [HNX.out, HOP.out.1]; exact HZ.out⟩
      case measure => simp [intOf]; omega
    · obtain rfl : k = n := by omega
      have e := runP_end HR.out.2.2.1
      rw [List.take_of_length_le (by rw [HL.out]; exact Nat.le_refl _), HRU.out, HL.out] at e
      simp only [Prod.mk.injEq] at e
      obtain ⟨rfl, rfl, rfl⟩ := e
      have SB : Hid (Cells wr (w.heap.size + 1) [.int .i64 0, .int .i64 0] ∧ Below w.heap.size w wr) := ⟨HR.out.1.b.t.1, HR.out.1.h⟩
      clear HR
      obtain ⟨n0, n1⟩ := SB.out.1.c2
      obtain ⟨f0, f1⟩ := SB.out.1.f2
      go_wp2_with fail
      refine bodyPost_ret (v := .tuple #[.int .i64 i, .agg #[.int .i64 0, .int .i64 0], .bool true]) (by simp [results, Try.results23, go_sem, n0, n1]) rfl ?_
      exact ⟨rfl, (SB.out.2.setCell (by simp) _).setCell (by simp) _⟩
end Go.Proofs.Ythllkgjgakeinaa
/-
  MeterNeeds: what is refused first is not refused by a limit as great as Need tells.
-/
import Derived.Test.YthllkgjgakeinaaMtRun
set_option maxRecDepth 8192
namespace Go.Proofs.Ythllkgjgakeinaa
open Go.RowKit
theorem mrun_any {ao : Option Addr} {n cap : Nat} {l : List MOp} {w : World} (h : Lo w ao n cap l) (fu li te pi : Int) : ∃ (i : Nat) (wh ne : Int), i ≤ n ∧ (∀ V : World, Below w.heap.size w V → Calls Try.prog 23 #[.agg #[.int .i64 fu, .int .i64 li, .int .i64 te, .int .i64 pi], .slice ao n cap] V (RetB (.tuple #[.int .i64 i, .agg #[.int .i64 wh, .int .i64 ne], .bool true]) V)) ∧
    (wh ≠ 0 → mayL fu li te pi = true) ∧ (mayL fu li te pi = true → runP (MS.new fu li te pi) l = (i, wh, ne)) := by
  cases hm : mayL fu li te pi with
  | false => exact ⟨0, 0, 0, Nat.zero_le _, fun V _ => mrun_no hm, fun h => absurd rfl h, fun h => by cases h⟩
  | true =>
    exact ⟨(runP (MS.new fu li te pi) l).1, (runP (MS.new fu li te pi) l).2.1, (runP (MS.new fu li te pi) l).2.2, by have := runP_len l (MS.new fu li te pi); rw [h.len] at this; exact this, fun V hV => mrun_yes hm (h.below hV) rfl, fun _ => rfl, fun _ => rfl⟩
set_option maxHeartbeats 16000000 in
set_option maxRecDepth 100000 in
theorem meterNeeds_any {fu li te pi : Int} {ao : Option Addr} {n cap : Nat} {l : List MOp} {w : World} (h : Lo w ao n cap l) : Calls Try.prog 4 #[.agg #[.int .i64 fu, .int .i64 li, .int .i64 te, .int .i64 pi], .slice ao n cap] w (RetB (.bool true) w) := by
  obtain ⟨i, wh, ne, hi, hrun, hmay, hrp⟩ := mrun_any h fu li te pi
  have HP := Lib.hid h
  have HL := Lib.hid h.len
  have hbig := h.big
  have HRUN := Lib.hid hrun
  have HMAY := Lib.hid (And.intro hmay hrp)
  clear h hrun hmay hrp
  go_enter Try.func4, Try.ntmps4
  go_upto_region 1 with (fail)
  refine wp_world (fun V1 hV => ?_)
  have S1 : Hid (Sx w V1 [⟨w.heap.size, [.int .i64 fu, .int .i64 li, .int .i64 te, .int .i64 pi]⟩] []) := by
    rw [hV]
    exact Sx.var (Sx.start (N := []) trivial) w.heap.size _ 23 rfl
  clear hV
  go_wp2_with fail
  refine (mgreat_any (HP.out.below S1.out.h)).mono ?_
  rintro e V10 ⟨r, rfl, rfl⟩
  cases r with
  | true =>
    go_wp2_with fail
    refine (mknown_any _).mono ?_
    rintro e V2 ⟨rfl, hB⟩
    have S2 : Hid (Sx w V2 [⟨w.heap.size, [.int .i64 fu, .int .i64 li, .int .i64 te, .int .i64 pi]⟩] []) := S1.out.step hB
    clear hB S1
    go_wp2_with fail
    go_ret
    exact ⟨rfl, S2.out.h⟩
  | false =>
    obtain ⟨x0, x1, x2, x3⟩ := S1.out.b.1.c4
    go_wp2_with fail
    refine (HRUN.out _ S1.out.h).mono ?_
    rintro e V2 ⟨rfl, hB⟩
    have S2 : Hid (Sx w V2 [⟨w.heap.size, [.int .i64 fu, .int .i64 li, .int .i64 te, .int .i64 pi]⟩] []) := S1.out.step hB
    clear hB S1
    clear x0 x1 x2 x3
    go_upto_region 4 with (fail)
    refine wp_world (fun V3 hV => ?_)
    obtain ⟨g, hg⟩ : ∃ g, g = V2.heap.size := ⟨_, rfl⟩
    have S3 : Hid (Sx w V3 [⟨g, [.int .i64 wh, .int .i64 ne]⟩, ⟨w.heap.size, [.int .i64 fu, .int .i64 li, .int .i64 te, .int .i64 pi]⟩] []) := by
      rw [hV]
      exact S2.out.var g _ 35 hg
    rw [← hg]
    clear hV hg S2
    obtain ⟨n0, n1⟩ := S3.out.b.1.c2
    skip
    by_cases hk9 : wh = 9
    · subst hk9
      obtain ⟨x0, x1, x2, x3⟩ := S3.out.b.t.1.c4
      obtain ⟨f0, f1, f2, f3⟩ := S3.out.b.t.1.f4
      obtain ⟨j, wh2, ne2, hj, hrun2, hmay2, hrp2⟩ := mrun_any HP.out ne li te pi
      have HRUN2 := Lib.hid hrun2
      have HMAY2 := Lib.hid (And.intro hmay2 hrp2)
      clear hrun2 hmay2 hrp2
      go_upto_region 16 with (fail)
      refine wp_world (fun V4 hV => ?_)
      have S4 : Hid (Sx w V4 [⟨g, [.int .i64 9, .int .i64 ne]⟩, ⟨w.heap.size, [.int .i64 ne, .int .i64 li, .int .i64 te, .int .i64 pi]⟩] []) := by rw [hV]; exact S3.out.set [⟨g, [.int .i64 9, .int .i64 ne]⟩] [] 0 _
      clear hV x0 x1 x2 x3 f0 f1 f2 f3 n0 n1 S3
      obtain ⟨x0, x1, x2, x3⟩ := S4.out.b.t.1.c4
      obtain ⟨n0, n1⟩ := S4.out.b.1.c2
      cases hm2 : mayL ne li te pi with
      | false =>
        go_wp2_with fail
        refine (mnew_no hm2).mono ?_
        rintro e V5 ⟨rfl, hB⟩
        have S5 : Hid (Sx w V5 [⟨g, [.int .i64 9, .int .i64 ne]⟩, ⟨w.heap.size, [.int .i64 ne, .int .i64 li, .int .i64 te, .int .i64 pi]⟩] []) := S4.out.step hB
        clear hB S4
        go_wp2_with fail
        refine (mknown_any _).mono ?_
        rintro e V6 ⟨rfl, hB⟩
        have S6 : Hid (Sx w V6 [⟨g, [.int .i64 9, .int .i64 ne]⟩, ⟨w.heap.size, [.int .i64 ne, .int .i64 li, .int .i64 te, .int .i64 pi]⟩] []) := S5.out.step hB
        clear hB S5
        go_wp2_with fail
        go_ret
        exact ⟨rfl, S6.out.h⟩
      | true =>
        have hs := second_run (mayL_ok (HMAY.out.1 (by omega))) rfl (HMAY.out.2 (HMAY.out.1 (by omega))) (by omega) (j := j) (wh2 := wh2) (n2 := ne2) (by rw [more_new]; simpa using HMAY2.out.2 hm2)
        have hw1 : IntKind.i64.wrap ((i : Int) - 1) = (i : Int) - 1 := IntWalk.i64_in _ ⟨by omega, by omega⟩
        have hd1 : decide ((i : Int) - 1 < (j : Int)) = true := decide_eq_true (by have := hs.1; omega)
        go_wp2_with fail
        refine (mnew_yes hm2).mono ?_
        rintro e V5 ⟨b, rfl, hC, hb, hB⟩
        have S5 : Hid (Sx w V5 [⟨g, [.int .i64 9, .int .i64 ne]⟩, ⟨w.heap.size, [.int .i64 ne, .int .i64 li, .int .i64 te, .int .i64 pi]⟩] []) := S4.out.step hB
        clear hC hb hB S4 x0 x1 x2 x3 n0 n1
        obtain ⟨x0, x1, x2, x3⟩ := S5.out.b.t.1.c4
        go_wp2_with fail
        refine (HRUN2.out _ S5.out.h).mono ?_
        rintro e V6 ⟨rfl, hB⟩
        have S6 : Hid (Sx w V6 [⟨g, [.int .i64 9, .int .i64 ne]⟩, ⟨w.heap.size, [.int .i64 ne, .int .i64 li, .int .i64 te, .int .i64 pi]⟩] []) := S5.out.step hB
        clear hB S5
        clear x0 x1 x2 x3
        go_upto_region 20 with (fail)
        refine wp_world (fun V7 hV => ?_)
        have S7 : Hid (Sx w V7 [⟨g, [.int .i64 9, .int .i64 ne]⟩, ⟨w.heap.size, [.int .i64 ne, .int .i64 li, .int .i64 te, .int .i64 pi]⟩] []) := by rw [hV]; exact S6.out.step (below_alloc _ _)
        clear hV S6
        have hlt : i < j := by have := hs.2.1; omega
        have hd2 : decide (i < j) = true := decide_eq_true hlt
        clear hs
        go_wp2_with fail
        refine (mknown_any _).mono ?_
        rintro e V8 ⟨rfl, hB⟩
        have S8 : Hid (Sx w V8 [⟨g, [.int .i64 9, .int .i64 ne]⟩, ⟨w.heap.size, [.int .i64 ne, .int .i64 li, .int .i64 te, .int .i64 pi]⟩] []) := S7.out.step hB
        clear hB S7
        go_wp2_with fail
        go_ret
        exact ⟨rfl, S8.out.h⟩
    have hd9 : (wh == 9) = false := by simpa using hk9
    by_cases hk10 : wh = 10
    · subst hk10
      obtain ⟨x0, x1, x2, x3⟩ := S3.out.b.t.1.c4
      obtain ⟨f0, f1, f2, f3⟩ := S3.out.b.t.1.f4
      obtain ⟨j, wh2, ne2, hj, hrun2, hmay2, hrp2⟩ := mrun_any HP.out fu ne te pi
      have HRUN2 := Lib.hid hrun2
      have HMAY2 := Lib.hid (And.intro hmay2 hrp2)
      clear hrun2 hmay2 hrp2
      go_upto_region 16 with (fail)
      refine wp_world (fun V4 hV => ?_)
      have S4 : Hid (Sx w V4 [⟨g, [.int .i64 10, .int .i64 ne]⟩, ⟨w.heap.size, [.int .i64 fu, .int .i64 ne, .int .i64 te, .int .i64 pi]⟩] []) := by rw [hV]; exact S3.out.set [⟨g, [.int .i64 10, .int .i64 ne]⟩] [] 1 _
      clear hV x0 x1 x2 x3 f0 f1 f2 f3 n0 n1 S3
      obtain ⟨x0, x1, x2, x3⟩ := S4.out.b.t.1.c4
      obtain ⟨n0, n1⟩ := S4.out.b.1.c2
      cases hm2 : mayL fu ne te pi with
      | false =>
        go_wp2_with fail
        refine (mnew_no hm2).mono ?_
        rintro e V5 ⟨rfl, hB⟩
        have S5 : Hid (Sx w V5 [⟨g, [.int .i64 10, .int .i64 ne]⟩, ⟨w.heap.size, [.int .i64 fu, .int .i64 ne, .int .i64 te, .int .i64 pi]⟩] []) := S4.out.step hB
        clear hB S4
        go_wp2_with fail
        refine (mknown_any _).mono ?_
        rintro e V6 ⟨rfl, hB⟩
        have S6 : Hid (Sx w V6 [⟨g, [.int .i64 10, .int .i64 ne]⟩, ⟨w.heap.size, [.int .i64 fu, .int .i64 ne, .int .i64 te, .int .i64 pi]⟩] []) := S5.out.step hB
        clear hB S5
        go_wp2_with fail
        go_ret
        exact ⟨rfl, S6.out.h⟩
      | true =>
        have hs := second_run (mayL_ok (HMAY.out.1 (by omega))) rfl (HMAY.out.2 (HMAY.out.1 (by omega))) (by omega) (j := j) (wh2 := wh2) (n2 := ne2) (by rw [more_new]; simpa using HMAY2.out.2 hm2)
        have hw1 : IntKind.i64.wrap ((i : Int) - 1) = (i : Int) - 1 := IntWalk.i64_in _ ⟨by omega, by omega⟩
        have hd1 : decide ((i : Int) - 1 < (j : Int)) = true := decide_eq_true (by have := hs.1; omega)
        go_wp2_with fail
        refine (mnew_yes hm2).mono ?_
        rintro e V5 ⟨b, rfl, hC, hb, hB⟩
        have S5 : Hid (Sx w V5 [⟨g, [.int .i64 10, .int .i64 ne]⟩, ⟨w.heap.size, [.int .i64 fu, .int .i64 ne, .int .i64 te, .int .i64 pi]⟩] []) := S4.out.step hB
        clear hC hb hB S4 x0 x1 x2 x3 n0 n1
        obtain ⟨x0, x1, x2, x3⟩ := S5.out.b.t.1.c4
        go_wp2_with fail
        refine (HRUN2.out _ S5.out.h).mono ?_
        rintro e V6 ⟨rfl, hB⟩
        have S6 : Hid (Sx w V6 [⟨g, [.int .i64 10, .int .i64 ne]⟩, ⟨w.heap.size, [.int .i64 fu, .int .i64 ne, .int .i64 te, .int .i64 pi]⟩] []) := S5.out.step hB
        clear hB S5
        clear x0 x1 x2 x3
        go_upto_region 20 with (fail)
        refine wp_world (fun V7 hV => ?_)
        have S7 : Hid (Sx w V7 [⟨g, [.int .i64 10, .int .i64 ne]⟩, ⟨w.heap.size, [.int .i64 fu, .int .i64 ne, .int .i64 te, .int .i64 pi]⟩] []) := by rw [hV]; exact S6.out.step (below_alloc _ _)
        clear hV S6
        obtain ⟨n0, n1⟩ := S7.out.b.1.c2
        clear hs
        by_cases hlt : i < j
        · have hd2 : decide (i < j) = true := decide_eq_true hlt
          go_wp2_with fail
          refine (mknown_any _).mono ?_
          rintro e V8 ⟨rfl, hB⟩
          have S8 : Hid (Sx w V8 [⟨g, [.int .i64 10, .int .i64 ne]⟩, ⟨w.heap.size, [.int .i64 fu, .int .i64 ne, .int .i64 te, .int .i64 pi]⟩] []) := S7.out.step hB
          clear hB S7
          go_wp2_with fail
          go_ret
          exact ⟨rfl, S8.out.h⟩
        · have hd2 : decide (i < j) = false := decide_eq_false hlt
          go_wp2_with fail
          refine (mknown_any _).mono ?_
          rintro e V8 ⟨rfl, hB⟩
          have S8 : Hid (Sx w V8 [⟨g, [.int .i64 10, .int .i64 ne]⟩, ⟨w.heap.size, [.int .i64 fu, .int .i64 ne, .int .i64 te, .int .i64 pi]⟩] []) := S7.out.step hB
          clear hB S7
          go_wp2_with fail
          go_ret
          exact ⟨rfl, S8.out.h⟩
    have hd10 : (wh == 10) = false := by simpa using hk10
    by_cases hk11 : wh = 11
    · subst hk11
      obtain ⟨x0, x1, x2, x3⟩ := S3.out.b.t.1.c4
      obtain ⟨f0, f1, f2, f3⟩ := S3.out.b.t.1.f4
      obtain ⟨j, wh2, ne2, hj, hrun2, hmay2, hrp2⟩ := mrun_any HP.out fu li ne pi
      have HRUN2 := Lib.hid hrun2
      have HMAY2 := Lib.hid (And.intro hmay2 hrp2)
      clear hrun2 hmay2 hrp2
      go_upto_region 16 with (fail)
      refine wp_world (fun V4 hV => ?_)
      have S4 : Hid (Sx w V4 [⟨g, [.int .i64 11, .int .i64 ne]⟩, ⟨w.heap.size, [.int .i64 fu, .int .i64 li, .int .i64 ne, .int .i64 pi]⟩] []) := by rw [hV]; exact S3.out.set [⟨g, [.int .i64 11, .int .i64 ne]⟩] [] 2 _
      clear hV x0 x1 x2 x3 f0 f1 f2 f3 n0 n1 S3
      obtain ⟨x0, x1, x2, x3⟩ := S4.out.b.t.1.c4
      obtain ⟨n0, n1⟩ := S4.out.b.1.c2
      cases hm2 : mayL fu li ne pi with
      | false =>
        go_wp2_with fail
        refine (mnew_no hm2).mono ?_
        rintro e V5 ⟨rfl, hB⟩
        have S5 : Hid (Sx w V5 [⟨g, [.int .i64 11, .int .i64 ne]⟩, ⟨w.heap.size, [.int .i64 fu, .int .i64 li, .int .i64 ne, .int .i64 pi]⟩] []) := S4.out.step hB
        clear hB S4
        go_wp2_with fail
        refine (mknown_any _).mono ?_
        rintro e V6 ⟨rfl, hB⟩
        have S6 : Hid (Sx w V6 [⟨g, [.int .i64 11, .int .i64 ne]⟩, ⟨w.heap.size, [.int .i64 fu, .int .i64 li, .int .i64 ne, .int .i64 pi]⟩] []) := S5.out.step hB
        clear hB S5
        go_wp2_with fail
        go_ret
        exact ⟨rfl, S6.out.h⟩
      | true =>
        have hs := second_run (mayL_ok (HMAY.out.1 (by omega))) rfl (HMAY.out.2 (HMAY.out.1 (by omega))) (by omega) (j := j) (wh2 := wh2) (n2 := ne2) (by rw [more_new]; simpa using HMAY2.out.2 hm2)
        have hw1 : IntKind.i64.wrap ((i : Int) - 1) = (i : Int) - 1 := IntWalk.i64_in _ ⟨by omega, by omega⟩
        have hd1 : decide ((i : Int) - 1 < (j : Int)) = true := decide_eq_true (by have := hs.1; omega)
        go_wp2_with fail
        refine (mnew_yes hm2).mono ?_
        rintro e V5 ⟨b, rfl, hC, hb, hB⟩
        have S5 : Hid (Sx w V5 [⟨g, [.int .i64 11, .int .i64 ne]⟩, ⟨w.heap.size, [.int .i64 fu, .int .i64 li, .int .i64 ne, .int .i64 pi]⟩] []) := S4.out.step hB
        clear hC hb hB S4 x0 x1 x2 x3 n0 n1
        obtain ⟨x0, x1, x2, x3⟩ := S5.out.b.t.1.c4
        go_wp2_with fail
        refine (HRUN2.out _ S5.out.h).mono ?_
        rintro e V6 ⟨rfl, hB⟩
        have S6 : Hid (Sx w V6 [⟨g, [.int .i64 11, .int .i64 ne]⟩, ⟨w.heap.size, [.int .i64 fu, .int .i64 li, .int .i64 ne, .int .i64 pi]⟩] []) := S5.out.step hB
        clear hB S5
        clear x0 x1 x2 x3
        go_upto_region 20 with (fail)
        refine wp_world (fun V7 hV => ?_)
        have S7 : Hid (Sx w V7 [⟨g, [.int .i64 11, .int .i64 ne]⟩, ⟨w.heap.size, [.int .i64 fu, .int .i64 li, .int .i64 ne, .int .i64 pi]⟩] []) := by rw [hV]; exact S6.out.step (below_alloc _ _)
        clear hV S6
        have hlt : i < j := by have := hs.2.1; omega
        have hd2 : decide (i < j) = true := decide_eq_true hlt
        clear hs
        go_wp2_with fail
        refine (mknown_any _).mono ?_
        rintro e V8 ⟨rfl, hB⟩
        have S8 : Hid (Sx w V8 [⟨g, [.int .i64 11, .int .i64 ne]⟩, ⟨w.heap.size, [.int .i64 fu, .int .i64 li, .int .i64 ne, .int .i64 pi]⟩] []) := S7.out.step hB
        clear hB S7
        go_wp2_with fail
        go_ret
        exact ⟨rfl, S8.out.h⟩
    have hd11 : (wh == 11) = false := by simpa using hk11
    by_cases hk12 : wh = 12
    · subst hk12
      obtain ⟨x0, x1, x2, x3⟩ := S3.out.b.t.1.c4
      obtain ⟨f0, f1, f2, f3⟩ := S3.out.b.t.1.f4
      obtain ⟨j, wh2, ne2, hj, hrun2, hmay2, hrp2⟩ := mrun_any HP.out fu li te ne
      have HRUN2 := Lib.hid hrun2
      have HMAY2 := Lib.hid (And.intro hmay2 hrp2)
      clear hrun2 hmay2 hrp2
      go_upto_region 16 with (fail)
      refine wp_world (fun V4 hV => ?_)
      have S4 : Hid (Sx w V4 [⟨g, [.int .i64 12, .int .i64 ne]⟩, ⟨w.heap.size, [.int .i64 fu, .int .i64 li, .int .i64 te, .int .i64 ne]⟩] []) := by rw [hV]; exact S3.out.set [⟨g, [.int .i64 12, .int .i64 ne]⟩] [] 3 _
      clear hV x0 x1 x2 x3 f0 f1 f2 f3 n0 n1 S3
      obtain ⟨x0, x1, x2, x3⟩ := S4.out.b.t.1.c4
      obtain ⟨n0, n1⟩ := S4.out.b.1.c2
      cases hm2 : mayL fu li te ne with
      | false =>
        go_wp2_with fail
        refine (mnew_no hm2).mono ?_
        rintro e V5 ⟨rfl, hB⟩
        have S5 : Hid (Sx w V5 [⟨g, [.int .i64 12, .int .i64 ne]⟩, ⟨w.heap.size, [.int .i64 fu, .int .i64 li, .int .i64 te, .int .i64 ne]⟩] []) := S4.out.step hB
        clear hB S4
        go_wp2_with fail
        refine (mknown_any _).mono ?_
        rintro e V6 ⟨rfl, hB⟩
        have S6 : Hid (Sx w V6 [⟨g, [.int .i64 12, .int .i64 ne]⟩, ⟨w.heap.size, [.int .i64 fu, .int .i64 li, .int .i64 te, .int .i64 ne]⟩] []) := S5.out.step hB
        clear hB S5
        go_wp2_with fail
        go_ret
        exact ⟨rfl, S6.out.h⟩
      | true =>
        have hs := second_run (mayL_ok (HMAY.out.1 (by omega))) rfl (HMAY.out.2 (HMAY.out.1 (by omega))) (by omega) (j := j) (wh2 := wh2) (n2 := ne2) (by rw [more_new]; simpa using HMAY2.out.2 hm2)
        have hw1 : IntKind.i64.wrap ((i : Int) - 1) = (i : Int) - 1 := IntWalk.i64_in _ ⟨by omega, by omega⟩
        have hd1 : decide ((i : Int) - 1 < (j : Int)) = true := decide_eq_true (by have := hs.1; omega)
        go_wp2_with fail
        refine (mnew_yes hm2).mono ?_
        rintro e V5 ⟨b, rfl, hC, hb, hB⟩
        have S5 : Hid (Sx w V5 [⟨g, [.int .i64 12, .int .i64 ne]⟩, ⟨w.heap.size, [.int .i64 fu, .int .i64 li, .int .i64 te, .int .i64 ne]⟩] []) := S4.out.step hB
        clear hC hb hB S4 x0 x1 x2 x3 n0 n1
        obtain ⟨x0, x1, x2, x3⟩ := S5.out.b.t.1.c4
        go_wp2_with fail
        refine (HRUN2.out _ S5.out.h).mono ?_
        rintro e V6 ⟨rfl, hB⟩
        have S6 : Hid (Sx w V6 [⟨g, [.int .i64 12, .int .i64 ne]⟩, ⟨w.heap.size, [.int .i64 fu, .int .i64 li, .int .i64 te, .int .i64 ne]⟩] []) := S5.out.step hB
        clear hB S5
        clear x0 x1 x2 x3
        go_upto_region 20 with (fail)
        refine wp_world (fun V7 hV => ?_)
        have S7 : Hid (Sx w V7 [⟨g, [.int .i64 12, .int .i64 ne]⟩, ⟨w.heap.size, [.int .i64 fu, .int .i64 li, .int .i64 te, .int .i64 ne]⟩] []) := by rw [hV]; exact S6.out.step (below_alloc _ _)
        clear hV S6
        have hlt : i < j := by have := hs.2.1; omega
        have hd2 : decide (i < j) = true := decide_eq_true hlt
        clear hs
        go_wp2_with fail
        refine (mknown_any _).mono ?_
        rintro e V8 ⟨rfl, hB⟩
        have S8 : Hid (Sx w V8 [⟨g, [.int .i64 12, .int .i64 ne]⟩, ⟨w.heap.size, [.int .i64 fu, .int .i64 li, .int .i64 te, .int .i64 ne]⟩] []) := S7.out.step hB
        clear hB S7
        go_wp2_with fail
        go_ret
        exact ⟨rfl, S8.out.h⟩
    have hd12 : (wh == 12) = false := by simpa using hk12
    go_wp2_with fail
    refine (mknown_any _).mono ?_
    rintro e V4 ⟨rfl, hB⟩
    have S4 : Hid (Sx w V4 [⟨g, [.int .i64 wh, .int .i64 ne]⟩, ⟨w.heap.size, [.int .i64 fu, .int .i64 li, .int .i64 te, .int .i64 pi]⟩] []) := S3.out.step hB
    clear hB S3
    go_wp2_with fail
    go_ret
    exact ⟨rfl, S4.out.h⟩
end Go.Proofs.Ythllkgjgakeinaa
/-
  The law PseudoBounds.
-/
import Derived.Test.YtodcddkiodmklaaGreatPsY
set_option maxHeartbeats 40000000
set_option maxRecDepth 100000
namespace Go.Proofs.YtodcddkiodmklaaGreat
open Lib (hid)
open Go.RowKit
theorem pbd_no [Ol] {fu li te pi : Int} {ao bo : Option Addr} {n cap m cb : Nat} {ps qs : List Raw} {w : World} (v : Int) (hp : Pr w ao n cap ps) (hq : Pr w bo m cb qs) (hlo : Ol.lo ≤ w.heap.size)
  (hmay : mayL fu li te pi = false) :
  Calls Tryz.prog 5 #[.slice ao n cap, .slice bo m cb, .int .i64 v, .agg #[.int .i64 fu, .int .i64 li, .int .i64 te, .int .i64 pi]] w (RetB (.bool true) w) := by
 have HP := hid hp; have HQ := hid hq; have HLO := hid hlo
 have HMN : Hid (∀ V, MvIs V (.pointer none) none none) := fun V => .inl ⟨rfl, rfl, rfl⟩
 clear hp hq hlo
 go_enter Tryz.func5, Tryz.ntmps5
 go_upto_region 1 with (fail)
 refine zz233 (fun V1 hV => ?_)
 have S1 : Hid (Sx w V1 [⟨w.heap.size, [.int .i64 fu, .int .i64 li, .int .i64 te, .int .i64 pi]⟩] []) := by
  rw [hV]
  exact Sx.var (Sx.start (N := []) trivial) w.heap.size _ 25 rfl
 clear hV; go_wp2_with fail; refine (zz145 v (HP.out.below S1.out.h)).mono ?_; rintro e V2 ⟨r, rfl, hB, hg⟩
 have S2 : Hid (Sx w V2 [⟨w.heap.size, [.int .i64 fu, .int .i64 li, .int .i64 te, .int .i64 pi]⟩] []) := S1.out.step hB
 clear hB S1
 rcases Bool.eq_false_or_eq_true r with hr | hr
 ·subst hr
  clear hg; go_wp2_with fail; refine (zz94 _ (Nat.le_trans HLO.out S2.out.h.size)).mono ?_; rintro e V3 ⟨rfl, hB⟩
  have S3 : Hid (Sx w V3 [⟨w.heap.size, [.int .i64 fu, .int .i64 li, .int .i64 te, .int .i64 pi]⟩] []) := S2.out.step hB
  clear hB S2; go_wp2_with fail
  go_ret
  exact ⟨rfl, S3.out.h⟩
 subst hr; have HG0 := hid (hg rfl); clear hg; go_wp2_with fail; refine (zz145 v (HQ.out.below S2.out.h)).mono ?_; rintro e V3 ⟨r, rfl, hB, hg⟩
 have S3 : Hid (Sx w V3 [⟨w.heap.size, [.int .i64 fu, .int .i64 li, .int .i64 te, .int .i64 pi]⟩] []) := S2.out.step hB
 clear hB S2
 rcases Bool.eq_false_or_eq_true r with hr | hr
 ·subst hr
  clear hg; go_wp2_with fail; refine (zz94 _ (Nat.le_trans HLO.out S3.out.h.size)).mono ?_; rintro e V4 ⟨rfl, hB⟩
  have S4 : Hid (Sx w V4 [⟨w.heap.size, [.int .i64 fu, .int .i64 li, .int .i64 te, .int .i64 pi]⟩] []) := S3.out.step hB
  clear hB S3; go_wp2_with fail
  go_ret
  exact ⟨rfl, S4.out.h⟩
 subst hr; have HG1 := hid (hg rfl); clear hg; obtain ⟨x0, x1, x2, x3⟩ := S3.out.b.1.c4; go_wp2_with fail; refine (mnew_no hmay).mono ?_; rintro e V4 ⟨rfl, hB⟩
 have S4 : Hid (Sx w V4 [⟨w.heap.size, [.int .i64 fu, .int .i64 li, .int .i64 te, .int .i64 pi]⟩] []) := S3.out.step hB
 clear hB S3; go_wp2_with fail; refine (zz94 _ (Nat.le_trans HLO.out S4.out.h.size)).mono ?_; rintro e V5 ⟨rfl, hB⟩
 have S5 : Hid (Sx w V5 [⟨w.heap.size, [.int .i64 fu, .int .i64 li, .int .i64 te, .int .i64 pi]⟩] []) := S4.out.step hB
 clear hB S4; go_wp2_with fail
 go_ret
 exact ⟨rfl, S5.out.h⟩
theorem pbd_bad1 [Ol] {fu li te pi : Int} {ao bo : Option Addr} {n cap m cb : Nat} {ps qs : List Raw} {w : World} (v : Int) (hp : Pr w ao n cap ps) (hq : Pr w bo m cb qs) (hlo : Ol.lo ≤ w.heap.size)
  (hmay : mayL fu li te pi = true) (hm : mayR ps = false) :
  Calls Tryz.prog 5 #[.slice ao n cap, .slice bo m cb, .int .i64 v, .agg #[.int .i64 fu, .int .i64 li, .int .i64 te, .int .i64 pi]] w (RetB (.bool true) w) := by
 have HP := hid hp; have HQ := hid hq; have HLO := hid hlo
 have HMN : Hid (∀ V, MvIs V (.pointer none) none none) := fun V => .inl ⟨rfl, rfl, rfl⟩
 clear hp hq hlo
 go_enter Tryz.func5, Tryz.ntmps5
 go_upto_region 1 with (fail)
 refine zz233 (fun V1 hV => ?_)
 have S1 : Hid (Sx w V1 [⟨w.heap.size, [.int .i64 fu, .int .i64 li, .int .i64 te, .int .i64 pi]⟩] []) := by
  rw [hV]
  exact Sx.var (Sx.start (N := []) trivial) w.heap.size _ 25 rfl
 clear hV; go_wp2_with fail; refine (zz145 v (HP.out.below S1.out.h)).mono ?_; rintro e V2 ⟨r, rfl, hB, hg⟩
 have S2 : Hid (Sx w V2 [⟨w.heap.size, [.int .i64 fu, .int .i64 li, .int .i64 te, .int .i64 pi]⟩] []) := S1.out.step hB
 clear hB S1
 rcases Bool.eq_false_or_eq_true r with hr | hr
 ·subst hr
  clear hg; go_wp2_with fail; refine (zz94 _ (Nat.le_trans HLO.out S2.out.h.size)).mono ?_; rintro e V3 ⟨rfl, hB⟩
  have S3 : Hid (Sx w V3 [⟨w.heap.size, [.int .i64 fu, .int .i64 li, .int .i64 te, .int .i64 pi]⟩] []) := S2.out.step hB
  clear hB S2; go_wp2_with fail
  go_ret
  exact ⟨rfl, S3.out.h⟩
 subst hr; have HG0 := hid (hg rfl); clear hg; go_wp2_with fail; refine (zz145 v (HQ.out.below S2.out.h)).mono ?_; rintro e V3 ⟨r, rfl, hB, hg⟩
 have S3 : Hid (Sx w V3 [⟨w.heap.size, [.int .i64 fu, .int .i64 li, .int .i64 te, .int .i64 pi]⟩] []) := S2.out.step hB
 clear hB S2
 rcases Bool.eq_false_or_eq_true r with hr | hr
 ·subst hr
  clear hg; go_wp2_with fail; refine (zz94 _ (Nat.le_trans HLO.out S3.out.h.size)).mono ?_; rintro e V4 ⟨rfl, hB⟩
  have S4 : Hid (Sx w V4 [⟨w.heap.size, [.int .i64 fu, .int .i64 li, .int .i64 te, .int .i64 pi]⟩] []) := S3.out.step hB
  clear hB S3; go_wp2_with fail
  go_ret
  exact ⟨rfl, S4.out.h⟩
 subst hr; have HG1 := hid (hg rfl); clear hg; obtain ⟨x0, x1, x2, x3⟩ := S3.out.b.1.c4; go_wp2_with fail; refine (zz111 hmay).mono ?_; rintro e V4 ⟨b, rfl, hC, hb, hB⟩
 have S4 : Hid (Sx w V4 [⟨b, mc (MS.new fu li te pi)⟩, ⟨w.heap.size, [.int .i64 fu, .int .i64 li, .int .i64 te, .int .i64 pi]⟩] []) := S3.out.made hC hb hB
 have HLb : Hid (Ol.lo ≤ b) := Nat.le_trans (Nat.le_trans HLO.out S3.out.h.size) hb
 clear hC hb hB x0 x1 x2 x3 S3
 have HOK : Hid ((MS.new fu li te pi).Ok) := mayL_ok hmay
 go_wp2_with fail
 refine (zz42 (run_bad1 (kq := true) (show MvIs V4 (.pointer (some ⟨b, 0, none⟩)) (some b) (some (MS.new fu li te pi)) from .inr ⟨b, _, rfl, rfl, rfl, S4.out.b.1, HOK.out, HLb.out⟩) (HP.out.below S4.out.h) (fun t ht => Nat.le_trans (HG0.out.2.1 t ht) (by omega)) hm)).mono ?_
 rintro e V5 ⟨⟨q0, r0, s0, e0, o0⟩, z0o, z0n, z0c, y0o, y0n, y0c, hu, rfl, hq, hr, hmv, hgr⟩
 simp only [Out.mk.injEq] at hu
 obtain ⟨rfl, rfl, rfl, rfl, rfl⟩ := hu; have hms := MvIs.some hmv
 have S5 : Hid (Sx w V5 [⟨b, mc (MS.new fu li te pi)⟩, ⟨w.heap.size, [.int .i64 fu, .int .i64 li, .int .i64 te, .int .i64 pi]⟩] []) := S4.out.own [] [⟨w.heap.size, [.int .i64 fu, .int .i64 li, .int .i64 te, .int .i64 pi]⟩] hms.1 hgr
 clear hms hmv hgr hq hr S4; go_wp2_with fail
 refine (zz42 (run_bad1 (kq := true) (HMN.out _) (HP.out.below S5.out.h) (fun t ht => Nat.le_trans (HG0.out.2.1 t ht) (by omega)) hm)).mono ?_
 rintro e V6 ⟨⟨q1, r1, s1, e1, o1⟩, z1o, z1n, z1c, y1o, y1n, y1c, hu, rfl, hq, hr, hmv, hgr⟩; have hB := zz14 hgr
 have S6 : Hid (Sx w V6 [⟨b, mc (MS.new fu li te pi)⟩, ⟨w.heap.size, [.int .i64 fu, .int .i64 li, .int .i64 te, .int .i64 pi]⟩] []) := S5.out.step hB
 simp only [Out.mk.injEq] at hu
 obtain ⟨rfl, rfl, rfl, rfl, rfl⟩ := hu; clear hq hr hmv hgr hB S5
 have HF : Hid (∀ V, Cells V b (mc (MS.new fu li te pi)) → Calls Tryz.prog 26 #[.pointer (some ⟨b, 0, none⟩)] V fun e V' => e = .returned (.int .i64 (0)) ∧ V = V') := fun V h => by have h1 := zz109 h; rwa [show (MS.new fu li te pi).st = 0 from rfl] at h1
 have df : decide (fu < 0) = false := decide_eq_false (by have := HOK.out.f0; have h2 : (0 : Int) ≤ fu := this; omega)
 go_upto_region 8 with (fail)
 refine wp_region_held_drew (S := fun w' => w'.cell? ⟨w.heap.size, 0, none⟩ = some (.int .i64 fu)) (by kernel_rfl) S6.out.b.t.1.c4.1 (fun hH => ?_)
 refine zz10 (fun V7 hW => ?_)
 have hB : Below V6.heap.size V6 V7 := by rw [hW]; exact (Below.refl _ _).drew
 have S7 : Hid (Sx w V7 [⟨b, mc (MS.new fu li te pi)⟩, ⟨w.heap.size, [.int .i64 fu, .int .i64 li, .int .i64 te, .int .i64 pi]⟩] []) := S6.out.step hB
 rw [← hW] at hH; clear hW hB S6
 refine son 0 hH ?_
 try simp only [nrm]
 refine son 2 hH ?_
 try simp only [nrm]
 refine son 3 hH ?_
 try simp only [nrm]
 refine zz178 1 rfl (by kernel_rfl) (fun KK hK => ?_)
 go_simp; refine (HF.out _ S7.out.b.1).mono ?_
 rintro e V70 ⟨rfl, rfl⟩; go_wp2_with fail
 clear hH; refine hK.out _ _ S7.out.b.t.1.c4.1 fun hH => ?_; clear hK KK
 try simp only [nrm]
 refine son 4 hH ?_
 try simp only [nrm]
 refine son 5 hH ?_
 try simp only [nrm]
 refine son 6 hH ?_
 try simp only [nrm]
 refine son 7 hH ?_
 try simp only [nrm]
 refine son 8 hH ?_
 try simp only [nrm]
 refine sof 9 hH ?_
 try simp only [nrm]
 refine sof 10 hH ?_
 try simp only [nrm]
 refine sof 11 hH ?_
 try simp only [nrm]
 refine sof 12 hH ?_
 try simp only [nrm]
 refine sof 13 hH ?_
 try simp only [nrm]
 refine sof 14 hH ?_
 try simp only [nrm]
 refine sof 15 hH ?_
 try simp only [nrm]
 refine sof 16 hH ?_
 try simp only [nrm]
 refine sof 17 hH ?_
 try simp only [nrm]
 refine sof 18 hH ?_
 try simp only [nrm]
 refine sof 19 hH ?_
 try simp only [nrm]
 refine sof 20 hH ?_
 try simp only [nrm]
 refine sof 21 hH ?_
 try simp only [nrm]
 refine sof 22 hH ?_
 try simp only [nrm]
 refine sof 23 hH ?_
 try simp only [nrm]
 refine sof 24 hH ?_
 try simp only [nrm]
 refine sof 25 hH ?_
 try simp only [nrm]
 refine sof 26 hH ?_
 try simp only [nrm]
 refine sof 27 hH ?_
 try simp only [nrm]
 refine sof 28 hH ?_
 try simp only [nrm]
 refine sof 29 hH ?_
 try simp only [nrm]
 refine sof 30 hH ?_
 try simp only [nrm]
 refine sof 31 hH ?_
 try simp only [nrm]
 refine sof 32 hH ?_
 try simp only [nrm]
 refine sof 33 hH ?_
 try simp only [nrm]
 refine son 34 hH ?_
 try simp only [nrm]
 refine son 35 hH ?_
 try simp only [nrm]
 refine wpAnyH_done (by kernel_rfl) ?_ _
 clear hH
 have HN : Hid (∀ V, Cells V b (mc (MS.new fu li te pi)) → Calls Tryz.prog 28 #[.pointer (some ⟨b, 0, none⟩)] V (RetB (.agg #[.int .i64 (0), .int .i64 (0)]) V)) := fun V h => by have h1 := zz110 h; exact h1
 go_wp2_with fail; refine (HN.out _ S7.out.b.1).mono ?_
 rintro e V8 ⟨rfl, hB⟩
 have S8 : Hid (Sx w V8 [⟨b, mc (MS.new fu li te pi)⟩, ⟨w.heap.size, [.int .i64 fu, .int .i64 li, .int .i64 te, .int .i64 pi]⟩] []) := S7.out.step hB
 clear hB S7
 go_upto_region 14 with (fail)
 refine zz233 (fun V9 hV => ?_)
 obtain ⟨nb, hnb⟩ : ∃ g, g = V8.heap.size := ⟨_, rfl⟩
 have S9 : Hid (Sx w V9 [⟨nb, [.int .i64 (0), .int .i64 (0)]⟩, ⟨b, mc (MS.new fu li te pi)⟩, ⟨w.heap.size, [.int .i64 fu, .int .i64 li, .int .i64 te, .int .i64 pi]⟩] []) := by
  rw [hV]
  exact S8.out.var nb _ 59 hnb
 rw [← hnb]; clear hV hnb S8
 go_wp2_with fail; refine (zz94 _ (Nat.le_trans HLO.out S9.out.h.size)).mono ?_
 rintro e V10 ⟨rfl, hB⟩
 have S10 : Hid (Sx w V10 [⟨nb, [.int .i64 (0), .int .i64 (0)]⟩, ⟨b, mc (MS.new fu li te pi)⟩, ⟨w.heap.size, [.int .i64 fu, .int .i64 li, .int .i64 te, .int .i64 pi]⟩] []) := S9.out.step hB
 clear hB S9; go_wp2_with fail
 go_ret
 exact ⟨rfl, S10.out.h⟩
theorem pbd_bad2 [Ol] {fu li te pi : Int} {ao bo : Option Addr} {n cap m cb : Nat} {ps qs : List Raw} {w : World} (v : Int) (hp : Pr w ao n cap ps) (hq : Pr w bo m cb qs) (hlo : Ol.lo ≤ w.heap.size)
  (hmay : mayL fu li te pi = true) (hm : mayR ps = true) (hd : degP (plnR qs) v = 0) :
  Calls Tryz.prog 5 #[.slice ao n cap, .slice bo m cb, .int .i64 v, .agg #[.int .i64 fu, .int .i64 li, .int .i64 te, .int .i64 pi]] w (RetB (.bool true) w) := by
 have HP := hid hp; have HQ := hid hq; have HLO := hid hlo
 have HMN : Hid (∀ V, MvIs V (.pointer none) none none) := fun V => .inl ⟨rfl, rfl, rfl⟩
 clear hp hq hlo
 go_enter Tryz.func5, Tryz.ntmps5
 go_upto_region 1 with (fail)
 refine zz233 (fun V1 hV => ?_)
 have S1 : Hid (Sx w V1 [⟨w.heap.size, [.int .i64 fu, .int .i64 li, .int .i64 te, .int .i64 pi]⟩] []) := by
  rw [hV]
  exact Sx.var (Sx.start (N := []) trivial) w.heap.size _ 25 rfl
 clear hV; go_wp2_with fail; refine (zz145 v (HP.out.below S1.out.h)).mono ?_; rintro e V2 ⟨r, rfl, hB, hg⟩
 have S2 : Hid (Sx w V2 [⟨w.heap.size, [.int .i64 fu, .int .i64 li, .int .i64 te, .int .i64 pi]⟩] []) := S1.out.step hB
 clear hB S1
 rcases Bool.eq_false_or_eq_true r with hr | hr
 ·subst hr
  clear hg; go_wp2_with fail; refine (zz94 _ (Nat.le_trans HLO.out S2.out.h.size)).mono ?_; rintro e V3 ⟨rfl, hB⟩
  have S3 : Hid (Sx w V3 [⟨w.heap.size, [.int .i64 fu, .int .i64 li, .int .i64 te, .int .i64 pi]⟩] []) := S2.out.step hB
  clear hB S2; go_wp2_with fail
  go_ret
  exact ⟨rfl, S3.out.h⟩
 subst hr; have HG0 := hid (hg rfl); clear hg; go_wp2_with fail; refine (zz145 v (HQ.out.below S2.out.h)).mono ?_; rintro e V3 ⟨r, rfl, hB, hg⟩
 have S3 : Hid (Sx w V3 [⟨w.heap.size, [.int .i64 fu, .int .i64 li, .int .i64 te, .int .i64 pi]⟩] []) := S2.out.step hB
 clear hB S2
 rcases Bool.eq_false_or_eq_true r with hr | hr
 ·subst hr
  clear hg; go_wp2_with fail; refine (zz94 _ (Nat.le_trans HLO.out S3.out.h.size)).mono ?_; rintro e V4 ⟨rfl, hB⟩
  have S4 : Hid (Sx w V4 [⟨w.heap.size, [.int .i64 fu, .int .i64 li, .int .i64 te, .int .i64 pi]⟩] []) := S3.out.step hB
  clear hB S3; go_wp2_with fail
  go_ret
  exact ⟨rfl, S4.out.h⟩
 subst hr; have HG1 := hid (hg rfl); clear hg; obtain ⟨x0, x1, x2, x3⟩ := S3.out.b.1.c4; go_wp2_with fail; refine (zz111 hmay).mono ?_; rintro e V4 ⟨b, rfl, hC, hb, hB⟩
 have S4 : Hid (Sx w V4 [⟨b, mc (MS.new fu li te pi)⟩, ⟨w.heap.size, [.int .i64 fu, .int .i64 li, .int .i64 te, .int .i64 pi]⟩] []) := S3.out.made hC hb hB
 have HLb : Hid (Ol.lo ≤ b) := Nat.le_trans (Nat.le_trans HLO.out S3.out.h.size) hb
 clear hC hb hB x0 x1 x2 x3 S3
 have HOK : Hid ((MS.new fu li te pi).Ok) := mayL_ok hmay
 go_wp2_with fail
 refine (zz42 (run_bad2 (kq := true) (show MvIs V4 (.pointer (some ⟨b, 0, none⟩)) (some b) (some (MS.new fu li te pi)) from .inr ⟨b, _, rfl, rfl, rfl, S4.out.b.1, HOK.out, HLb.out⟩) (HP.out.below S4.out.h) (fun t ht => Nat.le_trans (HG0.out.2.1 t ht) (by omega)) hm (HQ.out.below S4.out.h) (fun t ht => Nat.le_trans (HG1.out.2.1 t ht) (by omega)) hd)).mono ?_
 rintro e V5 ⟨⟨q0, r0, s0, e0, o0⟩, z0o, z0n, z0c, y0o, y0n, y0c, hu, rfl, hq, hr, hmv, hgr⟩
 simp only [Out.mk.injEq] at hu
 obtain ⟨rfl, rfl, rfl, rfl, rfl⟩ := hu; have hms := MvIs.some hmv
 have S5 : Hid (Sx w V5 [⟨b, mc (MS.new fu li te pi)⟩, ⟨w.heap.size, [.int .i64 fu, .int .i64 li, .int .i64 te, .int .i64 pi]⟩] []) := S4.out.own [] [⟨w.heap.size, [.int .i64 fu, .int .i64 li, .int .i64 te, .int .i64 pi]⟩] hms.1 hgr
 clear hms hmv hgr hq hr S4; go_wp2_with fail
 refine (zz42 (run_bad2 (kq := true) (HMN.out _) (HP.out.below S5.out.h) (fun t ht => Nat.le_trans (HG0.out.2.1 t ht) (by omega)) hm (HQ.out.below S5.out.h) (fun t ht => Nat.le_trans (HG1.out.2.1 t ht) (by omega)) hd)).mono ?_
 rintro e V6 ⟨⟨q1, r1, s1, e1, o1⟩, z1o, z1n, z1c, y1o, y1n, y1c, hu, rfl, hq, hr, hmv, hgr⟩; have hB := zz14 hgr
 have S6 : Hid (Sx w V6 [⟨b, mc (MS.new fu li te pi)⟩, ⟨w.heap.size, [.int .i64 fu, .int .i64 li, .int .i64 te, .int .i64 pi]⟩] []) := S5.out.step hB
 simp only [Out.mk.injEq] at hu
 obtain ⟨rfl, rfl, rfl, rfl, rfl⟩ := hu; clear hq hr hmv hgr hB S5
 have HF : Hid (∀ V, Cells V b (mc (MS.new fu li te pi)) → Calls Tryz.prog 26 #[.pointer (some ⟨b, 0, none⟩)] V fun e V' => e = .returned (.int .i64 (0)) ∧ V = V') := fun V h => by have h1 := zz109 h; rwa [show (MS.new fu li te pi).st = 0 from rfl] at h1
 have df : decide (fu < 0) = false := decide_eq_false (by have := HOK.out.f0; have h2 : (0 : Int) ≤ fu := this; omega)
 go_upto_region 8 with (fail)
 refine wp_region_held_drew (S := fun w' => w'.cell? ⟨w.heap.size, 0, none⟩ = some (.int .i64 fu)) (by kernel_rfl) S6.out.b.t.1.c4.1 (fun hH => ?_)
 refine zz10 (fun V7 hW => ?_)
 have hB : Below V6.heap.size V6 V7 := by rw [hW]; exact (Below.refl _ _).drew
 have S7 : Hid (Sx w V7 [⟨b, mc (MS.new fu li te pi)⟩, ⟨w.heap.size, [.int .i64 fu, .int .i64 li, .int .i64 te, .int .i64 pi]⟩] []) := S6.out.step hB
 rw [← hW] at hH; clear hW hB S6
 refine son 0 hH ?_
 try simp only [nrm]
 refine son 2 hH ?_
 try simp only [nrm]
 refine son 3 hH ?_
 try simp only [nrm]
 refine zz178 1 rfl (by kernel_rfl) (fun KK hK => ?_)
 go_simp; refine (HF.out _ S7.out.b.1).mono ?_
 rintro e V70 ⟨rfl, rfl⟩; go_wp2_with fail
 clear hH; refine hK.out _ _ S7.out.b.t.1.c4.1 fun hH => ?_; clear hK KK
 try simp only [nrm]
 refine son 4 hH ?_
 try simp only [nrm]
 refine son 5 hH ?_
 try simp only [nrm]
 refine son 6 hH ?_
 try simp only [nrm]
 refine son 7 hH ?_
 try simp only [nrm]
 refine son 8 hH ?_
 try simp only [nrm]
 refine sof 9 hH ?_
 try simp only [nrm]
 refine sof 10 hH ?_
 try simp only [nrm]
 refine sof 11 hH ?_
 try simp only [nrm]
 refine sof 12 hH ?_
 try simp only [nrm]
 refine sof 13 hH ?_
 try simp only [nrm]
 refine sof 14 hH ?_
 try simp only [nrm]
 refine sof 15 hH ?_
 try simp only [nrm]
 refine sof 16 hH ?_
 try simp only [nrm]
 refine sof 17 hH ?_
 try simp only [nrm]
 refine sof 18 hH ?_
 try simp only [nrm]
 refine sof 19 hH ?_
 try simp only [nrm]
 refine sof 20 hH ?_
 try simp only [nrm]
 refine sof 21 hH ?_
 try simp only [nrm]
 refine sof 22 hH ?_
 try simp only [nrm]
 refine sof 23 hH ?_
 try simp only [nrm]
 refine sof 24 hH ?_
 try simp only [nrm]
 refine sof 25 hH ?_
 try simp only [nrm]
 refine sof 26 hH ?_
 try simp only [nrm]
 refine sof 27 hH ?_
 try simp only [nrm]
 refine sof 28 hH ?_
 try simp only [nrm]
 refine sof 29 hH ?_
 try simp only [nrm]
 refine sof 30 hH ?_
 try simp only [nrm]
 refine sof 31 hH ?_
 try simp only [nrm]
 refine sof 32 hH ?_
 try simp only [nrm]
 refine sof 33 hH ?_
 try simp only [nrm]
 refine son 34 hH ?_
 try simp only [nrm]
 refine son 35 hH ?_
 try simp only [nrm]
 refine wpAnyH_done (by kernel_rfl) ?_ _
 clear hH
 have HN : Hid (∀ V, Cells V b (mc (MS.new fu li te pi)) → Calls Tryz.prog 28 #[.pointer (some ⟨b, 0, none⟩)] V (RetB (.agg #[.int .i64 (0), .int .i64 (0)]) V)) := fun V h => by have h1 := zz110 h; exact h1
 go_wp2_with fail; refine (HN.out _ S7.out.b.1).mono ?_
 rintro e V8 ⟨rfl, hB⟩
 have S8 : Hid (Sx w V8 [⟨b, mc (MS.new fu li te pi)⟩, ⟨w.heap.size, [.int .i64 fu, .int .i64 li, .int .i64 te, .int .i64 pi]⟩] []) := S7.out.step hB
 clear hB S7
 go_upto_region 14 with (fail)
 refine zz233 (fun V9 hV => ?_)
 obtain ⟨nb, hnb⟩ : ∃ g, g = V8.heap.size := ⟨_, rfl⟩
 have S9 : Hid (Sx w V9 [⟨nb, [.int .i64 (0), .int .i64 (0)]⟩, ⟨b, mc (MS.new fu li te pi)⟩, ⟨w.heap.size, [.int .i64 fu, .int .i64 li, .int .i64 te, .int .i64 pi]⟩] []) := by
  rw [hV]
  exact S8.out.var nb _ 59 hnb
 rw [← hnb]; clear hV hnb S8
 go_wp2_with fail; refine (zz94 _ (Nat.le_trans HLO.out S9.out.h.size)).mono ?_
 rintro e V10 ⟨rfl, hB⟩
 have S10 : Hid (Sx w V10 [⟨nb, [.int .i64 (0), .int .i64 (0)]⟩, ⟨b, mc (MS.new fu li te pi)⟩, ⟨w.heap.size, [.int .i64 fu, .int .i64 li, .int .i64 te, .int .i64 pi]⟩] []) := S9.out.step hB
 clear hB S9; go_wp2_with fail
 go_ret
 exact ⟨rfl, S10.out.h⟩
theorem pbd_main [Ol] {fu li te pi : Int} {ao bo : Option Addr} {n cap m cb : Nat} {p q : List Term} {w : World} (v : Int) (hp : Pr w ao n cap (p.map rawC)) (hq : Pr w bo m cb (q.map rawC)) (hlo : Ol.lo ≤ w.heap.size)
  (hmay : mayL fu li te pi = true) (hfp : fall p) (hfq : fall q) (hv : 1 ≤ v ∧ v ≤ 200) (h1 : 1 ≤ degP q v) :
  Calls Tryz.prog 5 #[.slice ao n cap, .slice bo m cb, .int .i64 v, .agg #[.int .i64 fu, .int .i64 li, .int .i64 te, .int .i64 pi]] w (RetB (.bool true) w) := by
 have HP := hid hp; have HQ := hid hq; have HLO := hid hlo
 have HMN : Hid (∀ V, MvIs V (.pointer none) none none) := fun V => .inl ⟨rfl, rfl, rfl⟩
 clear hp hq hlo
 go_enter Tryz.func5, Tryz.ntmps5
 go_upto_region 1 with (fail)
 refine zz233 (fun V1 hV => ?_)
 have S1 : Hid (Sx w V1 [⟨w.heap.size, [.int .i64 fu, .int .i64 li, .int .i64 te, .int .i64 pi]⟩] []) := by
  rw [hV]
  exact Sx.var (Sx.start (N := []) trivial) w.heap.size _ 25 rfl
 clear hV; go_wp2_with fail; refine (zz145 v (HP.out.below S1.out.h)).mono ?_; rintro e V2 ⟨r, rfl, hB, hg⟩
 have S2 : Hid (Sx w V2 [⟨w.heap.size, [.int .i64 fu, .int .i64 li, .int .i64 te, .int .i64 pi]⟩] []) := S1.out.step hB
 clear hB S1
 rcases Bool.eq_false_or_eq_true r with hr | hr
 ·subst hr
  clear hg; go_wp2_with fail; refine (zz94 _ (Nat.le_trans HLO.out S2.out.h.size)).mono ?_; rintro e V3 ⟨rfl, hB⟩
  have S3 : Hid (Sx w V3 [⟨w.heap.size, [.int .i64 fu, .int .i64 li, .int .i64 te, .int .i64 pi]⟩] []) := S2.out.step hB
  clear hB S2; go_wp2_with fail
  go_ret
  exact ⟨rfl, S3.out.h⟩
 subst hr; have HG0 := hid (hg rfl); clear hg; go_wp2_with fail; refine (zz145 v (HQ.out.below S2.out.h)).mono ?_; rintro e V3 ⟨r, rfl, hB, hg⟩
 have S3 : Hid (Sx w V3 [⟨w.heap.size, [.int .i64 fu, .int .i64 li, .int .i64 te, .int .i64 pi]⟩] []) := S2.out.step hB
 clear hB S2
 rcases Bool.eq_false_or_eq_true r with hr | hr
 ·subst hr
  clear hg; go_wp2_with fail; refine (zz94 _ (Nat.le_trans HLO.out S3.out.h.size)).mono ?_; rintro e V4 ⟨rfl, hB⟩
  have S4 : Hid (Sx w V4 [⟨w.heap.size, [.int .i64 fu, .int .i64 li, .int .i64 te, .int .i64 pi]⟩] []) := S3.out.step hB
  clear hB S3; go_wp2_with fail
  go_ret
  exact ⟨rfl, S4.out.h⟩
 subst hr; have HG1 := hid (hg rfl); clear hg; obtain ⟨x0, x1, x2, x3⟩ := S3.out.b.1.c4; have HPC := hid (Pr.pc (p := p) HP.out HG0.out.2.1); have HQC := hid (Pr.pc (p := q) HQ.out HG1.out.2.1)
 have hsp : Sm 8 p := sm_of8 hfp HG0.out HPC.out.bds
 have hsq : Sm 8 q := sm_of8 hfq HG1.out HQC.out.bds
 have hnn : n ≤ 8 := by have := hsp.l; have := HPC.out.len; omega
 have hmm : m ≤ 8 := by have := hsq.l; have := HQC.out.len; omega
 have HDV := hid (hsp.div hsq hv h1); have HSZ := hid (hsp.sz hsq); have HMY := hid (mayL_ok hmay); clear hsp hsq HG0 HG1 HP HQ hv h1; go_wp2_with fail; refine (zz111 hmay).mono ?_; rintro e V4 ⟨b, rfl, hC, hb, hB⟩
 have S4 : Hid (Sx w V4 [⟨b, mc (MS.new fu li te pi)⟩, ⟨w.heap.size, [.int .i64 fu, .int .i64 li, .int .i64 te, .int .i64 pi]⟩] []) := S3.out.made hC hb hB
 have HLb : Hid (Ol.lo ≤ b) := Nat.le_trans (Nat.le_trans HLO.out S3.out.h.size) hb
 clear hC hb hB x0 x1 x2 x3 S3; go_wp2_with fail
 refine (zz42 (run_any (kq := true) (K := 91) (show MvIs V4 (.pointer (some ⟨b, 0, none⟩)) (some b) (some (MS.new fu li te pi)) from .inr ⟨b, _, rfl, rfl, rfl, S4.out.b.1, HMY.out, HLb.out⟩) ((HPC.out.below S4.out.h).mono (by omega)) ((HQC.out.below S4.out.h).mono (by omega)) HDV.out (fun n hl => HSZ.out.ok HDV.out true n hl) (by omega) (by omega) (Nat.le_trans HLO.out S4.out.h.size))).mono ?_
 rintro e V5 ⟨⟨q0, r0, s0, e0, o0⟩, z0o, z0n, z0c, y0o, y0n, y0c, hu, rfl, hq, hr, hmv, hgr⟩; obtain ⟨t0, rfl, htf0, hc0⟩ := zz48 hu; have hms := MvIs.some hmv; have HOK0 := hid (And.intro hms.2 htf0)
 have S5 : Hid (Sx w V5 [⟨b, mc (t0)⟩, ⟨w.heap.size, [.int .i64 fu, .int .i64 li, .int .i64 te, .int .i64 pi]⟩] []) := S4.out.own [] [⟨w.heap.size, [.int .i64 fu, .int .i64 li, .int .i64 te, .int .i64 pi]⟩] hms.1 hgr
 have Z0_0 := hid (show Pc 91 V5 z0o z0n z0c q0 from hq); have R0_0 := hid (show Pc 91 V5 y0o y0n y0c r0 from hr); clear hms hmv hgr hq hr S4 htf0 hu
 rcases hc0 with ⟨rfl, hwh, hst, hen, hlim⟩ | ⟨rfl, rfl, hs0, hwh, hcs⟩
 ·go_wp2_with fail
  refine (zz42 (run_any (kq := true) (K := 91) (HMN.out _) ((HPC.out.below S5.out.h).mono (by omega)) ((HQC.out.below S5.out.h).mono (by omega)) HDV.out (fun n hl => HSZ.out.ok HDV.out true n hl) (by omega) (by omega) (Nat.le_trans HLO.out S5.out.h.size))).mono ?_
  rintro e V6 ⟨⟨q1, r1, s1, e1, o1⟩, z1o, z1n, z1c, y1o, y1n, y1c, hu, rfl, hq, hr, hmv, hgr⟩; have hB := zz14 hgr
  have S6 : Hid (Sx w V6 [⟨b, mc (t0)⟩, ⟨w.heap.size, [.int .i64 fu, .int .i64 li, .int .i64 te, .int .i64 pi]⟩] []) := S5.out.step hB
  have Z0_1 := hid (Z0_0.out.below hB); have R0_1 := hid (R0_0.out.below hB); clear Z0_0 R0_0; have Z1_1 := hid (show Pc 91 V6 z1o z1n z1c q1 from hq); have R1_1 := hid (show Pc 91 V6 y1o y1n y1c r1 from hr); clear hmv hgr hB hq hr S5; have huu := Ends.unique hen hu
  simp only [Out.mk.injEq] at huu
  obtain ⟨rfl, rfl, rfl, rfl, rfl⟩ := huu; obtain ⟨hfq0, hfr0⟩ := ends_fall HDV.out hen; clear hu hen; have HLM := hid hlim; clear hlim
  have df : decide (fu < (s0 : Int)) = false := decide_eq_false (by have h1 := HOK0.out.1.s1; have h2 := HOK0.out.2; omega)
  have hss : ((s0 : Int) != (s0 : Int)) = false := by simp
  have HF : Hid (∀ V, Cells V b (mc (t0)) → Calls Tryz.prog 26 #[.pointer (some ⟨b, 0, none⟩)] V fun e V' => e = .returned (.int .i64 ((s0 : Int))) ∧ V = V') := fun V h => by have h1 := zz109 h; rwa [hst] at h1
  go_upto_region 8 with (fail)
  refine wp_region_held_drew (S := fun w' => w'.cell? ⟨w.heap.size, 0, none⟩ = some (.int .i64 fu)) (by kernel_rfl) S6.out.b.t.1.c4.1 (fun hH => ?_)
  refine zz10 (fun V7 hW => ?_)
  have hB : Below V6.heap.size V6 V7 := by rw [hW]; exact (Below.refl _ _).drew
  have S7 : Hid (Sx w V7 [⟨b, mc (t0)⟩, ⟨w.heap.size, [.int .i64 fu, .int .i64 li, .int .i64 te, .int .i64 pi]⟩] []) := S6.out.step hB
  rw [← hW] at hH; have Z0_2 := hid (Z0_1.out.below hB)
  have R0_2 := hid (R0_1.out.below hB); have Z1_2 := hid (Z1_1.out.below hB); have R1_2 := hid (R1_1.out.below hB); clear Z0_1 R0_1 Z1_1 R1_1; clear hW hB S6
  refine son 0 hH ?_
  try simp only [nrm]
  refine son 2 hH ?_
  try simp only [nrm]
  refine son 3 hH ?_
  try simp only [nrm]
  refine zz178 1 rfl (by kernel_rfl) (fun KK hK => ?_)
  go_simp; refine (HF.out _ S7.out.b.1).mono ?_
  rintro e V70 ⟨rfl, rfl⟩; go_wp2_with fail
  clear hH; refine hK.out _ _ S7.out.b.t.1.c4.1 fun hH => ?_; clear hK KK
  try simp only [nrm]
  refine son 4 hH ?_
  try simp only [nrm]
  refine son 5 hH ?_
  try simp only [nrm]
  refine son 6 hH ?_
  try simp only [nrm]
  refine son 7 hH ?_
  try simp only [nrm]
  refine son 8 hH ?_
  try simp only [nrm]
  refine son 9 hH ?_
  try simp only [nrm]
  refine son 10 hH ?_
  try simp only [nrm]
  refine son 11 hH ?_
  try simp only [nrm]
  refine son 12 hH ?_
  try simp only [nrm]
  refine son 13 hH ?_
  try simp only [nrm]
  refine son 14 hH ?_
  try simp only [nrm]
  refine son 15 hH ?_
  try simp only [nrm]
  refine son 16 hH ?_
  try simp only [nrm]
  refine son 17 hH ?_
  try simp only [nrm]
  refine son 18 hH ?_
  try simp only [nrm]
  refine zz178 19 rfl (by kernel_rfl) (fun KK hK => ?_)
  go_simp; refine (HF.out _ S7.out.b.1).mono ?_
  rintro e V70 ⟨rfl, rfl⟩; go_wp2_with fail
  clear hH; refine hK.out _ _ S7.out.b.t.1.c4.1 fun hH => ?_; clear hK KK
  try simp only [nrm]
  refine son 20 hH ?_
  try simp only [nrm]
  refine son 21 hH ?_
  try simp only [nrm]
  refine son 22 hH ?_
  try simp only [nrm]
  refine son 23 hH ?_
  try simp only [nrm]
  refine son 24 hH ?_
  try simp only [nrm]
  refine zz178 25 rfl (by kernel_rfl) (fun KK hK => ?_)
  go_simp; refine (zz154 true Z0_2.out.raw Z1_2.out.raw (decide_eq_true rfl)).mono ?_
  rintro e V8 ⟨rfl, hB⟩
  have S8 : Hid (Sx w V8 [⟨b, mc (t0)⟩, ⟨w.heap.size, [.int .i64 fu, .int .i64 li, .int .i64 te, .int .i64 pi]⟩] []) := S7.out.step hB
  have Z0_3 := hid (Z0_2.out.below hB); have R0_3 := hid (R0_2.out.below hB); have Z1_3 := hid (Z1_2.out.below hB); have R1_3 := hid (R1_2.out.below hB); clear Z0_2 R0_2 Z1_2 R1_2; clear hB S7; go_wp2_with fail
  clear hH; refine hK.out _ _ S8.out.b.t.1.c4.1 fun hH => ?_; clear hK KK
  try simp only [nrm]
  clear Z1_3
  refine son 26 hH ?_
  try simp only [nrm]
  refine son 27 hH ?_
  try simp only [nrm]
  refine son 28 hH ?_
  try simp only [nrm]
  refine son 29 hH ?_
  try simp only [nrm]
  refine son 30 hH ?_
  try simp only [nrm]
  refine zz178 31 rfl (by kernel_rfl) (fun KK hK => ?_)
  go_simp; refine (zz154 true R0_3.out.raw R1_3.out.raw (decide_eq_true rfl)).mono ?_
  rintro e V9 ⟨rfl, hB⟩
  have S9 : Hid (Sx w V9 [⟨b, mc (t0)⟩, ⟨w.heap.size, [.int .i64 fu, .int .i64 li, .int .i64 te, .int .i64 pi]⟩] []) := S8.out.step hB
  have Z0_4 := hid (Z0_3.out.below hB); have R0_4 := hid (R0_3.out.below hB); have R1_4 := hid (R1_3.out.below hB); clear Z0_3 R0_3 R1_3; clear hB S8; go_wp2_with fail
  clear hH; refine hK.out _ _ S9.out.b.t.1.c4.1 fun hH => ?_; clear hK KK
  try simp only [nrm]
  clear R1_4
  refine son 32 hH ?_
  try simp only [nrm]
  refine son 33 hH ?_
  try simp only [nrm]
  refine son 34 hH ?_
  try simp only [nrm]
  refine son 35 hH ?_
  try simp only [nrm]
  refine wpAnyH_done (by kernel_rfl) ?_ _
  clear hH df hss
  by_cases hs0 : s0 = 0
  ·subst hs0
   have hz0 : (((0 : Nat) : Int) == 0) = true := rfl
   go_upto_region 11 with (fail)
   refine wp_region_held_drew (S := fun w' => w'.cell? ⟨w.heap.size, 1, none⟩ = some (.int .i64 li) ∧ w'.cell? ⟨w.heap.size, 2, none⟩ = some (.int .i64 te)) (by kernel_rfl) ⟨S9.out.b.t.1.c4.2.1, S9.out.b.t.1.c4.2.2.1⟩ (fun hH => ?_)
   refine zz10 (fun V10 hW => ?_)
   have hB : Below V9.heap.size V9 V10 := by rw [hW]; exact (Below.refl _ _).drew
   have S10 : Hid (Sx w V10 [⟨b, mc (t0)⟩, ⟨w.heap.size, [.int .i64 fu, .int .i64 li, .int .i64 te, .int .i64 pi]⟩] []) := S9.out.step hB
   rw [← hW] at hH; have Z0_5 := hid (Z0_4.out.below hB)
   have R0_5 := hid (R0_4.out.below hB); clear Z0_4 R0_4; clear hW hB S9
   refine son 0 hH ?_
   try simp only [nrm]
   refine son 1 hH ?_
   try simp only [nrm]
   refine son 2 hH ?_
   try simp only [nrm]
   refine sof 3 hH ?_
   try simp only [nrm]
   refine sof 4 hH ?_
   try simp only [nrm]
   refine sof 5 hH ?_
   try simp only [nrm]
   refine sof 6 hH ?_
   try simp only [nrm]
   refine sof 7 hH ?_
   try simp only [nrm]
   refine sof 8 hH ?_
   try simp only [nrm]
   refine sof 9 hH ?_
   try simp only [nrm]
   refine sof 10 hH ?_
   try simp only [nrm]
   refine sof 11 hH ?_
   try simp only [nrm]
   refine sof 12 hH ?_
   try simp only [nrm]
   refine sof 13 hH ?_
   try simp only [nrm]
   refine sof 14 hH ?_
   try simp only [nrm]
   refine sof 15 hH ?_
   try simp only [nrm]
   refine sof 16 hH ?_
   try simp only [nrm]
   refine sof 17 hH ?_
   try simp only [nrm]
   refine sof 18 hH ?_
   try simp only [nrm]
   refine sof 19 hH ?_
   try simp only [nrm]
   refine sof 20 hH ?_
   try simp only [nrm]
   refine sof 21 hH ?_
   try simp only [nrm]
   refine sof 22 hH ?_
   try simp only [nrm]
   refine sof 23 hH ?_
   try simp only [nrm]
   refine sof 24 hH ?_
   try simp only [nrm]
   refine sof 25 hH ?_
   try simp only [nrm]
   refine sof 26 hH ?_
   try simp only [nrm]
   refine sof 27 hH ?_
   try simp only [nrm]
   refine sof 28 hH ?_
   try simp only [nrm]
   refine son 29 hH ?_
   try simp only [nrm]
   refine son 30 hH ?_
   try simp only [nrm]
   refine wpAnyH_done (by kernel_rfl) ?_ _
   clear hH; clear Z0_5; clear R0_5
   have hfl : ∀ (x y : Int) (W : World), (Instr.field 59 (.agg #[.int .i64 x, .int .i64 y]) 0).run Tryz.prog W = .ok (.int .i64 x) W := fun _ _ _ => by kernel_rfl
   have HN : Hid (∀ V, Cells V b (mc t0) → Calls Tryz.prog 28 #[.pointer (some ⟨b, 0, none⟩)] V (RetB (.agg #[.int .i64 0, .int .i64 t0.n]) V)) := fun V h => by have h1 := zz110 h; rwa [hwh] at h1
   go_wp2_with fail; refine (HN.out _ S10.out.b.1).mono ?_
   rintro e V11 ⟨rfl, hB⟩
   have S11 : Hid (Sx w V11 [⟨b, mc (t0)⟩, ⟨w.heap.size, [.int .i64 fu, .int .i64 li, .int .i64 te, .int .i64 pi]⟩] []) := S10.out.step hB
   clear hB S10; go_wp2_with fail; refine (zz94 _ (Nat.le_trans HLO.out S11.out.h.size)).mono ?_; rintro e V12 ⟨rfl, hB⟩
   have S12 : Hid (Sx w V12 [⟨b, mc (t0)⟩, ⟨w.heap.size, [.int .i64 fu, .int .i64 li, .int .i64 te, .int .i64 pi]⟩] []) := S11.out.step hB
   clear hB S11; go_wp2_with fail
   go_ret
   exact ⟨rfl, S12.out.h⟩
  have hz0 : ((s0 : Int) == 0) = false := by simpa using (show ¬ (s0 : Int) = 0 by omega)
  obtain ⟨hl1, hl2, hl3, hl4⟩ := HLM.out.resolve_left hs0; rw [R0_4.out.len] at hl3; rw [Z0_4.out.len] at hl4; obtain ⟨zr, hzr⟩ : ∃ z : Int, z = (needL (kl r0) : Nat) := ⟨_, rfl⟩; obtain ⟨zq, hzq⟩ : ∃ z : Int, z = (needL (kl q0) : Nat) := ⟨_, rfl⟩
  have d1 : decide (zr ≤ li) = true := decide_eq_true (by omega)
  have d2 : decide (zq ≤ li) = true := decide_eq_true (by omega)
  have d3 : decide ((y0n : Int) ≤ te) = true := decide_eq_true hl3
  have d4 : decide ((z0n : Int) ≤ te) = true := decide_eq_true hl4
  have HR0 := hid ((limR_needL hfr0).trans hzr.symm); have HQ0 := hid ((limR_needL hfq0).trans hzq.symm); clear hl1 hl2 hl3 hl4 hzr hzq hs0 HLM
  go_upto_region 11 with (fail)
  refine wp_region_held_drew (S := fun w' => w'.cell? ⟨w.heap.size, 1, none⟩ = some (.int .i64 li) ∧ w'.cell? ⟨w.heap.size, 2, none⟩ = some (.int .i64 te)) (by kernel_rfl) ⟨S9.out.b.t.1.c4.2.1, S9.out.b.t.1.c4.2.2.1⟩ (fun hH => ?_)
  refine zz10 (fun V10 hW => ?_)
  have hB : Below V9.heap.size V9 V10 := by rw [hW]; exact (Below.refl _ _).drew
  have S10 : Hid (Sx w V10 [⟨b, mc (t0)⟩, ⟨w.heap.size, [.int .i64 fu, .int .i64 li, .int .i64 te, .int .i64 pi]⟩] []) := S9.out.step hB
  rw [← hW] at hH; have Z0_5 := hid (Z0_4.out.below hB)
  have R0_5 := hid (R0_4.out.below hB); clear Z0_4 R0_4; clear hW hB S9
  refine son 0 hH ?_
  try simp only [nrm]
  refine son 1 hH ?_
  try simp only [nrm]
  refine son 2 hH ?_
  try simp only [nrm]
  refine son 3 hH ?_
  try simp only [nrm]
  refine son 5 hH ?_
  try simp only [nrm]
  refine son 6 hH ?_
  try simp only [nrm]
  refine zz178 4 rfl (by kernel_rfl) (fun KK hK => ?_)
  go_simp
  refine (plimbs_any zr R0_5.out.raw (fun t ht => Nat.le_trans (R0_5.out.lens t ht) (by omega)) HR0.out).mono ?_
  rintro e V11 ⟨rfl, hB⟩
  have S11 : Hid (Sx w V11 [⟨b, mc (t0)⟩, ⟨w.heap.size, [.int .i64 fu, .int .i64 li, .int .i64 te, .int .i64 pi]⟩] []) := S10.out.step hB
  have Z0_6 := hid (Z0_5.out.below hB); have R0_6 := hid (R0_5.out.below hB); clear Z0_5 R0_5; clear hB S10; go_wp2_with fail
  clear hH; refine hK.out _ _ ⟨S11.out.b.t.1.c4.2.1, S11.out.b.t.1.c4.2.2.1⟩ fun hH => ?_; clear hK KK
  try simp only [nrm]
  refine son 7 hH ?_
  try simp only [nrm]
  refine son 8 hH ?_
  try simp only [nrm]
  refine son 9 hH ?_
  try simp only [nrm]
  refine son 11 hH ?_
  try simp only [nrm]
  refine son 12 hH ?_
  try simp only [nrm]
  refine zz178 10 rfl (by kernel_rfl) (fun KK hK => ?_)
  go_simp
  refine (plimbs_any zq Z0_6.out.raw (fun t ht => Nat.le_trans (Z0_6.out.lens t ht) (by omega)) HQ0.out).mono ?_
  rintro e V12 ⟨rfl, hB⟩
  have S12 : Hid (Sx w V12 [⟨b, mc (t0)⟩, ⟨w.heap.size, [.int .i64 fu, .int .i64 li, .int .i64 te, .int .i64 pi]⟩] []) := S11.out.step hB
  have Z0_7 := hid (Z0_6.out.below hB); have R0_7 := hid (R0_6.out.below hB); clear Z0_6 R0_6; clear hB S11; go_wp2_with fail
  clear hH; refine hK.out _ _ ⟨S12.out.b.t.1.c4.2.1, S12.out.b.t.1.c4.2.2.1⟩ fun hH => ?_; clear hK KK
  try simp only [nrm]
  refine son 13 hH ?_
  try simp only [nrm]
  refine son 14 hH ?_
  try simp only [nrm]
  refine son 15 hH ?_
  try simp only [nrm]
  refine son 16 hH ?_
  try simp only [nrm]
  refine son 17 hH ?_
  try simp only [nrm]
  refine son 18 hH ?_
  try simp only [nrm]
  refine son 19 hH ?_
  try simp only [nrm]
  refine son 20 hH ?_
  try simp only [nrm]
  refine son 21 hH ?_
  try simp only [nrm]
  refine son 22 hH ?_
  try simp only [nrm]
  refine son 23 hH ?_
  try simp only [nrm]
  refine son 24 hH ?_
  try simp only [nrm]
  refine son 25 hH ?_
  try simp only [nrm]
  refine son 26 hH ?_
  try simp only [nrm]
  refine son 27 hH ?_
  try simp only [nrm]
  refine son 28 hH ?_
  try simp only [nrm]
  refine son 29 hH ?_
  try simp only [nrm]
  refine son 30 hH ?_
  try simp only [nrm]
  refine wpAnyH_done (by kernel_rfl) ?_ _
  clear hH d1 d2 d3 d4; clear Z0_7; clear R0_7
  have hfl : ∀ (x y : Int) (W : World), (Instr.field 59 (.agg #[.int .i64 x, .int .i64 y]) 0).run Tryz.prog W = .ok (.int .i64 x) W := fun _ _ _ => by kernel_rfl
  have HN : Hid (∀ V, Cells V b (mc t0) → Calls Tryz.prog 28 #[.pointer (some ⟨b, 0, none⟩)] V (RetB (.agg #[.int .i64 0, .int .i64 t0.n]) V)) := fun V h => by have h1 := zz110 h; rwa [hwh] at h1
  go_wp2_with fail; refine (HN.out _ S12.out.b.1).mono ?_
  rintro e V13 ⟨rfl, hB⟩
  have S13 : Hid (Sx w V13 [⟨b, mc (t0)⟩, ⟨w.heap.size, [.int .i64 fu, .int .i64 li, .int .i64 te, .int .i64 pi]⟩] []) := S12.out.step hB
  clear hB S12; go_wp2_with fail; refine (zz94 _ (Nat.le_trans HLO.out S13.out.h.size)).mono ?_; rintro e V14 ⟨rfl, hB⟩
  have S14 : Hid (Sx w V14 [⟨b, mc (t0)⟩, ⟨w.heap.size, [.int .i64 fu, .int .i64 li, .int .i64 te, .int .i64 pi]⟩] []) := S13.out.step hB
  clear hB S13; go_wp2_with fail
  go_ret
  exact ⟨rfl, S14.out.h⟩
 have hzn := Z0_0.out.len; have hyn := R0_0.out.len
 simp only [List.length_nil] at hzn hyn
 have HZN := hid (And.intro hzn (And.intro hyn hs0)); clear hzn hyn hs0; clear Z0_0; clear R0_0
 rcases hcs with ⟨rfl, hn⟩ | ⟨rfl, hn⟩ | ⟨rfl, hn⟩
 ·go_wp2_with fail
  refine (zz42 (run_any (kq := true) (K := 91) (HMN.out _) ((HPC.out.below S5.out.h).mono (by omega)) ((HQC.out.below S5.out.h).mono (by omega)) HDV.out (fun n hl => HSZ.out.ok HDV.out true n hl) (by omega) (by omega) (Nat.le_trans HLO.out S5.out.h.size))).mono ?_
  rintro e V6 ⟨⟨q1, r1, s1, e1, o1⟩, z1o, z1n, z1c, y1o, y1n, y1c, hu, rfl, hq, hr, hmv, hgr⟩; have hB := zz14 hgr
  have S6 : Hid (Sx w V6 [⟨b, mc (t0)⟩, ⟨w.heap.size, [.int .i64 fu, .int .i64 li, .int .i64 te, .int .i64 pi]⟩] []) := S5.out.step hB
  have Z1_1 := hid (show Pc 91 V6 z1o z1n z1c q1 from hq); have R1_1 := hid (show Pc 91 V6 y1o y1n y1c r1 from hr); clear hmv hgr hB hq hr S5; clear Z1_1; clear R1_1; clear hu; obtain ⟨z0, hz0⟩ : ∃ z, z = t0.st := ⟨_, rfl⟩; obtain ⟨nn, hnn⟩ : ∃ z, z = t0.n := ⟨_, rfl⟩; rw [← hnn] at hn
  have df : decide (fu < z0) = false := decide_eq_false (by have h1 := HOK0.out.1.s1; have h2 := HOK0.out.2; omega)
  have HF : Hid (∀ V, Cells V b (mc (t0)) → Calls Tryz.prog 26 #[.pointer (some ⟨b, 0, none⟩)] V fun e V' => e = .returned (.int .i64 (z0)) ∧ V = V') := fun V h => by have h1 := zz109 h; rwa [← hz0] at h1
  have HW := hid (And.intro hwh hnn); have HNE := hid hn; clear hwh hnn hz0 hn
  go_upto_region 8 with (fail)
  refine wp_region_held_drew (S := fun w' => w'.cell? ⟨w.heap.size, 0, none⟩ = some (.int .i64 fu)) (by kernel_rfl) S6.out.b.t.1.c4.1 (fun hH => ?_)
  refine zz10 (fun V7 hW => ?_)
  have hB : Below V6.heap.size V6 V7 := by rw [hW]; exact (Below.refl _ _).drew
  have S7 : Hid (Sx w V7 [⟨b, mc (t0)⟩, ⟨w.heap.size, [.int .i64 fu, .int .i64 li, .int .i64 te, .int .i64 pi]⟩] []) := S6.out.step hB
  rw [← hW] at hH; clear hW hB S6
  refine son 0 hH ?_
  try simp only [nrm]
  refine son 2 hH ?_
  try simp only [nrm]
  refine son 3 hH ?_
  try simp only [nrm]
  refine zz178 1 rfl (by kernel_rfl) (fun KK hK => ?_)
  go_simp; refine (HF.out _ S7.out.b.1).mono ?_
  rintro e V70 ⟨rfl, rfl⟩; go_wp2_with fail
  clear hH; refine hK.out _ _ S7.out.b.t.1.c4.1 fun hH => ?_; clear hK KK
  try simp only [nrm]
  refine son 4 hH ?_
  try simp only [nrm]
  refine son 5 hH ?_
  try simp only [nrm]
  refine son 6 hH ?_
  try simp only [nrm]
  refine son 7 hH ?_
  try simp only [nrm]
  refine son 8 hH ?_
  try simp only [nrm]
  refine sof 9 hH ?_
  try simp only [nrm]
  refine sof 10 hH ?_
  try simp only [nrm]
  refine sof 11 hH ?_
  try simp only [nrm]
  refine sof 12 hH ?_
  try simp only [nrm]
  refine sof 13 hH ?_
  try simp only [nrm]
  refine sof 14 hH ?_
  try simp only [nrm]
  refine sof 15 hH ?_
  try simp only [nrm]
  refine sof 16 hH ?_
  try simp only [nrm]
  refine sof 17 hH ?_
  try simp only [nrm]
  refine sof 18 hH ?_
  try simp only [nrm]
  refine sof 19 hH ?_
  try simp only [nrm]
  refine sof 20 hH ?_
  try simp only [nrm]
  refine sof 21 hH ?_
  try simp only [nrm]
  refine sof 22 hH ?_
  try simp only [nrm]
  refine sof 23 hH ?_
  try simp only [nrm]
  refine sof 24 hH ?_
  try simp only [nrm]
  refine sof 25 hH ?_
  try simp only [nrm]
  refine sof 26 hH ?_
  try simp only [nrm]
  refine sof 27 hH ?_
  try simp only [nrm]
  refine sof 28 hH ?_
  try simp only [nrm]
  refine sof 29 hH ?_
  try simp only [nrm]
  refine sof 30 hH ?_
  try simp only [nrm]
  refine sof 31 hH ?_
  try simp only [nrm]
  refine sof 32 hH ?_
  try simp only [nrm]
  refine sof 33 hH ?_
  try simp only [nrm]
  refine son 34 hH ?_
  try simp only [nrm]
  refine son 35 hH ?_
  try simp only [nrm]
  refine wpAnyH_done (by kernel_rfl) ?_ _
  clear hH; clear df
  have HN : Hid (∀ V, Cells V b (mc (t0)) → Calls Tryz.prog 28 #[.pointer (some ⟨b, 0, none⟩)] V (RetB (.agg #[.int .i64 (9), .int .i64 (nn)]) V)) := fun V h => by have h1 := zz110 h; rwa [HW.out.1, ← HW.out.2] at h1
  go_wp2_with fail; refine (HN.out _ S7.out.b.1).mono ?_
  rintro e V8 ⟨rfl, hB⟩
  have S8 : Hid (Sx w V8 [⟨b, mc (t0)⟩, ⟨w.heap.size, [.int .i64 fu, .int .i64 li, .int .i64 te, .int .i64 pi]⟩] []) := S7.out.step hB
  clear hB S7
  go_upto_region 14 with (fail)
  refine zz233 (fun V9 hV => ?_)
  obtain ⟨nb, hnb⟩ : ∃ g, g = V8.heap.size := ⟨_, rfl⟩
  have S9 : Hid (Sx w V9 [⟨nb, [.int .i64 (9), .int .i64 (nn)]⟩, ⟨b, mc (t0)⟩, ⟨w.heap.size, [.int .i64 fu, .int .i64 li, .int .i64 te, .int .i64 pi]⟩] []) := by
   rw [hV]
   exact S8.out.var nb _ 59 hnb
  rw [← hnb]; clear hV hnb S8
  clear HN; obtain ⟨x0, x1, x2, x3⟩ := S9.out.b.t.t.1.c4
  go_upto_region 17 with (fail)
  refine zz233 (fun V10 hV => ?_)
  obtain ⟨mb, hmb⟩ : ∃ g, g = V9.heap.size := ⟨_, rfl⟩
  have S10 : Hid (Sx w V10 [⟨mb, [.int .i64 fu, .int .i64 li, .int .i64 te, .int .i64 pi]⟩, ⟨nb, [.int .i64 (9), .int .i64 (nn)]⟩, ⟨b, mc (t0)⟩, ⟨w.heap.size, [.int .i64 fu, .int .i64 li, .int .i64 te, .int .i64 pi]⟩] []) := by
   rw [hV]
   exact S9.out.var mb _ 25 hmb
  rw [← hmb]; clear hV hmb x0 x1 x2 x3 S9
  obtain ⟨x0, x1, x2, x3⟩ := S10.out.b.1.c4; obtain ⟨f0, f1, f2, f3⟩ := S10.out.b.1.f4; obtain ⟨n0, n1⟩ := S10.out.b.t.1.c2
  go_upto_region 25 with (fail)
  refine zz233 (fun V11 hV => ?_)
  have S11 : Hid (Sx w V11 [⟨mb, [.int .i64 nn, .int .i64 li, .int .i64 te, .int .i64 pi]⟩, ⟨nb, [.int .i64 (9), .int .i64 (nn)]⟩, ⟨b, mc (t0)⟩, ⟨w.heap.size, [.int .i64 fu, .int .i64 li, .int .i64 te, .int .i64 pi]⟩] []) := by rw [hV]; exact S10.out.set [] [⟨nb, [.int .i64 (9), .int .i64 (nn)]⟩, ⟨b, mc (t0)⟩, ⟨w.heap.size, [.int .i64 fu, .int .i64 li, .int .i64 te, .int .i64 pi]⟩] 0 _
  clear hV x0 x1 x2 x3 f0 f1 f2 f3 n0 n1 S10; obtain ⟨x0, x1, x2, x3⟩ := S11.out.b.1.c4
  rcases Bool.eq_false_or_eq_true (mayL nn li te pi) with hm2 | hm2
  rotate_left
  ·skip
   go_wp2_with fail; refine (mnew_no hm2).mono ?_
   rintro e V12 ⟨rfl, hB⟩
   have S12 : Hid (Sx w V12 [⟨mb, [.int .i64 nn, .int .i64 li, .int .i64 te, .int .i64 pi]⟩, ⟨nb, [.int .i64 (9), .int .i64 (nn)]⟩, ⟨b, mc (t0)⟩, ⟨w.heap.size, [.int .i64 fu, .int .i64 li, .int .i64 te, .int .i64 pi]⟩] []) := S11.out.step hB
   clear hB S11; go_wp2_with fail; refine (zz94 _ (Nat.le_trans HLO.out S12.out.h.size)).mono ?_; rintro e V13 ⟨rfl, hB⟩
   have S13 : Hid (Sx w V13 [⟨mb, [.int .i64 nn, .int .i64 li, .int .i64 te, .int .i64 pi]⟩, ⟨nb, [.int .i64 (9), .int .i64 (nn)]⟩, ⟨b, mc (t0)⟩, ⟨w.heap.size, [.int .i64 fu, .int .i64 li, .int .i64 te, .int .i64 pi]⟩] []) := S12.out.step hB
   clear hB S12; go_wp2_with fail
   go_ret
   exact ⟨rfl, S13.out.h⟩
  go_wp2_with fail; refine (zz111 hm2).mono ?_
  rintro e V12 ⟨b2, rfl, hC, hb, hB⟩
  have S12 : Hid (Sx w V12 [⟨b2, mc (MS.new nn li te pi)⟩, ⟨mb, [.int .i64 nn, .int .i64 li, .int .i64 te, .int .i64 pi]⟩, ⟨nb, [.int .i64 (9), .int .i64 (nn)]⟩, ⟨b, mc (t0)⟩, ⟨w.heap.size, [.int .i64 fu, .int .i64 li, .int .i64 te, .int .i64 pi]⟩] []) := S11.out.made hC hb hB
  have HLb2 : Hid (Ol.lo ≤ b2) := Nat.le_trans (Nat.le_trans HLO.out S11.out.h.size) hb
  clear hC hb hB x0 x1 x2 x3 S11; have HMY2 := hid (mayL_ok hm2); go_wp2_with fail
  refine (zz42 (run_any (kq := true) (K := 91) (show MvIs V12 (.pointer (some ⟨b2, 0, none⟩)) (some b2) (some (MS.new nn li te pi)) from .inr ⟨b2, _, rfl, rfl, rfl, S12.out.b.1, HMY2.out, HLb2.out⟩) ((HPC.out.below S12.out.h).mono (by omega)) ((HQC.out.below S12.out.h).mono (by omega)) HDV.out (fun n hl => HSZ.out.ok HDV.out true n hl) (by omega) (by omega) (Nat.le_trans HLO.out S12.out.h.size))).mono ?_
  rintro e V13 ⟨⟨q2, r2, s2, e2, o2⟩, z2o, z2n, z2c, y2o, y2n, y2c, hu, rfl, hq, hr, hmv, hgr⟩; obtain ⟨t2, rfl, htf2, hc2⟩ := zz48 hu; have hms := MvIs.some hmv; have HOK2 := hid (And.intro hms.2 htf2)
  have S13 : Hid (Sx w V13 [⟨b2, mc (t2)⟩, ⟨mb, [.int .i64 nn, .int .i64 li, .int .i64 te, .int .i64 pi]⟩, ⟨nb, [.int .i64 (9), .int .i64 (nn)]⟩, ⟨b, mc (t0)⟩, ⟨w.heap.size, [.int .i64 fu, .int .i64 li, .int .i64 te, .int .i64 pi]⟩] []) := S12.out.own [] [⟨mb, [.int .i64 nn, .int .i64 li, .int .i64 te, .int .i64 pi]⟩, ⟨nb, [.int .i64 (9), .int .i64 (nn)]⟩, ⟨b, mc (t0)⟩, ⟨w.heap.size, [.int .i64 fu, .int .i64 li, .int .i64 te, .int .i64 pi]⟩] hms.1 hgr
  have Z2_3 := hid (show Pc 91 V13 z2o z2n z2c q2 from hq); have R2_3 := hid (show Pc 91 V13 y2o y2n y2c r2 from hr); clear hms hmv hgr hq hr S12 htf2 hu; clear Z2_3; clear R2_3; have HC2 := hid hc2; clear hc2; obtain ⟨u1, hu1⟩ : ∃ x, x = (z0n : Int) + (y0n : Int) := ⟨_, rfl⟩; obtain ⟨u2, hu2⟩ : ∃ x, x = u1 + (s0 : Int) := ⟨_, rfl⟩
  have hw1 : IntKind.i64.wrap ((z0n : Int) + (y0n : Int)) = u1 := by have := HZN.out; rw [← hu1]; exact IntWalk.i64_in _ ⟨by omega, by omega⟩
  have hw2 : IntKind.i64.wrap (u1 + (s0 : Int)) = u2 := by have := HZN.out; rw [← hu2]; exact IntWalk.i64_in _ ⟨by omega, by omega⟩
  have hu0 : (u2 == 0) = true := by have := HZN.out; simp; omega
  clear hu1 hu2
  have hfl : ∀ (x y : Int) (W : World), (Instr.field 59 (.agg #[.int .i64 x, .int .i64 y]) 1).run Tryz.prog W = .ok (.int .i64 y) W := fun _ _ _ => by kernel_rfl
  by_cases hze : e2 = 9
  ·subst hze
   obtain ⟨n2, hn2⟩ : ∃ z, z = t2.n := ⟨_, rfl⟩
   have hlt : decide (nn < n2) = true := decide_eq_true (by have := HNE.out; rw [hn2]; rcases HC2.out with ⟨h, _⟩ | ⟨_, _, _, _, h | h | h⟩ <;> omega)
   have HN : Hid (∀ V, Cells V b2 (mc t2) → Calls Tryz.prog 28 #[.pointer (some ⟨b2, 0, none⟩)] V (RetB (.agg #[.int .i64 t2.wh, .int .i64 n2]) V)) := fun V h => by have h1 := zz110 h; rwa [← hn2] at h1
   clear HC2 hn2
   go_upto_region 29 with (fail)
   refine wp_region_held_drew (S := fun w' => w'.cell? ⟨nb, 0, none⟩ = some (.int .i64 9) ∧ w'.cell? ⟨nb, 1, none⟩ = some (.int .i64 nn)) (by kernel_rfl) S13.out.b.t.t.1.c2 (fun hH => ?_)
   refine zz10 (fun V14 hW => ?_)
   have hB : Below V13.heap.size V13 V14 := by rw [hW]; exact (Below.refl _ _).drew
   have S14 : Hid (Sx w V14 [⟨b2, mc (t2)⟩, ⟨mb, [.int .i64 nn, .int .i64 li, .int .i64 te, .int .i64 pi]⟩, ⟨nb, [.int .i64 (9), .int .i64 (nn)]⟩, ⟨b, mc (t0)⟩, ⟨w.heap.size, [.int .i64 fu, .int .i64 li, .int .i64 te, .int .i64 pi]⟩] []) := S13.out.step hB
   rw [← hW] at hH; clear hW hB S13
   refine son 0 hH ?_
   try simp only [nrm]
   refine son 1 hH ?_
   try simp only [nrm]
   refine son 2 hH ?_
   try simp only [nrm]
   refine son 3 hH ?_
   try simp only [nrm]
   refine son 4 hH ?_
   try simp only [nrm]
   refine son 5 hH ?_
   try simp only [nrm]
   refine son 6 hH ?_
   try simp only [nrm]
   refine son 7 hH ?_
   try simp only [nrm]
   refine son 8 hH ?_
   try simp only [nrm]
   refine son 9 hH ?_
   try simp only [nrm]
   refine son 10 hH ?_
   try simp only [nrm]
   refine son 11 hH ?_
   try simp only [nrm]
   refine son 12 hH ?_
   try simp only [nrm]
   refine son 13 hH ?_
   try simp only [nrm]
   refine son 14 hH ?_
   try simp only [nrm]
   refine son 15 hH ?_
   try simp only [nrm]
   refine son 16 hH ?_
   try simp only [nrm]
   refine son 17 hH ?_
   try simp only [nrm]
   refine son 18 hH ?_
   try simp only [nrm]
   refine son 19 hH ?_
   try simp only [nrm]
   refine son 22 hH ?_
   try simp only [nrm]
   refine son 23 hH ?_
   try simp only [nrm]
   refine zz178 20 rfl (by kernel_rfl) (fun KK hK => ?_)
   go_simp; refine (HN.out _ S14.out.b.1).mono ?_
   rintro e V15 ⟨rfl, hB⟩
   have S15 : Hid (Sx w V15 [⟨b2, mc (t2)⟩, ⟨mb, [.int .i64 nn, .int .i64 li, .int .i64 te, .int .i64 pi]⟩, ⟨nb, [.int .i64 (9), .int .i64 (nn)]⟩, ⟨b, mc (t0)⟩, ⟨w.heap.size, [.int .i64 fu, .int .i64 li, .int .i64 te, .int .i64 pi]⟩] []) := S14.out.step hB
   clear hB S14; go_wp2_with fail
   clear hH; refine hK.out _ _ S15.out.b.t.t.1.c2 fun hH => ?_; clear hK KK
   try simp only [nrm]
   refine son 21 hH ?_
   try simp only [nrm]
   refine son 24 hH ?_
   try simp only [nrm]
   refine son 25 hH ?_
   try simp only [nrm]
   refine son 26 hH ?_
   try simp only [nrm]
   refine sof 27 hH ?_
   try simp only [nrm]
   refine sof 28 hH ?_
   try simp only [nrm]
   refine sof 29 hH ?_
   try simp only [nrm]
   refine sof 30 hH ?_
   try simp only [nrm]
   refine sof 31 hH ?_
   try simp only [nrm]
   refine son 32 hH ?_
   try simp only [nrm]
   refine son 33 hH ?_
   try simp only [nrm]
   refine son 34 hH ?_
   try simp only [nrm]
   refine zz178 35 rfl (by kernel_rfl) (fun KK hK => ?_)
   go_simp; refine (zz94 _ (Nat.le_trans HLO.out S15.out.h.size)).mono ?_
   rintro e V16 ⟨rfl, hB⟩
   have S16 : Hid (Sx w V16 [⟨b2, mc (t2)⟩, ⟨mb, [.int .i64 nn, .int .i64 li, .int .i64 te, .int .i64 pi]⟩, ⟨nb, [.int .i64 (9), .int .i64 (nn)]⟩, ⟨b, mc (t0)⟩, ⟨w.heap.size, [.int .i64 fu, .int .i64 li, .int .i64 te, .int .i64 pi]⟩] []) := S15.out.step hB
   clear hB S15; go_wp2_with fail
   clear hH; refine hK.out _ _ S16.out.b.t.t.1.c2 fun hH => ?_; clear hK KK
   try simp only [nrm]
   refine son 36 hH ?_
   try simp only [nrm]
   refine son 37 hH ?_
   try simp only [nrm]
   refine wpAnyH_done (by kernel_rfl) ?_ _
   clear hH; go_wp2_with fail
   go_ret
   exact ⟨rfl, S16.out.h⟩
  have hne : (e2 != 9) = true := by simpa using hze
  clear HC2 hze
  go_upto_region 29 with (fail)
  refine wp_region_held_drew (S := fun w' => w'.cell? ⟨nb, 0, none⟩ = some (.int .i64 9) ∧ w'.cell? ⟨nb, 1, none⟩ = some (.int .i64 nn)) (by kernel_rfl) S13.out.b.t.t.1.c2 (fun hH => ?_)
  refine zz10 (fun V14 hW => ?_)
  have hB : Below V13.heap.size V13 V14 := by rw [hW]; exact (Below.refl _ _).drew
  have S14 : Hid (Sx w V14 [⟨b2, mc (t2)⟩, ⟨mb, [.int .i64 nn, .int .i64 li, .int .i64 te, .int .i64 pi]⟩, ⟨nb, [.int .i64 (9), .int .i64 (nn)]⟩, ⟨b, mc (t0)⟩, ⟨w.heap.size, [.int .i64 fu, .int .i64 li, .int .i64 te, .int .i64 pi]⟩] []) := S13.out.step hB
  rw [← hW] at hH; clear hW hB S13
  refine son 0 hH ?_
  try simp only [nrm]
  refine son 1 hH ?_
  try simp only [nrm]
  refine son 2 hH ?_
  try simp only [nrm]
  refine son 3 hH ?_
  try simp only [nrm]
  refine son 4 hH ?_
  try simp only [nrm]
  refine son 5 hH ?_
  try simp only [nrm]
  refine son 6 hH ?_
  try simp only [nrm]
  refine son 7 hH ?_
  try simp only [nrm]
  refine son 8 hH ?_
  try simp only [nrm]
  refine son 9 hH ?_
  try simp only [nrm]
  refine son 10 hH ?_
  try simp only [nrm]
  refine son 11 hH ?_
  try simp only [nrm]
  refine son 12 hH ?_
  try simp only [nrm]
  refine son 13 hH ?_
  try simp only [nrm]
  refine son 14 hH ?_
  try simp only [nrm]
  refine son 15 hH ?_
  try simp only [nrm]
  refine son 16 hH ?_
  try simp only [nrm]
  refine son 17 hH ?_
  try simp only [nrm]
  refine son 18 hH ?_
  try simp only [nrm]
  refine sof 19 hH ?_
  try simp only [nrm]
  refine sof 20 hH ?_
  try simp only [nrm]
  refine sof 21 hH ?_
  try simp only [nrm]
  refine sof 22 hH ?_
  try simp only [nrm]
  refine sof 23 hH ?_
  try simp only [nrm]
  refine sof 24 hH ?_
  try simp only [nrm]
  refine son 25 hH ?_
  try simp only [nrm]
  refine son 26 hH ?_
  try simp only [nrm]
  refine sof 27 hH ?_
  try simp only [nrm]
  refine sof 28 hH ?_
  try simp only [nrm]
  refine sof 29 hH ?_
  try simp only [nrm]
  refine sof 30 hH ?_
  try simp only [nrm]
  refine sof 31 hH ?_
  try simp only [nrm]
  refine son 32 hH ?_
  try simp only [nrm]
  refine son 33 hH ?_
  try simp only [nrm]
  refine son 34 hH ?_
  try simp only [nrm]
  refine zz178 35 rfl (by kernel_rfl) (fun KK hK => ?_)
  go_simp; refine (zz94 _ (Nat.le_trans HLO.out S14.out.h.size)).mono ?_
  rintro e V15 ⟨rfl, hB⟩
  have S15 : Hid (Sx w V15 [⟨b2, mc (t2)⟩, ⟨mb, [.int .i64 nn, .int .i64 li, .int .i64 te, .int .i64 pi]⟩, ⟨nb, [.int .i64 (9), .int .i64 (nn)]⟩, ⟨b, mc (t0)⟩, ⟨w.heap.size, [.int .i64 fu, .int .i64 li, .int .i64 te, .int .i64 pi]⟩] []) := S14.out.step hB
  clear hB S14; go_wp2_with fail
  clear hH; refine hK.out _ _ S15.out.b.t.t.1.c2 fun hH => ?_; clear hK KK
  try simp only [nrm]
  refine son 36 hH ?_
  try simp only [nrm]
  refine son 37 hH ?_
  try simp only [nrm]
  refine wpAnyH_done (by kernel_rfl) ?_ _
  clear hH; go_wp2_with fail
  go_ret
  exact ⟨rfl, S15.out.h⟩
 ·go_wp2_with fail
  refine (zz42 (run_any (kq := true) (K := 91) (HMN.out _) ((HPC.out.below S5.out.h).mono (by omega)) ((HQC.out.below S5.out.h).mono (by omega)) HDV.out (fun n hl => HSZ.out.ok HDV.out true n hl) (by omega) (by omega) (Nat.le_trans HLO.out S5.out.h.size))).mono ?_
  rintro e V6 ⟨⟨q1, r1, s1, e1, o1⟩, z1o, z1n, z1c, y1o, y1n, y1c, hu, rfl, hq, hr, hmv, hgr⟩; have hB := zz14 hgr
  have S6 : Hid (Sx w V6 [⟨b, mc (t0)⟩, ⟨w.heap.size, [.int .i64 fu, .int .i64 li, .int .i64 te, .int .i64 pi]⟩] []) := S5.out.step hB
  have Z1_1 := hid (show Pc 91 V6 z1o z1n z1c q1 from hq); have R1_1 := hid (show Pc 91 V6 y1o y1n y1c r1 from hr); clear hmv hgr hB hq hr S5; clear Z1_1; clear R1_1; clear hu; obtain ⟨z0, hz0⟩ : ∃ z, z = t0.st := ⟨_, rfl⟩; obtain ⟨nn, hnn⟩ : ∃ z, z = t0.n := ⟨_, rfl⟩; rw [← hnn] at hn
  have df : decide (fu < z0) = false := decide_eq_false (by have h1 := HOK0.out.1.s1; have h2 := HOK0.out.2; omega)
  have HF : Hid (∀ V, Cells V b (mc (t0)) → Calls Tryz.prog 26 #[.pointer (some ⟨b, 0, none⟩)] V fun e V' => e = .returned (.int .i64 (z0)) ∧ V = V') := fun V h => by have h1 := zz109 h; rwa [← hz0] at h1
  have HW := hid (And.intro hwh hnn); have HNE := hid hn; clear hwh hnn hz0 hn
  go_upto_region 8 with (fail)
  refine wp_region_held_drew (S := fun w' => w'.cell? ⟨w.heap.size, 0, none⟩ = some (.int .i64 fu)) (by kernel_rfl) S6.out.b.t.1.c4.1 (fun hH => ?_)
  refine zz10 (fun V7 hW => ?_)
  have hB : Below V6.heap.size V6 V7 := by rw [hW]; exact (Below.refl _ _).drew
  have S7 : Hid (Sx w V7 [⟨b, mc (t0)⟩, ⟨w.heap.size, [.int .i64 fu, .int .i64 li, .int .i64 te, .int .i64 pi]⟩] []) := S6.out.step hB
  rw [← hW] at hH; clear hW hB S6
  refine son 0 hH ?_
  try simp only [nrm]
  refine son 2 hH ?_
  try simp only [nrm]
  refine son 3 hH ?_
  try simp only [nrm]
  refine zz178 1 rfl (by kernel_rfl) (fun KK hK => ?_)
  go_simp; refine (HF.out _ S7.out.b.1).mono ?_
  rintro e V70 ⟨rfl, rfl⟩; go_wp2_with fail
  clear hH; refine hK.out _ _ S7.out.b.t.1.c4.1 fun hH => ?_; clear hK KK
  try simp only [nrm]
  refine son 4 hH ?_
  try simp only [nrm]
  refine son 5 hH ?_
  try simp only [nrm]
  refine son 6 hH ?_
  try simp only [nrm]
  refine son 7 hH ?_
  try simp only [nrm]
  refine son 8 hH ?_
  try simp only [nrm]
  refine sof 9 hH ?_
  try simp only [nrm]
  refine sof 10 hH ?_
  try simp only [nrm]
  refine sof 11 hH ?_
  try simp only [nrm]
  refine sof 12 hH ?_
  try simp only [nrm]
  refine sof 13 hH ?_
  try simp only [nrm]
  refine sof 14 hH ?_
  try simp only [nrm]
  refine sof 15 hH ?_
  try simp only [nrm]
  refine sof 16 hH ?_
  try simp only [nrm]
  refine sof 17 hH ?_
  try simp only [nrm]
  refine sof 18 hH ?_
  try simp only [nrm]
  refine sof 19 hH ?_
  try simp only [nrm]
  refine sof 20 hH ?_
  try simp only [nrm]
  refine sof 21 hH ?_
  try simp only [nrm]
  refine sof 22 hH ?_
  try simp only [nrm]
  refine sof 23 hH ?_
  try simp only [nrm]
  refine sof 24 hH ?_
  try simp only [nrm]
  refine sof 25 hH ?_
  try simp only [nrm]
  refine sof 26 hH ?_
  try simp only [nrm]
  refine sof 27 hH ?_
  try simp only [nrm]
  refine sof 28 hH ?_
  try simp only [nrm]
  refine sof 29 hH ?_
  try simp only [nrm]
  refine sof 30 hH ?_
  try simp only [nrm]
  refine sof 31 hH ?_
  try simp only [nrm]
  refine sof 32 hH ?_
  try simp only [nrm]
  refine sof 33 hH ?_
  try simp only [nrm]
  refine son 34 hH ?_
  try simp only [nrm]
  refine son 35 hH ?_
  try simp only [nrm]
  refine wpAnyH_done (by kernel_rfl) ?_ _
  clear hH; clear df
  have HN : Hid (∀ V, Cells V b (mc (t0)) → Calls Tryz.prog 28 #[.pointer (some ⟨b, 0, none⟩)] V (RetB (.agg #[.int .i64 (10), .int .i64 (nn)]) V)) := fun V h => by have h1 := zz110 h; rwa [HW.out.1, ← HW.out.2] at h1
  go_wp2_with fail; refine (HN.out _ S7.out.b.1).mono ?_
  rintro e V8 ⟨rfl, hB⟩
  have S8 : Hid (Sx w V8 [⟨b, mc (t0)⟩, ⟨w.heap.size, [.int .i64 fu, .int .i64 li, .int .i64 te, .int .i64 pi]⟩] []) := S7.out.step hB
  clear hB S7
  go_upto_region 14 with (fail)
  refine zz233 (fun V9 hV => ?_)
  obtain ⟨nb, hnb⟩ : ∃ g, g = V8.heap.size := ⟨_, rfl⟩
  have S9 : Hid (Sx w V9 [⟨nb, [.int .i64 (10), .int .i64 (nn)]⟩, ⟨b, mc (t0)⟩, ⟨w.heap.size, [.int .i64 fu, .int .i64 li, .int .i64 te, .int .i64 pi]⟩] []) := by
   rw [hV]
   exact S8.out.var nb _ 59 hnb
  rw [← hnb]; clear hV hnb S8
  clear HN; obtain ⟨x0, x1, x2, x3⟩ := S9.out.b.t.t.1.c4
  go_upto_region 17 with (fail)
  refine zz233 (fun V10 hV => ?_)
  obtain ⟨mb, hmb⟩ : ∃ g, g = V9.heap.size := ⟨_, rfl⟩
  have S10 : Hid (Sx w V10 [⟨mb, [.int .i64 fu, .int .i64 li, .int .i64 te, .int .i64 pi]⟩, ⟨nb, [.int .i64 (10), .int .i64 (nn)]⟩, ⟨b, mc (t0)⟩, ⟨w.heap.size, [.int .i64 fu, .int .i64 li, .int .i64 te, .int .i64 pi]⟩] []) := by
   rw [hV]
   exact S9.out.var mb _ 25 hmb
  rw [← hmb]; clear hV hmb x0 x1 x2 x3 S9
  obtain ⟨x0, x1, x2, x3⟩ := S10.out.b.1.c4; obtain ⟨f0, f1, f2, f3⟩ := S10.out.b.1.f4; obtain ⟨n0, n1⟩ := S10.out.b.t.1.c2
  go_upto_region 25 with (fail)
  refine zz233 (fun V11 hV => ?_)
  have S11 : Hid (Sx w V11 [⟨mb, [.int .i64 fu, .int .i64 nn, .int .i64 te, .int .i64 pi]⟩, ⟨nb, [.int .i64 (10), .int .i64 (nn)]⟩, ⟨b, mc (t0)⟩, ⟨w.heap.size, [.int .i64 fu, .int .i64 li, .int .i64 te, .int .i64 pi]⟩] []) := by rw [hV]; exact S10.out.set [] [⟨nb, [.int .i64 (10), .int .i64 (nn)]⟩, ⟨b, mc (t0)⟩, ⟨w.heap.size, [.int .i64 fu, .int .i64 li, .int .i64 te, .int .i64 pi]⟩] 1 _
  clear hV x0 x1 x2 x3 f0 f1 f2 f3 n0 n1 S10; obtain ⟨x0, x1, x2, x3⟩ := S11.out.b.1.c4
  rcases Bool.eq_false_or_eq_true (mayL fu nn te pi) with hm2 | hm2
  rotate_left
  ·skip
   go_wp2_with fail; refine (mnew_no hm2).mono ?_
   rintro e V12 ⟨rfl, hB⟩
   have S12 : Hid (Sx w V12 [⟨mb, [.int .i64 fu, .int .i64 nn, .int .i64 te, .int .i64 pi]⟩, ⟨nb, [.int .i64 (10), .int .i64 (nn)]⟩, ⟨b, mc (t0)⟩, ⟨w.heap.size, [.int .i64 fu, .int .i64 li, .int .i64 te, .int .i64 pi]⟩] []) := S11.out.step hB
   clear hB S11; go_wp2_with fail; refine (zz94 _ (Nat.le_trans HLO.out S12.out.h.size)).mono ?_; rintro e V13 ⟨rfl, hB⟩
   have S13 : Hid (Sx w V13 [⟨mb, [.int .i64 fu, .int .i64 nn, .int .i64 te, .int .i64 pi]⟩, ⟨nb, [.int .i64 (10), .int .i64 (nn)]⟩, ⟨b, mc (t0)⟩, ⟨w.heap.size, [.int .i64 fu, .int .i64 li, .int .i64 te, .int .i64 pi]⟩] []) := S12.out.step hB
   clear hB S12; go_wp2_with fail
   go_ret
   exact ⟨rfl, S13.out.h⟩
  go_wp2_with fail; refine (zz111 hm2).mono ?_
  rintro e V12 ⟨b2, rfl, hC, hb, hB⟩
  have S12 : Hid (Sx w V12 [⟨b2, mc (MS.new fu nn te pi)⟩, ⟨mb, [.int .i64 fu, .int .i64 nn, .int .i64 te, .int .i64 pi]⟩, ⟨nb, [.int .i64 (10), .int .i64 (nn)]⟩, ⟨b, mc (t0)⟩, ⟨w.heap.size, [.int .i64 fu, .int .i64 li, .int .i64 te, .int .i64 pi]⟩] []) := S11.out.made hC hb hB
  have HLb2 : Hid (Ol.lo ≤ b2) := Nat.le_trans (Nat.le_trans HLO.out S11.out.h.size) hb
  clear hC hb hB x0 x1 x2 x3 S11; have HMY2 := hid (mayL_ok hm2); go_wp2_with fail
  refine (zz42 (run_any (kq := true) (K := 91) (show MvIs V12 (.pointer (some ⟨b2, 0, none⟩)) (some b2) (some (MS.new fu nn te pi)) from .inr ⟨b2, _, rfl, rfl, rfl, S12.out.b.1, HMY2.out, HLb2.out⟩) ((HPC.out.below S12.out.h).mono (by omega)) ((HQC.out.below S12.out.h).mono (by omega)) HDV.out (fun n hl => HSZ.out.ok HDV.out true n hl) (by omega) (by omega) (Nat.le_trans HLO.out S12.out.h.size))).mono ?_
  rintro e V13 ⟨⟨q2, r2, s2, e2, o2⟩, z2o, z2n, z2c, y2o, y2n, y2c, hu, rfl, hq, hr, hmv, hgr⟩; obtain ⟨t2, rfl, htf2, hc2⟩ := zz48 hu; have hms := MvIs.some hmv; have HOK2 := hid (And.intro hms.2 htf2)
  have S13 : Hid (Sx w V13 [⟨b2, mc (t2)⟩, ⟨mb, [.int .i64 fu, .int .i64 nn, .int .i64 te, .int .i64 pi]⟩, ⟨nb, [.int .i64 (10), .int .i64 (nn)]⟩, ⟨b, mc (t0)⟩, ⟨w.heap.size, [.int .i64 fu, .int .i64 li, .int .i64 te, .int .i64 pi]⟩] []) := S12.out.own [] [⟨mb, [.int .i64 fu, .int .i64 nn, .int .i64 te, .int .i64 pi]⟩, ⟨nb, [.int .i64 (10), .int .i64 (nn)]⟩, ⟨b, mc (t0)⟩, ⟨w.heap.size, [.int .i64 fu, .int .i64 li, .int .i64 te, .int .i64 pi]⟩] hms.1 hgr
  have Z2_3 := hid (show Pc 91 V13 z2o z2n z2c q2 from hq); have R2_3 := hid (show Pc 91 V13 y2o y2n y2c r2 from hr); clear hms hmv hgr hq hr S12 htf2 hu; clear Z2_3; clear R2_3; have HC2 := hid hc2; clear hc2; obtain ⟨u1, hu1⟩ : ∃ x, x = (z0n : Int) + (y0n : Int) := ⟨_, rfl⟩; obtain ⟨u2, hu2⟩ : ∃ x, x = u1 + (s0 : Int) := ⟨_, rfl⟩
  have hw1 : IntKind.i64.wrap ((z0n : Int) + (y0n : Int)) = u1 := by have := HZN.out; rw [← hu1]; exact IntWalk.i64_in _ ⟨by omega, by omega⟩
  have hw2 : IntKind.i64.wrap (u1 + (s0 : Int)) = u2 := by have := HZN.out; rw [← hu2]; exact IntWalk.i64_in _ ⟨by omega, by omega⟩
  have hu0 : (u2 == 0) = true := by have := HZN.out; simp; omega
  clear hu1 hu2
  have hfl : ∀ (x y : Int) (W : World), (Instr.field 59 (.agg #[.int .i64 x, .int .i64 y]) 1).run Tryz.prog W = .ok (.int .i64 y) W := fun _ _ _ => by kernel_rfl
  by_cases hze : e2 = 10
  ·subst hze
   obtain ⟨n2, hn2⟩ : ∃ z, z = t2.n := ⟨_, rfl⟩
   have hlt : decide (nn < n2) = true := decide_eq_true (by have := HNE.out; rw [hn2]; rcases HC2.out with ⟨h, _⟩ | ⟨_, _, _, _, h | h | h⟩ <;> omega)
   have HN : Hid (∀ V, Cells V b2 (mc t2) → Calls Tryz.prog 28 #[.pointer (some ⟨b2, 0, none⟩)] V (RetB (.agg #[.int .i64 t2.wh, .int .i64 n2]) V)) := fun V h => by have h1 := zz110 h; rwa [← hn2] at h1
   clear HC2 hn2
   go_upto_region 29 with (fail)
   refine wp_region_held_drew (S := fun w' => w'.cell? ⟨nb, 0, none⟩ = some (.int .i64 10) ∧ w'.cell? ⟨nb, 1, none⟩ = some (.int .i64 nn)) (by kernel_rfl) S13.out.b.t.t.1.c2 (fun hH => ?_)
   refine zz10 (fun V14 hW => ?_)
   have hB : Below V13.heap.size V13 V14 := by rw [hW]; exact (Below.refl _ _).drew
   have S14 : Hid (Sx w V14 [⟨b2, mc (t2)⟩, ⟨mb, [.int .i64 fu, .int .i64 nn, .int .i64 te, .int .i64 pi]⟩, ⟨nb, [.int .i64 (10), .int .i64 (nn)]⟩, ⟨b, mc (t0)⟩, ⟨w.heap.size, [.int .i64 fu, .int .i64 li, .int .i64 te, .int .i64 pi]⟩] []) := S13.out.step hB
   rw [← hW] at hH; clear hW hB S13
   refine son 0 hH ?_
   try simp only [nrm]
   refine son 1 hH ?_
   try simp only [nrm]
   refine son 2 hH ?_
   try simp only [nrm]
   refine son 3 hH ?_
   try simp only [nrm]
   refine son 4 hH ?_
   try simp only [nrm]
   refine son 5 hH ?_
   try simp only [nrm]
   refine son 6 hH ?_
   try simp only [nrm]
   refine son 7 hH ?_
   try simp only [nrm]
   refine son 8 hH ?_
   try simp only [nrm]
   refine son 9 hH ?_
   try simp only [nrm]
   refine son 10 hH ?_
   try simp only [nrm]
   refine son 11 hH ?_
   try simp only [nrm]
   refine son 12 hH ?_
   try simp only [nrm]
   refine son 13 hH ?_
   try simp only [nrm]
   refine son 14 hH ?_
   try simp only [nrm]
   refine son 15 hH ?_
   try simp only [nrm]
   refine son 16 hH ?_
   try simp only [nrm]
   refine son 17 hH ?_
   try simp only [nrm]
   refine son 18 hH ?_
   try simp only [nrm]
   refine son 19 hH ?_
   try simp only [nrm]
   refine son 22 hH ?_
   try simp only [nrm]
   refine son 23 hH ?_
   try simp only [nrm]
   refine zz178 20 rfl (by kernel_rfl) (fun KK hK => ?_)
   go_simp; refine (HN.out _ S14.out.b.1).mono ?_
   rintro e V15 ⟨rfl, hB⟩
   have S15 : Hid (Sx w V15 [⟨b2, mc (t2)⟩, ⟨mb, [.int .i64 fu, .int .i64 nn, .int .i64 te, .int .i64 pi]⟩, ⟨nb, [.int .i64 (10), .int .i64 (nn)]⟩, ⟨b, mc (t0)⟩, ⟨w.heap.size, [.int .i64 fu, .int .i64 li, .int .i64 te, .int .i64 pi]⟩] []) := S14.out.step hB
   clear hB S14; go_wp2_with fail
   clear hH; refine hK.out _ _ S15.out.b.t.t.1.c2 fun hH => ?_; clear hK KK
   try simp only [nrm]
   refine son 21 hH ?_
   try simp only [nrm]
   refine son 24 hH ?_
   try simp only [nrm]
   refine son 25 hH ?_
   try simp only [nrm]
   refine son 26 hH ?_
   try simp only [nrm]
   refine sof 27 hH ?_
   try simp only [nrm]
   refine sof 28 hH ?_
   try simp only [nrm]
   refine sof 29 hH ?_
   try simp only [nrm]
   refine sof 30 hH ?_
   try simp only [nrm]
   refine sof 31 hH ?_
   try simp only [nrm]
   refine son 32 hH ?_
   try simp only [nrm]
   refine son 33 hH ?_
   try simp only [nrm]
   refine son 34 hH ?_
   try simp only [nrm]
   refine zz178 35 rfl (by kernel_rfl) (fun KK hK => ?_)
   go_simp; refine (zz94 _ (Nat.le_trans HLO.out S15.out.h.size)).mono ?_
   rintro e V16 ⟨rfl, hB⟩
   have S16 : Hid (Sx w V16 [⟨b2, mc (t2)⟩, ⟨mb, [.int .i64 fu, .int .i64 nn, .int .i64 te, .int .i64 pi]⟩, ⟨nb, [.int .i64 (10), .int .i64 (nn)]⟩, ⟨b, mc (t0)⟩, ⟨w.heap.size, [.int .i64 fu, .int .i64 li, .int .i64 te, .int .i64 pi]⟩] []) := S15.out.step hB
   clear hB S15; go_wp2_with fail
   clear hH; refine hK.out _ _ S16.out.b.t.t.1.c2 fun hH => ?_; clear hK KK
   try simp only [nrm]
   refine son 36 hH ?_
   try simp only [nrm]
   refine son 37 hH ?_
   try simp only [nrm]
   refine wpAnyH_done (by kernel_rfl) ?_ _
   clear hH; go_wp2_with fail
   go_ret
   exact ⟨rfl, S16.out.h⟩
  have hne : (e2 != 10) = true := by simpa using hze
  clear HC2 hze
  go_upto_region 29 with (fail)
  refine wp_region_held_drew (S := fun w' => w'.cell? ⟨nb, 0, none⟩ = some (.int .i64 10) ∧ w'.cell? ⟨nb, 1, none⟩ = some (.int .i64 nn)) (by kernel_rfl) S13.out.b.t.t.1.c2 (fun hH => ?_)
  refine zz10 (fun V14 hW => ?_)
  have hB : Below V13.heap.size V13 V14 := by rw [hW]; exact (Below.refl _ _).drew
  have S14 : Hid (Sx w V14 [⟨b2, mc (t2)⟩, ⟨mb, [.int .i64 fu, .int .i64 nn, .int .i64 te, .int .i64 pi]⟩, ⟨nb, [.int .i64 (10), .int .i64 (nn)]⟩, ⟨b, mc (t0)⟩, ⟨w.heap.size, [.int .i64 fu, .int .i64 li, .int .i64 te, .int .i64 pi]⟩] []) := S13.out.step hB
  rw [← hW] at hH; clear hW hB S13
  refine son 0 hH ?_
  try simp only [nrm]
  refine son 1 hH ?_
  try simp only [nrm]
  refine son 2 hH ?_
  try simp only [nrm]
  refine son 3 hH ?_
  try simp only [nrm]
  refine son 4 hH ?_
  try simp only [nrm]
  refine son 5 hH ?_
  try simp only [nrm]
  refine son 6 hH ?_
  try simp only [nrm]
  refine son 7 hH ?_
  try simp only [nrm]
  refine son 8 hH ?_
  try simp only [nrm]
  refine son 9 hH ?_
  try simp only [nrm]
  refine son 10 hH ?_
  try simp only [nrm]
  refine son 11 hH ?_
  try simp only [nrm]
  refine son 12 hH ?_
  try simp only [nrm]
  refine son 13 hH ?_
  try simp only [nrm]
  refine son 14 hH ?_
  try simp only [nrm]
  refine son 15 hH ?_
  try simp only [nrm]
  refine son 16 hH ?_
  try simp only [nrm]
  refine son 17 hH ?_
  try simp only [nrm]
  refine son 18 hH ?_
  try simp only [nrm]
  refine sof 19 hH ?_
  try simp only [nrm]
  refine sof 20 hH ?_
  try simp only [nrm]
  refine sof 21 hH ?_
  try simp only [nrm]
  refine sof 22 hH ?_
  try simp only [nrm]
  refine sof 23 hH ?_
  try simp only [nrm]
  refine sof 24 hH ?_
  try simp only [nrm]
  refine son 25 hH ?_
  try simp only [nrm]
  refine son 26 hH ?_
  try simp only [nrm]
  refine sof 27 hH ?_
  try simp only [nrm]
  refine sof 28 hH ?_
  try simp only [nrm]
  refine sof 29 hH ?_
  try simp only [nrm]
  refine sof 30 hH ?_
  try simp only [nrm]
  refine sof 31 hH ?_
  try simp only [nrm]
  refine son 32 hH ?_
  try simp only [nrm]
  refine son 33 hH ?_
  try simp only [nrm]
  refine son 34 hH ?_
  try simp only [nrm]
  refine zz178 35 rfl (by kernel_rfl) (fun KK hK => ?_)
  go_simp; refine (zz94 _ (Nat.le_trans HLO.out S14.out.h.size)).mono ?_
  rintro e V15 ⟨rfl, hB⟩
  have S15 : Hid (Sx w V15 [⟨b2, mc (t2)⟩, ⟨mb, [.int .i64 fu, .int .i64 nn, .int .i64 te, .int .i64 pi]⟩, ⟨nb, [.int .i64 (10), .int .i64 (nn)]⟩, ⟨b, mc (t0)⟩, ⟨w.heap.size, [.int .i64 fu, .int .i64 li, .int .i64 te, .int .i64 pi]⟩] []) := S14.out.step hB
  clear hB S14; go_wp2_with fail
  clear hH; refine hK.out _ _ S15.out.b.t.t.1.c2 fun hH => ?_; clear hK KK
  try simp only [nrm]
  refine son 36 hH ?_
  try simp only [nrm]
  refine son 37 hH ?_
  try simp only [nrm]
  refine wpAnyH_done (by kernel_rfl) ?_ _
  clear hH; go_wp2_with fail
  go_ret
  exact ⟨rfl, S15.out.h⟩
 ·go_wp2_with fail
  refine (zz42 (run_any (kq := true) (K := 91) (HMN.out _) ((HPC.out.below S5.out.h).mono (by omega)) ((HQC.out.below S5.out.h).mono (by omega)) HDV.out (fun n hl => HSZ.out.ok HDV.out true n hl) (by omega) (by omega) (Nat.le_trans HLO.out S5.out.h.size))).mono ?_
  rintro e V6 ⟨⟨q1, r1, s1, e1, o1⟩, z1o, z1n, z1c, y1o, y1n, y1c, hu, rfl, hq, hr, hmv, hgr⟩; have hB := zz14 hgr
  have S6 : Hid (Sx w V6 [⟨b, mc (t0)⟩, ⟨w.heap.size, [.int .i64 fu, .int .i64 li, .int .i64 te, .int .i64 pi]⟩] []) := S5.out.step hB
  have Z1_1 := hid (show Pc 91 V6 z1o z1n z1c q1 from hq); have R1_1 := hid (show Pc 91 V6 y1o y1n y1c r1 from hr); clear hmv hgr hB hq hr S5; clear Z1_1; clear R1_1; clear hu; obtain ⟨z0, hz0⟩ : ∃ z, z = t0.st := ⟨_, rfl⟩; obtain ⟨nn, hnn⟩ : ∃ z, z = t0.n := ⟨_, rfl⟩; rw [← hnn] at hn
  have df : decide (fu < z0) = false := decide_eq_false (by have h1 := HOK0.out.1.s1; have h2 := HOK0.out.2; omega)
  have HF : Hid (∀ V, Cells V b (mc (t0)) → Calls Tryz.prog 26 #[.pointer (some ⟨b, 0, none⟩)] V fun e V' => e = .returned (.int .i64 (z0)) ∧ V = V') := fun V h => by have h1 := zz109 h; rwa [← hz0] at h1
  have HW := hid (And.intro hwh hnn); have HNE := hid hn; clear hwh hnn hz0 hn
  go_upto_region 8 with (fail)
  refine wp_region_held_drew (S := fun w' => w'.cell? ⟨w.heap.size, 0, none⟩ = some (.int .i64 fu)) (by kernel_rfl) S6.out.b.t.1.c4.1 (fun hH => ?_)
  refine zz10 (fun V7 hW => ?_)
  have hB : Below V6.heap.size V6 V7 := by rw [hW]; exact (Below.refl _ _).drew
  have S7 : Hid (Sx w V7 [⟨b, mc (t0)⟩, ⟨w.heap.size, [.int .i64 fu, .int .i64 li, .int .i64 te, .int .i64 pi]⟩] []) := S6.out.step hB
  rw [← hW] at hH; clear hW hB S6
  refine son 0 hH ?_
  try simp only [nrm]
  refine son 2 hH ?_
  try simp only [nrm]
  refine son 3 hH ?_
  try simp only [nrm]
  refine zz178 1 rfl (by kernel_rfl) (fun KK hK => ?_)
  go_simp; refine (HF.out _ S7.out.b.1).mono ?_
  rintro e V70 ⟨rfl, rfl⟩; go_wp2_with fail
  clear hH; refine hK.out _ _ S7.out.b.t.1.c4.1 fun hH => ?_; clear hK KK
  try simp only [nrm]
  refine son 4 hH ?_
  try simp only [nrm]
  refine son 5 hH ?_
  try simp only [nrm]
  refine son 6 hH ?_
  try simp only [nrm]
  refine son 7 hH ?_
  try simp only [nrm]
  refine son 8 hH ?_
  try simp only [nrm]
  refine sof 9 hH ?_
  try simp only [nrm]
  refine sof 10 hH ?_
  try simp only [nrm]
  refine sof 11 hH ?_
  try simp only [nrm]
  refine sof 12 hH ?_
  try simp only [nrm]
  refine sof 13 hH ?_
  try simp only [nrm]
  refine sof 14 hH ?_
  try simp only [nrm]
  refine sof 15 hH ?_
  try simp only [nrm]
  refine sof 16 hH ?_
  try simp only [nrm]
  refine sof 17 hH ?_
  try simp only [nrm]
  refine sof 18 hH ?_
  try simp only [nrm]
  refine sof 19 hH ?_
  try simp only [nrm]
  refine sof 20 hH ?_
  try simp only [nrm]
  refine sof 21 hH ?_
  try simp only [nrm]
  refine sof 22 hH ?_
  try simp only [nrm]
  refine sof 23 hH ?_
  try simp only [nrm]
  refine sof 24 hH ?_
  try simp only [nrm]
  refine sof 25 hH ?_
  try simp only [nrm]
  refine sof 26 hH ?_
  try simp only [nrm]
  refine sof 27 hH ?_
  try simp only [nrm]
  refine sof 28 hH ?_
  try simp only [nrm]
  refine sof 29 hH ?_
  try simp only [nrm]
  refine sof 30 hH ?_
  try simp only [nrm]
  refine sof 31 hH ?_
  try simp only [nrm]
  refine sof 32 hH ?_
  try simp only [nrm]
  refine sof 33 hH ?_
  try simp only [nrm]
  refine son 34 hH ?_
  try simp only [nrm]
  refine son 35 hH ?_
  try simp only [nrm]
  refine wpAnyH_done (by kernel_rfl) ?_ _
  clear hH; clear df
  have HN : Hid (∀ V, Cells V b (mc (t0)) → Calls Tryz.prog 28 #[.pointer (some ⟨b, 0, none⟩)] V (RetB (.agg #[.int .i64 (11), .int .i64 (nn)]) V)) := fun V h => by have h1 := zz110 h; rwa [HW.out.1, ← HW.out.2] at h1
  go_wp2_with fail; refine (HN.out _ S7.out.b.1).mono ?_
  rintro e V8 ⟨rfl, hB⟩
  have S8 : Hid (Sx w V8 [⟨b, mc (t0)⟩, ⟨w.heap.size, [.int .i64 fu, .int .i64 li, .int .i64 te, .int .i64 pi]⟩] []) := S7.out.step hB
  clear hB S7
  go_upto_region 14 with (fail)
  refine zz233 (fun V9 hV => ?_)
  obtain ⟨nb, hnb⟩ : ∃ g, g = V8.heap.size := ⟨_, rfl⟩
  have S9 : Hid (Sx w V9 [⟨nb, [.int .i64 (11), .int .i64 (nn)]⟩, ⟨b, mc (t0)⟩, ⟨w.heap.size, [.int .i64 fu, .int .i64 li, .int .i64 te, .int .i64 pi]⟩] []) := by
   rw [hV]
   exact S8.out.var nb _ 59 hnb
  rw [← hnb]; clear hV hnb S8
  clear HN; obtain ⟨x0, x1, x2, x3⟩ := S9.out.b.t.t.1.c4
  go_upto_region 17 with (fail)
  refine zz233 (fun V10 hV => ?_)
  obtain ⟨mb, hmb⟩ : ∃ g, g = V9.heap.size := ⟨_, rfl⟩
  have S10 : Hid (Sx w V10 [⟨mb, [.int .i64 fu, .int .i64 li, .int .i64 te, .int .i64 pi]⟩, ⟨nb, [.int .i64 (11), .int .i64 (nn)]⟩, ⟨b, mc (t0)⟩, ⟨w.heap.size, [.int .i64 fu, .int .i64 li, .int .i64 te, .int .i64 pi]⟩] []) := by
   rw [hV]
   exact S9.out.var mb _ 25 hmb
  rw [← hmb]; clear hV hmb x0 x1 x2 x3 S9
  obtain ⟨x0, x1, x2, x3⟩ := S10.out.b.1.c4; obtain ⟨f0, f1, f2, f3⟩ := S10.out.b.1.f4; obtain ⟨n0, n1⟩ := S10.out.b.t.1.c2
  go_upto_region 25 with (fail)
  refine zz233 (fun V11 hV => ?_)
  have S11 : Hid (Sx w V11 [⟨mb, [.int .i64 fu, .int .i64 li, .int .i64 nn, .int .i64 pi]⟩, ⟨nb, [.int .i64 (11), .int .i64 (nn)]⟩, ⟨b, mc (t0)⟩, ⟨w.heap.size, [.int .i64 fu, .int .i64 li, .int .i64 te, .int .i64 pi]⟩] []) := by rw [hV]; exact S10.out.set [] [⟨nb, [.int .i64 (11), .int .i64 (nn)]⟩, ⟨b, mc (t0)⟩, ⟨w.heap.size, [.int .i64 fu, .int .i64 li, .int .i64 te, .int .i64 pi]⟩] 2 _
  clear hV x0 x1 x2 x3 f0 f1 f2 f3 n0 n1 S10; obtain ⟨x0, x1, x2, x3⟩ := S11.out.b.1.c4
  rcases Bool.eq_false_or_eq_true (mayL fu li nn pi) with hm2 | hm2
  rotate_left
  ·skip
   go_wp2_with fail; refine (mnew_no hm2).mono ?_
   rintro e V12 ⟨rfl, hB⟩
   have S12 : Hid (Sx w V12 [⟨mb, [.int .i64 fu, .int .i64 li, .int .i64 nn, .int .i64 pi]⟩, ⟨nb, [.int .i64 (11), .int .i64 (nn)]⟩, ⟨b, mc (t0)⟩, ⟨w.heap.size, [.int .i64 fu, .int .i64 li, .int .i64 te, .int .i64 pi]⟩] []) := S11.out.step hB
   clear hB S11; go_wp2_with fail; refine (zz94 _ (Nat.le_trans HLO.out S12.out.h.size)).mono ?_; rintro e V13 ⟨rfl, hB⟩
   have S13 : Hid (Sx w V13 [⟨mb, [.int .i64 fu, .int .i64 li, .int .i64 nn, .int .i64 pi]⟩, ⟨nb, [.int .i64 (11), .int .i64 (nn)]⟩, ⟨b, mc (t0)⟩, ⟨w.heap.size, [.int .i64 fu, .int .i64 li, .int .i64 te, .int .i64 pi]⟩] []) := S12.out.step hB
   clear hB S12; go_wp2_with fail
   go_ret
   exact ⟨rfl, S13.out.h⟩
  go_wp2_with fail; refine (zz111 hm2).mono ?_
  rintro e V12 ⟨b2, rfl, hC, hb, hB⟩
  have S12 : Hid (Sx w V12 [⟨b2, mc (MS.new fu li nn pi)⟩, ⟨mb, [.int .i64 fu, .int .i64 li, .int .i64 nn, .int .i64 pi]⟩, ⟨nb, [.int .i64 (11), .int .i64 (nn)]⟩, ⟨b, mc (t0)⟩, ⟨w.heap.size, [.int .i64 fu, .int .i64 li, .int .i64 te, .int .i64 pi]⟩] []) := S11.out.made hC hb hB
  have HLb2 : Hid (Ol.lo ≤ b2) := Nat.le_trans (Nat.le_trans HLO.out S11.out.h.size) hb
  clear hC hb hB x0 x1 x2 x3 S11; have HMY2 := hid (mayL_ok hm2); go_wp2_with fail
  refine (zz42 (run_any (kq := true) (K := 91) (show MvIs V12 (.pointer (some ⟨b2, 0, none⟩)) (some b2) (some (MS.new fu li nn pi)) from .inr ⟨b2, _, rfl, rfl, rfl, S12.out.b.1, HMY2.out, HLb2.out⟩) ((HPC.out.below S12.out.h).mono (by omega)) ((HQC.out.below S12.out.h).mono (by omega)) HDV.out (fun n hl => HSZ.out.ok HDV.out true n hl) (by omega) (by omega) (Nat.le_trans HLO.out S12.out.h.size))).mono ?_
  rintro e V13 ⟨⟨q2, r2, s2, e2, o2⟩, z2o, z2n, z2c, y2o, y2n, y2c, hu, rfl, hq, hr, hmv, hgr⟩; obtain ⟨t2, rfl, htf2, hc2⟩ := zz48 hu; have hms := MvIs.some hmv; have HOK2 := hid (And.intro hms.2 htf2)
  have S13 : Hid (Sx w V13 [⟨b2, mc (t2)⟩, ⟨mb, [.int .i64 fu, .int .i64 li, .int .i64 nn, .int .i64 pi]⟩, ⟨nb, [.int .i64 (11), .int .i64 (nn)]⟩, ⟨b, mc (t0)⟩, ⟨w.heap.size, [.int .i64 fu, .int .i64 li, .int .i64 te, .int .i64 pi]⟩] []) := S12.out.own [] [⟨mb, [.int .i64 fu, .int .i64 li, .int .i64 nn, .int .i64 pi]⟩, ⟨nb, [.int .i64 (11), .int .i64 (nn)]⟩, ⟨b, mc (t0)⟩, ⟨w.heap.size, [.int .i64 fu, .int .i64 li, .int .i64 te, .int .i64 pi]⟩] hms.1 hgr
  have Z2_3 := hid (show Pc 91 V13 z2o z2n z2c q2 from hq); have R2_3 := hid (show Pc 91 V13 y2o y2n y2c r2 from hr); clear hms hmv hgr hq hr S12 htf2 hu; clear Z2_3; clear R2_3; have HC2 := hid hc2; clear hc2; obtain ⟨u1, hu1⟩ : ∃ x, x = (z0n : Int) + (y0n : Int) := ⟨_, rfl⟩; obtain ⟨u2, hu2⟩ : ∃ x, x = u1 + (s0 : Int) := ⟨_, rfl⟩
  have hw1 : IntKind.i64.wrap ((z0n : Int) + (y0n : Int)) = u1 := by have := HZN.out; rw [← hu1]; exact IntWalk.i64_in _ ⟨by omega, by omega⟩
  have hw2 : IntKind.i64.wrap (u1 + (s0 : Int)) = u2 := by have := HZN.out; rw [← hu2]; exact IntWalk.i64_in _ ⟨by omega, by omega⟩
  have hu0 : (u2 == 0) = true := by have := HZN.out; simp; omega
  clear hu1 hu2
  have hfl : ∀ (x y : Int) (W : World), (Instr.field 59 (.agg #[.int .i64 x, .int .i64 y]) 1).run Tryz.prog W = .ok (.int .i64 y) W := fun _ _ _ => by kernel_rfl
  by_cases hze : e2 = 11
  ·subst hze
   obtain ⟨n2, hn2⟩ : ∃ z, z = t2.n := ⟨_, rfl⟩
   have hlt : decide (nn < n2) = true := decide_eq_true (by have := HNE.out; rw [hn2]; rcases HC2.out with ⟨h, _⟩ | ⟨_, _, _, _, h | h | h⟩ <;> omega)
   have HN : Hid (∀ V, Cells V b2 (mc t2) → Calls Tryz.prog 28 #[.pointer (some ⟨b2, 0, none⟩)] V (RetB (.agg #[.int .i64 t2.wh, .int .i64 n2]) V)) := fun V h => by have h1 := zz110 h; rwa [← hn2] at h1
   clear HC2 hn2
   go_upto_region 29 with (fail)
   refine wp_region_held_drew (S := fun w' => w'.cell? ⟨nb, 0, none⟩ = some (.int .i64 11) ∧ w'.cell? ⟨nb, 1, none⟩ = some (.int .i64 nn)) (by kernel_rfl) S13.out.b.t.t.1.c2 (fun hH => ?_)
   refine zz10 (fun V14 hW => ?_)
   have hB : Below V13.heap.size V13 V14 := by rw [hW]; exact (Below.refl _ _).drew
   have S14 : Hid (Sx w V14 [⟨b2, mc (t2)⟩, ⟨mb, [.int .i64 fu, .int .i64 li, .int .i64 nn, .int .i64 pi]⟩, ⟨nb, [.int .i64 (11), .int .i64 (nn)]⟩, ⟨b, mc (t0)⟩, ⟨w.heap.size, [.int .i64 fu, .int .i64 li, .int .i64 te, .int .i64 pi]⟩] []) := S13.out.step hB
   rw [← hW] at hH; clear hW hB S13
   refine son 0 hH ?_
   try simp only [nrm]
   refine son 1 hH ?_
   try simp only [nrm]
   refine son 2 hH ?_
   try simp only [nrm]
   refine son 3 hH ?_
   try simp only [nrm]
   refine son 4 hH ?_
   try simp only [nrm]
   refine son 5 hH ?_
   try simp only [nrm]
   refine son 6 hH ?_
   try simp only [nrm]
   refine son 7 hH ?_
   try simp only [nrm]
   refine son 8 hH ?_
   try simp only [nrm]
   refine son 9 hH ?_
   try simp only [nrm]
   refine son 10 hH ?_
   try simp only [nrm]
   refine son 11 hH ?_
   try simp only [nrm]
   refine son 12 hH ?_
   try simp only [nrm]
   refine son 13 hH ?_
   try simp only [nrm]
   refine son 14 hH ?_
   try simp only [nrm]
   refine son 15 hH ?_
   try simp only [nrm]
   refine son 16 hH ?_
   try simp only [nrm]
   refine son 17 hH ?_
   try simp only [nrm]
   refine son 18 hH ?_
   try simp only [nrm]
   refine son 19 hH ?_
   try simp only [nrm]
   refine son 22 hH ?_
   try simp only [nrm]
   refine son 23 hH ?_
   try simp only [nrm]
   refine zz178 20 rfl (by kernel_rfl) (fun KK hK => ?_)
   go_simp; refine (HN.out _ S14.out.b.1).mono ?_
   rintro e V15 ⟨rfl, hB⟩
   have S15 : Hid (Sx w V15 [⟨b2, mc (t2)⟩, ⟨mb, [.int .i64 fu, .int .i64 li, .int .i64 nn, .int .i64 pi]⟩, ⟨nb, [.int .i64 (11), .int .i64 (nn)]⟩, ⟨b, mc (t0)⟩, ⟨w.heap.size, [.int .i64 fu, .int .i64 li, .int .i64 te, .int .i64 pi]⟩] []) := S14.out.step hB
   clear hB S14; go_wp2_with fail
   clear hH; refine hK.out _ _ S15.out.b.t.t.1.c2 fun hH => ?_; clear hK KK
   try simp only [nrm]
   refine son 21 hH ?_
   try simp only [nrm]
   refine son 24 hH ?_
   try simp only [nrm]
   refine son 25 hH ?_
   try simp only [nrm]
   refine son 26 hH ?_
   try simp only [nrm]
   refine sof 27 hH ?_
   try simp only [nrm]
   refine sof 28 hH ?_
   try simp only [nrm]
   refine sof 29 hH ?_
   try simp only [nrm]
   refine sof 30 hH ?_
   try simp only [nrm]
   refine sof 31 hH ?_
   try simp only [nrm]
   refine son 32 hH ?_
   try simp only [nrm]
   refine son 33 hH ?_
   try simp only [nrm]
   refine son 34 hH ?_
   try simp only [nrm]
   refine zz178 35 rfl (by kernel_rfl) (fun KK hK => ?_)
   go_simp; refine (zz94 _ (Nat.le_trans HLO.out S15.out.h.size)).mono ?_
   rintro e V16 ⟨rfl, hB⟩
   have S16 : Hid (Sx w V16 [⟨b2, mc (t2)⟩, ⟨mb, [.int .i64 fu, .int .i64 li, .int .i64 nn, .int .i64 pi]⟩, ⟨nb, [.int .i64 (11), .int .i64 (nn)]⟩, ⟨b, mc (t0)⟩, ⟨w.heap.size, [.int .i64 fu, .int .i64 li, .int .i64 te, .int .i64 pi]⟩] []) := S15.out.step hB
   clear hB S15; go_wp2_with fail
   clear hH; refine hK.out _ _ S16.out.b.t.t.1.c2 fun hH => ?_; clear hK KK
   try simp only [nrm]
   refine son 36 hH ?_
   try simp only [nrm]
   refine son 37 hH ?_
   try simp only [nrm]
   refine wpAnyH_done (by kernel_rfl) ?_ _
   clear hH; go_wp2_with fail
   go_ret
   exact ⟨rfl, S16.out.h⟩
  have hne : (e2 != 11) = true := by simpa using hze
  clear HC2 hze
  go_upto_region 29 with (fail)
  refine wp_region_held_drew (S := fun w' => w'.cell? ⟨nb, 0, none⟩ = some (.int .i64 11) ∧ w'.cell? ⟨nb, 1, none⟩ = some (.int .i64 nn)) (by kernel_rfl) S13.out.b.t.t.1.c2 (fun hH => ?_)
  refine zz10 (fun V14 hW => ?_)
  have hB : Below V13.heap.size V13 V14 := by rw [hW]; exact (Below.refl _ _).drew
  have S14 : Hid (Sx w V14 [⟨b2, mc (t2)⟩, ⟨mb, [.int .i64 fu, .int .i64 li, .int .i64 nn, .int .i64 pi]⟩, ⟨nb, [.int .i64 (11), .int .i64 (nn)]⟩, ⟨b, mc (t0)⟩, ⟨w.heap.size, [.int .i64 fu, .int .i64 li, .int .i64 te, .int .i64 pi]⟩] []) := S13.out.step hB
  rw [← hW] at hH; clear hW hB S13
  refine son 0 hH ?_
  try simp only [nrm]
  refine son 1 hH ?_
  try simp only [nrm]
  refine son 2 hH ?_
  try simp only [nrm]
  refine son 3 hH ?_
  try simp only [nrm]
  refine son 4 hH ?_
  try simp only [nrm]
  refine son 5 hH ?_
  try simp only [nrm]
  refine son 6 hH ?_
  try simp only [nrm]
  refine son 7 hH ?_
  try simp only [nrm]
  refine son 8 hH ?_
  try simp only [nrm]
  refine son 9 hH ?_
  try simp only [nrm]
  refine son 10 hH ?_
  try simp only [nrm]
  refine son 11 hH ?_
  try simp only [nrm]
  refine son 12 hH ?_
  try simp only [nrm]
  refine son 13 hH ?_
  try simp only [nrm]
  refine son 14 hH ?_
  try simp only [nrm]
  refine son 15 hH ?_
  try simp only [nrm]
  refine son 16 hH ?_
  try simp only [nrm]
  refine son 17 hH ?_
  try simp only [nrm]
  refine son 18 hH ?_
  try simp only [nrm]
  refine sof 19 hH ?_
  try simp only [nrm]
  refine sof 20 hH ?_
  try simp only [nrm]
  refine sof 21 hH ?_
  try simp only [nrm]
  refine sof 22 hH ?_
  try simp only [nrm]
  refine sof 23 hH ?_
  try simp only [nrm]
  refine sof 24 hH ?_
  try simp only [nrm]
  refine son 25 hH ?_
  try simp only [nrm]
  refine son 26 hH ?_
  try simp only [nrm]
  refine sof 27 hH ?_
  try simp only [nrm]
  refine sof 28 hH ?_
  try simp only [nrm]
  refine sof 29 hH ?_
  try simp only [nrm]
  refine sof 30 hH ?_
  try simp only [nrm]
  refine sof 31 hH ?_
  try simp only [nrm]
  refine son 32 hH ?_
  try simp only [nrm]
  refine son 33 hH ?_
  try simp only [nrm]
  refine son 34 hH ?_
  try simp only [nrm]
  refine zz178 35 rfl (by kernel_rfl) (fun KK hK => ?_)
  go_simp; refine (zz94 _ (Nat.le_trans HLO.out S14.out.h.size)).mono ?_
  rintro e V15 ⟨rfl, hB⟩
  have S15 : Hid (Sx w V15 [⟨b2, mc (t2)⟩, ⟨mb, [.int .i64 fu, .int .i64 li, .int .i64 nn, .int .i64 pi]⟩, ⟨nb, [.int .i64 (11), .int .i64 (nn)]⟩, ⟨b, mc (t0)⟩, ⟨w.heap.size, [.int .i64 fu, .int .i64 li, .int .i64 te, .int .i64 pi]⟩] []) := S14.out.step hB
  clear hB S14; go_wp2_with fail
  clear hH; refine hK.out _ _ S15.out.b.t.t.1.c2 fun hH => ?_; clear hK KK
  try simp only [nrm]
  refine son 36 hH ?_
  try simp only [nrm]
  refine son 37 hH ?_
  try simp only [nrm]
  refine wpAnyH_done (by kernel_rfl) ?_ _
  clear hH; go_wp2_with fail
  go_ret
  exact ⟨rfl, S15.out.h⟩
theorem pseudoBounds_any [Ol] {fu li te pi : Int} {ao bo : Option Addr} {n cap m cb : Nat} {ps qs : List Raw} {w : World} (v : Int) (hp : Pr w ao n cap ps) (hq : Pr w bo m cb qs) (hlo : Ol.lo ≤ w.heap.size) : Calls Tryz.prog 5 #[.slice ao n cap, .slice bo m cb, .int .i64 v, .agg #[.int .i64 fu, .int .i64 li, .int .i64 te, .int .i64 pi]] w (RetB (.bool true) w) := by
 cases hmay : mayL fu li te pi with
 | false => exact pbd_no v hp hq hlo hmay
 | true =>
  cases h1 : mayR ps with
  | false => exact pbd_bad1 v hp hq hlo hmay h1
  | true =>
   by_cases h2 : degP (plnR qs) v = 0
   ·exact pbd_bad2 v hp hq hlo hmay h1 h2
   ·cases h3 : mayR qs with
    | false => rw [pln_no h3] at h2; exact absurd rfl h2
    | true =>
     obtain ⟨hfp, hpp⟩ := zz106 hp.wf' h1; obtain ⟨hfq, hqq⟩ := zz106 hq.wf' h3; rw [pln_yes h3] at h2
     generalize ps.map rawV = p at hpp hfp
     generalize qs.map rawV = q at hqq hfq h2
     subst hpp; subst hqq
     have hv : 1 ≤ v ∧ v ≤ 200 := Classical.byContradiction fun h => h2 (degP_out (zz58 hfq) (by omega))
     exact pbd_main v hp hq hlo hmay hfp hfq hv (by have := zz38 q v; omega)
end Go.Proofs.YtodcddkiodmklaaGreat

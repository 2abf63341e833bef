/- PlEq, PlSame, PKnownP, PX, PGreat, PCopy, PrFacts -/
import Derived.Test.YtmmgipcacceakaaGP2
import Derived.Laws.StructEq
set_option maxHeartbeats 40000000
set_option maxRecDepth 100000
namespace Go.Proofs.Ytmmgipcacceakaa
open Lib (hid)
open Go.RowKit
theorem eqs_any (r : Bool) {ao bo : Option Addr} {n cap l cb : Nat} {xs ys : List Nat} {w : World} (hp : Sl w ao n cap xs) (hq : Sl w bo l cb ys) (h : decide (xs = ys) = r) :
  Calls Try.prog 49 #[.slice ao n cap, .slice bo l cb] w (RetB (.bool r) w) := by
 have hbig := hp.big; have hbig2 := hq.big; have HLP := hid hp.len; have HLQ := hid hq.len; have HP := hid hp; have HQ := hid hq; have HR := hid h; clear hp hq h
 by_cases hnl : n = l
 ·subst hnl
  have hd2 : ((n : Int) != (n : Int)) = false := by simp
  go_enter Try.func49, Try.ntmps49
  go_wp2
  go_loopw [13] (fun i wr => ∃ k : Nat, i = .int .i64 k ∧ k ≤ n ∧ Hid (xs.take k = ys.take k) ∧ Hid (Below w.heap.size w wr)) (fun i _ => n - (intOf i).toNat)
  case atStart => exact ⟨0, rfl, Nat.zero_le _, by simp [Hid], Below.refl _ _⟩
  case round =>
   obtain ⟨k, rfl, hk, HE, HB⟩ := hrel
   by_cases hkn : k < n
   ·have hlP : k < xs.length := by rw [HLP.out]; exact hkn
    have hlQ : k < ys.length := by rw [HLQ.out]; exact hkn
    obtain ⟨b, off, rfl, _, hca⟩ := HP.out.at (by omega)
    obtain ⟨d, dff, rfl, _, hcb⟩ := HQ.out.at (by omega)
    have h1 := hca k hkn; have h2 := hcb k hkn; obtain ⟨x, hx⟩ : ∃ x, x = xs.getD k 0 := ⟨_, rfl⟩; obtain ⟨y, hy⟩ : ∃ y, y = ys.getD k 0 := ⟨_, rfl⟩; rw [← hx] at h1; rw [← hy] at h2; have hbl := World.block_lt_of_cell? w _ h1; have hdl := World.block_lt_of_cell? w _ h2
    have HC : Hid (∀ V : World, Below w.heap.size w V → V.cell? ⟨b, off + k, none⟩ = some (.int .u32 x) ∧ V.cell? ⟨d, dff + k, none⟩ = some (.int .u32 y)) := fun V hV => ⟨(hV.cell hbl).trans h1, (hV.cell hdl).trans h2⟩
    have HX := hid hx; have HY := hid hy; clear hx hy h1 h2 hbl hdl hca hcb
    by_cases hxy : x = y
    ·have hne : ((x : Int) != (y : Int)) = false := by simp [hxy]
     have HE2 : Hid (xs.take (k + 1) = ys.take (k + 1)) := by
      rw [Hid, List.take_succ_eq_append_getElem hlP, List.take_succ_eq_append_getElem hlQ, HE.out, ← getD_of 0 hlP, ← getD_of 0 hlQ, ← HX.out, ← HY.out, hxy]
     clear hxy
     go_upto_region 6 with (fail)
     refine wp_region_held_drew (S := fun w' => w'.cell? ⟨b, off + k, none⟩ = some (.int .u32 x) ∧ w'.cell? ⟨d, dff + k, none⟩ = some (.int .u32 y)) (by kernel_rfl) (HC.out _ HB.out.drew) (fun hH => ?_)
     refine anyH_world (fun w8 hW => ?_)
     have HB8 : Hid (Below w.heap.size w w8) := by rw [hW]; exact HB.out.drew
     rw [← hW] at hH; clear hW HB
     refine son 0 hH ?_; try simp only [nrm]
     refine son 1 hH ?_; try simp only [nrm]
     refine son 2 hH ?_; try simp only [nrm]
     refine son 3 hH ?_; try simp only [nrm]
     refine son 4 hH ?_; try simp only [nrm]
     refine son 5 hH ?_; try simp only [nrm]
     refine son 6 hH ?_; try simp only [nrm]
     refine son 7 hH ?_; try simp only [nrm]
     refine son 8 hH ?_; try simp only [nrm]
     refine wpAnyH_done (by kernel_rfl) ?_ _
     go_wp2_with fail
     go_roundw
     case rel => exact ⟨k + 1, by go_num, by omega, HE2, HB8⟩
     case measure => simp [intOf]; omega
    ·have hne : ((x : Int) != (y : Int)) = true := by simp; omega
     have HR2 : Hid (r = false) := by
      rw [Hid, ← HR.out]
      refine decide_eq_false fun e => hxy ?_
      rw [HX.out, HY.out, e]
     clear hxy
     go_upto_region 6 with (fail)
     refine wp_region_held_drew (S := fun w' => w'.cell? ⟨b, off + k, none⟩ = some (.int .u32 x) ∧ w'.cell? ⟨d, dff + k, none⟩ = some (.int .u32 y)) (by kernel_rfl) (HC.out _ HB.out.drew) (fun hH => ?_)
     refine anyH_world (fun w8 hW => ?_)
     have HB8 : Hid (Below w.heap.size w w8) := by rw [hW]; exact HB.out.drew
     rw [← hW] at hH; clear hW HB
     refine son 0 hH ?_; try simp only [nrm]
     refine son 1 hH ?_; try simp only [nrm]
     refine son 2 hH ?_; try simp only [nrm]
     refine son 3 hH ?_; try simp only [nrm]
     refine son 4 hH ?_; try simp only [nrm]
     refine son 5 hH ?_; try simp only [nrm]
     refine son 6 hH ?_; try simp only [nrm]
     refine son 7 hH ?_; try simp only [nrm]
     refine son 8 hH ?_; try simp only [nrm]
     refine wpAnyH_done (by kernel_rfl) ?_ _
     go_wp2_with fail
     go_ret
     have hr := HR2.out; subst hr
     exact ⟨rfl, HB8.out⟩
   ·obtain rfl : k = n := by omega
    have HR2 : Hid (r = true) := by
     rw [Hid, ← HR.out]; have e := HE.out
     rw [List.take_of_length_le (by rw [HLP.out]; exact Nat.le_refl _), List.take_of_length_le (by rw [HLQ.out]; exact Nat.le_refl _)] at e
     exact decide_eq_true e
    go_wp2_with fail
    go_ret
    have hr := HR2.out; subst hr
    exact ⟨rfl, HB.out⟩
 ·have HR2 : Hid (r = false) := by
   rw [Hid, ← HR.out]
   exact decide_eq_false fun e => hnl (by rw [← HLP.out, ← HLQ.out, e])
  have hd2 : ((n : Int) != (l : Int)) = true := by simp; omega
  go_enter Try.func49, Try.ntmps49
  go_wp2_with fail
  go_ret
  have hr := HR2.out; subst hr
  exact ⟨rfl, Below.refl _ _⟩
theorem neq_pow (a b c d : Int) (r : Bool) (h : (!(a == c && b == d)) = r) (W : World) : (binOp .neq 87 (.agg #[.int .i64 a, .int .i64 b]) (.agg #[.int .i64 c, .int .i64 d])).run Try.prog W = .ok (.bool r) W := by
 have u3 := Try.underlying3; have a3 := Try.isAgg3; have z3 := Try.sizeOf3
 have hS : Try.prog.underlying 87 = some (.struct (Try.prog.fieldsOf 87)) := by kernel_rfl
 have hp : Try.prog.stoodInHeld 87 = false := by kernel_rfl
 rw [run_neq_struct, show (10000 : Nat) = 9999 + 1 from rfl, run_equalIn_agg W 9999 87 _ _ hS hp]
 simp only [Program.fieldsOf, Try.underlying87]
 go_simp; subst h
 by_cases h1 : a = c <;> by_cases h2 : b = d <;> simp [h1, h2]
theorem eqm_any [Ol] (r : Bool) {ao bo : Option Addr} {n cap l cb : Nat} {xs ys : List (Int × Int)} {w : World} (hp : Ml w ao n cap xs) (hq : Ml w bo l cb ys) (h : decide (xs = ys) = r) :
  Calls Try.prog 50 #[.slice ao n cap, .slice bo l cb] w (RetB (.bool r) w) := by
 have hbig := hp.big; have hbig2 := hq.big; have HLP := hid hp.len; have HLQ := hid hq.len; have HP := hid hp; have HQ := hid hq; have HR := hid h; clear hp hq h
 by_cases hnl : n = l
 ·subst hnl
  have hd2 : ((n : Int) != (n : Int)) = false := by simp
  go_enter Try.func50, Try.ntmps50
  go_wp2
  go_loopw [13] (fun i wr => ∃ k : Nat, i = .int .i64 k ∧ k ≤ n ∧ Hid (xs.take k = ys.take k) ∧ Hid (Below w.heap.size w wr)) (fun i _ => n - (intOf i).toNat)
  case atStart => exact ⟨0, rfl, Nat.zero_le _, by simp [Hid], Below.refl _ _⟩
  case round =>
   obtain ⟨k, rfl, hk, HE, HB⟩ := hrel
   by_cases hkn : k < n
   ·have hlP : k < xs.length := by rw [HLP.out]; exact hkn
    have hlQ : k < ys.length := by rw [HLQ.out]; exact hkn
    obtain ⟨b, off, rfl, _, hca⟩ := HP.out.at (by omega)
    obtain ⟨d, dff, rfl, _, hcb⟩ := HQ.out.at (by omega)
    obtain ⟨h1, h3⟩ := hca k hkn; obtain ⟨h2, h4⟩ := hcb k hkn; obtain ⟨x, hx⟩ : ∃ x, x = xs.getD k (0, 0) := ⟨_, rfl⟩; obtain ⟨y, hy⟩ : ∃ y, y = ys.getD k (0, 0) := ⟨_, rfl⟩; rw [← hx] at h1 h3; rw [← hy] at h2 h4; obtain ⟨x1, x2⟩ := x; obtain ⟨y1, y2⟩ := y; have hbl := World.block_lt_of_cell? w _ h1; have hdl := World.block_lt_of_cell? w _ h2
    have HC : Hid (∀ V : World, Below w.heap.size w V → (V.cell? ⟨b, off + k * 2, none⟩ = some (.int .i64 x1) ∧ V.cell? ⟨b, off + k * 2 + 1, none⟩ = some (.int .i64 x2)) ∧ V.cell? ⟨d, dff + k * 2, none⟩ = some (.int .i64 y1) ∧ V.cell? ⟨d, dff + k * 2 + 1, none⟩ = some (.int .i64 y2)) := fun V hV => ⟨⟨(hV.cell hbl).trans h1, (hV.cell (p := ⟨b, off + k * 2 + 1, none⟩) hbl).trans h3⟩, (hV.cell hdl).trans h2, (hV.cell (p := ⟨d, dff + k * 2 + 1, none⟩) hdl).trans h4⟩
    clear h3 h4; have HX := hid hx; have HY := hid hy; clear hx hy h1 h2 hbl hdl hca hcb
    by_cases hxy : (x1, x2) = (y1, y2)
    ·have hne := neq_pow x1 x2 y1 y2 false (by cases hxy; simp)
     have hgd : ∀ (op : BinOp) (o1 o2 : Operand) (us vs : Array Value) (W : World), (eqGuard op 87 o1 o2 (.agg us) (.agg vs)).run Try.prog W = .ok () W := fun op o1 o2 us vs W => run_eqGuard_agg W op 87 o1 o2 us vs (by kernel_rfl)
     have HE2 : Hid (xs.take (k + 1) = ys.take (k + 1)) := by
      rw [Hid, List.take_succ_eq_append_getElem hlP, List.take_succ_eq_append_getElem hlQ, HE.out, ← getD_of (0, 0) hlP, ← getD_of (0, 0) hlQ, ← HX.out, ← HY.out, hxy]
     clear hxy
     go_upto_region 6 with (fail)
     refine wp_region_held_drew (S := fun w' => (w'.cell? ⟨b, off + k * 2, none⟩ = some (.int .i64 x1) ∧ w'.cell? ⟨b, off + k * 2 + 1, none⟩ = some (.int .i64 x2)) ∧ w'.cell? ⟨d, dff + k * 2, none⟩ = some (.int .i64 y1) ∧ w'.cell? ⟨d, dff + k * 2 + 1, none⟩ = some (.int .i64 y2)) (by kernel_rfl) (HC.out _ HB.out.drew) (fun hH => ?_)
     refine anyH_world (fun w8 hW => ?_)
     have HB8 : Hid (Below w.heap.size w w8) := by rw [hW]; exact HB.out.drew
     rw [← hW] at hH; clear hW HB
     refine son 0 hH ?_; try simp only [nrm]
     refine son 1 hH ?_; try simp only [nrm]
     refine son 2 hH ?_; try simp only [nrm]
     refine son 3 hH ?_; try simp only [nrm]
     refine son 4 hH ?_; try simp only [nrm]
     refine son 5 hH ?_; try simp only [nrm]
     refine son 6 hH ?_; try simp only [nrm]
     refine son 7 hH ?_; try simp only [nrm]
     refine son 8 hH ?_; try simp only [nrm]
     refine wpAnyH_done (by kernel_rfl) ?_ _
     go_wp2_with fail
     go_roundw
     case rel => exact ⟨k + 1, by go_num, by omega, HE2, HB8⟩
     case measure => simp [intOf]; omega
    ·have hne := neq_pow x1 x2 y1 y2 true (by by_cases e1 : x1 = y1 <;> by_cases e2 : x2 = y2 <;> simp [e1, e2]; exact hxy (by rw [e1, e2]))
     have hgd : ∀ (op : BinOp) (o1 o2 : Operand) (us vs : Array Value) (W : World), (eqGuard op 87 o1 o2 (.agg us) (.agg vs)).run Try.prog W = .ok () W := fun op o1 o2 us vs W => run_eqGuard_agg W op 87 o1 o2 us vs (by kernel_rfl)
     have HR2 : Hid (r = false) := by
      rw [Hid, ← HR.out]
      refine decide_eq_false fun e => hxy ?_
      rw [HX.out, HY.out, e]
     clear hxy
     go_upto_region 6 with (fail)
     refine wp_region_held_drew (S := fun w' => (w'.cell? ⟨b, off + k * 2, none⟩ = some (.int .i64 x1) ∧ w'.cell? ⟨b, off + k * 2 + 1, none⟩ = some (.int .i64 x2)) ∧ w'.cell? ⟨d, dff + k * 2, none⟩ = some (.int .i64 y1) ∧ w'.cell? ⟨d, dff + k * 2 + 1, none⟩ = some (.int .i64 y2)) (by kernel_rfl) (HC.out _ HB.out.drew) (fun hH => ?_)
     refine anyH_world (fun w8 hW => ?_)
     have HB8 : Hid (Below w.heap.size w w8) := by rw [hW]; exact HB.out.drew
     rw [← hW] at hH; clear hW HB
     refine son 0 hH ?_; try simp only [nrm]
     refine son 1 hH ?_; try simp only [nrm]
     refine son 2 hH ?_; try simp only [nrm]
     refine son 3 hH ?_; try simp only [nrm]
     refine son 4 hH ?_; try simp only [nrm]
     refine son 5 hH ?_; try simp only [nrm]
     refine son 6 hH ?_; try simp only [nrm]
     refine son 7 hH ?_; try simp only [nrm]
     refine son 8 hH ?_; try simp only [nrm]
     refine wpAnyH_done (by kernel_rfl) ?_ _
     go_wp2_with fail
     go_ret
     have hr := HR2.out; subst hr
     exact ⟨rfl, HB8.out⟩
   ·obtain rfl : k = n := by omega
    have HR2 : Hid (r = true) := by
     rw [Hid, ← HR.out]; have e := HE.out
     rw [List.take_of_length_le (by rw [HLP.out]; exact Nat.le_refl _), List.take_of_length_le (by rw [HLQ.out]; exact Nat.le_refl _)] at e
     exact decide_eq_true e
    go_wp2_with fail
    go_ret
    have hr := HR2.out; subst hr
    exact ⟨rfl, HB.out⟩
 ·have HR2 : Hid (r = false) := by
   rw [Hid, ← HR.out]
   exact decide_eq_false fun e => hnl (by rw [← HLP.out, ← HLQ.out, e])
  have hd2 : ((n : Int) != (l : Int)) = true := by simp; omega
  go_enter Try.func50, Try.ntmps50
  go_wp2_with fail
  go_ret
  have hr := HR2.out; subst hr
  exact ⟨rfl, Below.refl _ _⟩
open Lib (hid)
theorem same1_any [Ol] (r : Bool) {xm ym : Bool} {xa ya xp yp : Option Addr} {xn xc xq xr yn yc yq yr : Nat} {xs ys : List Nat} {ps qs : List (Int × Int)} {w : World} (hx : Sl w xa xn xc xs) (hy : Sl w ya yn yc ys) (hp : Ml w xp xq xr ps) (hq : Ml w yp yq yr qs) (h : decide (((xm, xs), ps) = ((ym, ys), qs)) = r) :
  Calls Try.prog 48 #[.agg #[.bool xm, .slice xa xn xc, .slice xp xq xr], .agg #[.bool ym, .slice ya yn yc, .slice yp yq yr]] w (RetB (.bool r) w) := by
 have HX := hid hx; have HY := hid hy; have HP := hid hp; have HQ := hid hq; clear hx hy hp hq; obtain ⟨A, hA⟩ : ∃ A, (xm == ym) = A := ⟨_, rfl⟩; obtain ⟨C, hC⟩ : ∃ C, decide (xs = ys) = C := ⟨_, rfl⟩; obtain ⟨D, hD⟩ : ∃ D, decide (ps = qs) = D := ⟨_, rfl⟩
 have HR : Hid ((A && C && D) = r) := by
  rw [Hid, ← h, ← hA, ← hC, ← hD]
  simp [Prod.mk.injEq, Bool.decide_and]
  congr 2
 have HC := hid hC; have HD := hid hD; clear hC hD h
 go_enter Try.func48, Try.ntmps48
 go_upto_region 1 with (fail)
 refine wp_world (fun W hW => ?_)
 obtain ⟨a1, a2, hB⟩ := box2 w [.bool xm, .slice xa xn xc, .slice xp xq xr] [.bool ym, .slice ya yn yc, .slice yp yq yr] 63 63; rw [← hW] at a1 a2 hB; clear hW; have HB0 := hid hB; have HA0 := hid a1; have HD0 := hid a2; clear a1 a2 hB; obtain ⟨c0, c1, c2⟩ := HA0.out.c3; obtain ⟨d0, d1, d2⟩ := HD0.out.c3
 cases A with
 | false =>
  go_wp2_with fail
  go_ret
  exact ⟨ret_bool (by rw [← HR.out]; rfl), HB0.out⟩
 | true =>
  go_wp2_with fail; refine (eqs_any C (HX.out.below HB0.out) (HY.out.below HB0.out) HC.out).mono ?_
  rintro e w1 ⟨rfl, hB⟩; have HB1 := hid (Below.steps HB0.out hB); have HA1 := hid (HA0.out.below hB); have HD1 := hid (HD0.out.below hB); clear hB HB0 HA0 HD0 c0 c1 c2 d0 d1 d2; obtain ⟨c0, c1, c2⟩ := HA1.out.c3; obtain ⟨d0, d1, d2⟩ := HD1.out.c3
  cases C with
  | false =>
   go_wp2_with fail
   go_ret
   exact ⟨ret_bool (by rw [← HR.out]; rfl), HB1.out⟩
  | true =>
   go_wp2_with fail; refine (eqm_any D (HP.out.below HB1.out) (HQ.out.below HB1.out) HD.out).mono ?_
   rintro e w2 ⟨rfl, hB⟩; have HB2 := hid (Below.steps HB1.out hB); have HA2 := hid (HA1.out.below hB); have HD2 := hid (HD1.out.below hB); clear hB HB1 HA1 HD1 c0 c1 c2 d0 d1 d2; obtain ⟨c0, c1, c2⟩ := HA2.out.c3; obtain ⟨d0, d1, d2⟩ := HD2.out.c3; go_wp2_with fail
   go_ret
   exact ⟨ret_bool (by rw [← HR.out]; rfl), HB2.out⟩
theorem equalFunc_any [Ol] (r : Bool) {ao bo : Option Addr} {n cap l cb : Nat} {ps qs : List Raw} {w : World} (hp : Pr w ao n cap ps) (hq : Pr w bo l cb qs) (h : decide (ps = qs) = r) :
  Calls Try.prog 47 #[.slice ao n cap, .slice bo l cb, .func (.func 48) #[] #[]] w (RetB (.bool r) w) := by
 have eg : ∀ args w, (callFunc 48 args).run Try.prog w = .ok (.enter 48 args) w := enters_of Try.func48 (by kernel_rfl) rfl
 obtain ⟨vss, hG, _⟩ := hp.ex; obtain ⟨uss, hG2, _⟩ := hq.ex; have hbig := hG.big; have hbig2 := hG2.big; have HLP := hid hp.len; have HLQ := hid hq.len; have HP := hid hp; have HQ := hid hq; have HR := hid h; clear hp hq h hG hG2
 by_cases hnl : n = l
 ·subst hnl
  have hd2 : ((n : Int) != (n : Int)) = false := by simp
  go_enter Try.func47, Try.ntmps47
  go_wp2
  go_loopw [17] (fun i wr => ∃ k : Nat, i = .int .i64 k ∧ k ≤ n ∧ Hid (ps.take k = qs.take k) ∧ Hid (Below w.heap.size w wr)) (fun i _ => n - (intOf i).toNat)
  case atStart => exact ⟨0, rfl, Nat.zero_le _, by simp [Hid], Below.refl _ _⟩
  case round =>
   obtain ⟨k, rfl, hk, HE, HB⟩ := hrel
   by_cases hkn : k < n
   ·have hlP : k < ps.length := by rw [HLP.out]; exact hkn
    have hlQ : k < qs.length := by rw [HLQ.out]; exact hkn
    obtain ⟨b, off, xa, xn, xc, xp, xq, xr, rfl, _, hc, hs, hm⟩ := HP.out.at hkn; obtain ⟨d, dff, ya, yn, yc, yp, yq, yr, rfl, _, hc2, hs2, hm2⟩ := HQ.out.at hkn; obtain ⟨⟨⟨xm, xs⟩, xps⟩, ht⟩ : ∃ t, t = ps.getD k rawZ := ⟨_, rfl⟩; obtain ⟨⟨⟨ym, ys⟩, yps⟩, ht2⟩ : ∃ t, t = qs.getD k rawZ := ⟨_, rfl⟩; rw [← ht] at hc hs hm; rw [← ht2] at hc2 hs2 hm2; obtain ⟨c0, c1, c2⟩ := hc _ HB.out; obtain ⟨d0, d1, d2⟩ := hc2 _ HB.out; have e1 := box1 wr [.bool xm, .slice xa xn xc, .slice xp xq xr] 63
    obtain ⟨f0, f1, f2⟩ := hc2 _ (Below.steps HB.out e1.2); obtain ⟨s, hs0⟩ : ∃ s, decide (((xm, xs), xps) = ((ym, ys), yps)) = s := ⟨_, rfl⟩; have HX := hid hs; have HXM := hid hm; have HY := hid hs2; have HYM := hid hm2; have HT := hid ht; have HT2 := hid ht2; have HS := hid hs0; clear hc hc2 hs hs2 hm hm2 ht ht2 hs0 e1
    go_upto_region 7 with (fail)
    refine wp_world (fun W hW => ?_)
    obtain ⟨a1, a2, hB⟩ := box2 wr [.bool xm, .slice xa xn xc, .slice xp xq xr] [.bool ym, .slice ya yn yc, .slice yp yq yr] 63 63; rw [← hW] at a1 a2 hB; have HB3 := hid (Below.steps HB.out hB); clear hW hB c0 c1 c2 d0 d1 d2 f0 f1 f2 HB; obtain ⟨c0, c1, c2⟩ := a1.c3; obtain ⟨d0, d1, d2⟩ := a2.c3; clear a1 a2; go_wp2_with fail; refine (same1_any s (HX.out.below HB3.out) (HY.out.below HB3.out) (HXM.out.below HB3.out) (HYM.out.below HB3.out) HS.out).mono ?_; rintro e w5 ⟨rfl, hB⟩
    have HB5 := hid (Below.steps HB3.out hB); clear hB HB3 c0 c1 c2 d0 d1 d2
    cases s with
    | true =>
     have HE2 : Hid (ps.take (k + 1) = qs.take (k + 1)) := by
      rw [Hid, List.take_succ_eq_append_getElem hlP, List.take_succ_eq_append_getElem hlQ, HE.out, ← getD_of rawZ hlP, ← getD_of rawZ hlQ, ← HT.out, ← HT2.out, of_decide_eq_true HS.out]
     go_wp2_with fail
     go_roundw
     case rel => exact ⟨k + 1, by go_num, by omega, HE2, HB5⟩
     case measure => simp [intOf]; omega
    | false =>
     have HR2 : Hid (r = false) := by
      rw [Hid, ← HR.out]
      refine decide_eq_false fun e => of_decide_eq_false HS.out ?_
      rw [HT.out, HT2.out, e]
     go_wp2_with fail
     go_ret
     have hr := HR2.out; subst hr
     exact ⟨rfl, HB5.out⟩
   ·obtain rfl : k = n := by omega
    have HR2 : Hid (r = true) := by
     rw [Hid, ← HR.out]; have e := HE.out
     rw [List.take_of_length_le (by rw [HLP.out]; exact Nat.le_refl _), List.take_of_length_le (by rw [HLQ.out]; exact Nat.le_refl _)] at e
     exact decide_eq_true e
    go_wp2_with fail
    go_ret
    have hr := HR2.out; subst hr
    exact ⟨rfl, HB.out⟩
 ·have HR2 : Hid (r = false) := by
   rw [Hid, ← HR.out]
   exact decide_eq_false fun e => hnl (by rw [← HLP.out, ← HLQ.out, e])
  have hd2 : ((n : Int) != (l : Int)) = true := by simp; omega
  go_enter Try.func47, Try.ntmps47
  go_wp2_with fail
  go_ret
  have hr := HR2.out; subst hr
  exact ⟨rfl, Below.refl _ _⟩
theorem psame_any [Ol] (r : Bool) {ao bo : Option Addr} {n cap l cb : Nat} {ps qs : List Raw} {w : World} (hp : Pr w ao n cap ps) (hq : Pr w bo l cb qs) (h : decide (ps = qs) = r) :
  Calls Try.prog 20 #[.slice ao n cap, .slice bo l cb] w (RetB (.bool r) w) := by
 have HP := hid hp; have HQ := hid hq; have HR := hid h; clear hp hq h
 go_enter Try.func20, Try.ntmps20
 go_wp2_with fail; refine (equalFunc_any r HP.out HQ.out HR.out).mono ?_
 rintro e w1 ⟨rfl, hB⟩; have HB := hid hB; clear hB; go_wp2_with fail
 go_ret
 exact ⟨rfl, HB.out⟩
def kx : List Term := [(1, [(1, 1)])]
def ky : List Term := [(1, [(2, 1)])]
theorem fall_of_dec {p : List Term} (h1 : ∀ t ∈ p, t.1 ≠ 0 ∧ mayM 0 t.2 = true) (h2 : ofT p = p) : fall p := by
 rw [← h2]
 exact (ofT_spec fun t ht => (h1 t ht).2).1
theorem kx_fall : fall kx := fall_of_dec (by decide +kernel) (by decide +kernel)
theorem ky_fall : fall ky := fall_of_dec (by decide +kernel) (by decide +kernel)
theorem Ml.lit [Ol] (w : World) (u v : Int) (T : TypeId) (hu : in64 u) (hv : in64 v) (hT : badT.contains T = false := by decide) : Ml (w.alloc (.cells #[.int .i64 u, .int .i64 v] T)) (some ⟨w.heap.size, 0, none⟩) 1 1 [(u, v)] := by
 refine Ml.of_cells rfl (Nat.le_refl _) (by omega) (fun p hp => by simp at hp; subst hp; exact ⟨hu, hv⟩) (fun _ => Kp.new w _ T hT) fun t ht => ?_
 obtain rfl : t = 0 := by omega
 have hh : (w.alloc (.cells #[.int .i64 u, .int .i64 v] T)).heap[w.heap.size]? = some (.cells #[.int .i64 u, .int .i64 v] T (0, 0)) := by
  show (w.heap.push _)[w.heap.size]? = _
  rw [Array.getElem?_push_size]
 simp only [World.cell?, hh]
 simp
theorem x_any8 [Ol] (v : Int) (w : World) (h : in64 v) :
  Calls Try.prog 22 #[.int .i64 v] w (NewPz 2 w [(1, [(v, 1)])]) := by
 have HV := Lib.hid h; clear h
 go_enter Try.func22, Try.ntmps22
 go_wp2_with fail
 refine (zsmall_any 1 w (by omega)).mono ?_
 rintro e w1 ⟨m, ao, k, cap, rfl, hX, hB⟩; have HX := Lib.hid hX; have HB := Lib.hid hB; clear hX hB; go_wp2_with fail
 go_ret
 have hgl := Gl.lit 3 (w1.alloc (.cells #[.int .i64 v, .int .i64 1] 87)) [.bool m, .slice ao k cap, .slice (some ⟨w1.heap.size, 0, none⟩) 1 1] 95 rfl (by simp [Value.oneCell'])
 rw [show (w1.alloc (.cells #[.int .i64 v, .int .i64 1] 87)).heap.size = w1.heap.size + 1 from by simp] at hgl
 refine ⟨_, _, _, rfl, ⟨_, hgl, ?_⟩, ?_⟩
 ·have hM := Ml.lit w1 v 1 87 HV.out (by unfold in64; omega)
  have hZ := (HX.out.below (below_alloc w1 (.cells #[.int .i64 v, .int .i64 1] 87)))
  exact ⟨⟨_, _, _, _, _, _, _, rfl, hZ.below (below_alloc _ _), bd_small (by omega), hM.below (below_alloc _ _)⟩, trivial⟩
 ·have h := HB.out.size
  exact (HB.out.alloc h _).alloc (by simp; omega) _
open Lib (hid)
def wide (t : Raw) : Bool := decide ((20 : Int) < t.1.2.length) || decide ((12 : Int) < t.2.length)
def greatR (ps : List Raw) (most : Int) : Bool := ps.any wide || decide (most < (ps.length : Int))
theorem great_any8 [Ol] (r : Bool) (most : Int) {ao : Option Addr} {n cap : Nat} {ps : List Raw} {w : World} (hp : Pr w ao n cap ps) (h : greatR ps most = r) :
  Calls Try.prog 21 #[.slice ao n cap, .int .i64 most] w (RetB (.bool r) w) := by
 obtain ⟨vss, hG, hT⟩ := hp.ex; have hbig := hG.big; have HLP := hid hp.len; have HGP := hid hG; have HTP := hid hT; have HR := hid h; clear hp hG hT h
 go_enter Try.func21, Try.ntmps21
 go_wp2
 go_loopw [5] (fun i wr => ∃ k : Nat, i = .int .i64 k ∧ k ≤ n ∧ Hid (∀ t, t < k → wide (ps.getD t rawZ) = false) ∧ Hid (Below w.heap.size w wr)) (fun i _ => n - (intOf i).toNat)
 case atStart => exact ⟨0, rfl, Nat.zero_le _, fun t h => by omega, Below.refl _ _⟩
 case round =>
  obtain ⟨k, rfl, hk, HE, HB⟩ := hrel
  by_cases hkn : k < n
  ·obtain ⟨b, off, rfl, _, hca⟩ := HGP.out.at (by omega)
   have HCA := hid hca; clear hca; have hcl := HCA.out
   obtain ⟨xa, xn, xc, xp, xq, xr, hv, tz, tmm⟩ := Tms.get rawZ HTP.out k (by rw [HLP.out]; omega)
   have hlP : k < ps.length := by rw [HLP.out]; omega
   have eqP : ps.getD k rawZ = ps[k] := by simp [List.getD, List.getElem?_eq_getElem hlP]
   have hcells : ∀ V : World, Below w.heap.size w V → (V.cell? ⟨b, off + k * 3, none⟩ = some (.bool (ps.getD k rawZ).1.1) ∧ V.cell? ⟨b, off + k * 3 + 1, none⟩ = some (.slice xa xn xc) ∧ V.cell? ⟨b, off + k * 3 + 2, none⟩ = some (.slice xp xq xr)) := by
    intro V hV
    have h0 := hcl V hV k (by omega) 0 (by omega)
    have h1 := hcl V hV k (by omega) 1 (by omega)
    have h2 := hcl V hV k (by omega) 2 (by omega)
    rw [hv] at h0 h1 h2
    exact ⟨h0, h1, h2⟩
   rw [eqP] at tz tmm; obtain ⟨xm, hxm⟩ : ∃ xm, xm = (ps.getD k rawZ).1.1 := ⟨_, rfl⟩
   rw [← hxm] at hcells; rw [eqP] at hxm
   have HCP := hid hcells; have HSP := hid tz; have HMP := hid tmm; have HNP := hid hxm; clear hcl hv hcells tz tmm eqP hxm; obtain ⟨A, hA⟩ : ∃ A, decide ((20 : Int) < (xn : Int)) = A := ⟨_, rfl⟩; obtain ⟨C, hC⟩ : ∃ C, decide ((12 : Int) < (xq : Int)) = C := ⟨_, rfl⟩
   have HT : Hid (wide (ps[k]) = (A || C)) := by rw [Hid, ← hA, ← hC]; unfold wide; rw [HSP.out.len, HMP.out.len]
   have HYES : Hid ((A || C) = true → greatR ps most = true) := fun g => by
    unfold greatR
    rw [Bool.or_eq_true, List.any_eq_true]
    exact .inl ⟨ps[k], List.getElem_mem _, by rw [HT.out]; exact g⟩
   obtain ⟨c0, c1, c2⟩ := HCP.out _ HB.out
   cases A with
   | true =>
    have HR2 : Hid (r = true) := HR.out.symm.trans (HYES.out rfl)
    go_wp2_with fail
    go_ret
    have hr := HR2.out; subst hr
    exact ⟨rfl, HB.out⟩
   | false =>
    cases C with
    | true =>
     have HR2 : Hid (r = true) := HR.out.symm.trans (HYES.out rfl)
     go_wp2_with fail
     go_ret
     have hr := HR2.out; subst hr
     exact ⟨rfl, HB.out⟩
    | false =>
     have HE2 : Hid (∀ t, t < k + 1 → wide (ps.getD t rawZ) = false) := fun t ht => by
      by_cases h : t < k
      ·exact HE.out t h
      ·obtain rfl : t = k := by omega
       rw [rawD hlP, HT.out]; rfl
     go_wp2_with fail
     go_roundw
     case rel => exact ⟨k + 1, by go_num, by omega, HE2, HB⟩
     case measure => simp [intOf]; omega
  ·obtain rfl : k = n := by omega
   have HR2 : Hid (r = decide (most < (k : Int))) := by
    rw [Hid, ← HR.out]
    unfold greatR
    rw [show ps.any wide = false from by
     rw [List.any_eq_false]
     intro t ht
     obtain ⟨j, hj, rfl⟩ := List.getElem_of_mem ht
     rw [← rawD hj, HE.out j (by rw [← HLP.out]; exact hj)]
     simp, HLP.out]
    rfl
   go_wp2_with fail
   go_ret
   have hr := HR2.out; subst hr
   exact ⟨rfl, HB.out⟩
theorem AtN.other {w w' : World} {b g : Nat} {us vs : List Value} {T T2 : TypeId} (h : AtN w b us T) (hg : AtN w g vs T2) (hT : T2 ≠ T) (hG : w.grownBy w' (some g)) : AtN w' b us T := by
 refine h.keep (hG.block b h.lt fun eq => ?_)
 have e' : b = g := Option.some.inj eq
 subst e'
 unfold AtN at h hg
 rw [h] at hg
 cases hg
 exact hT rfl
theorem Sl.staysC {w w' : World} {g : Nat} (hc : CleanB w g) (hG : w.grownBy w' (some g)) {bo : Option Addr} {k cb : Nat} {xs : List Nat} (h : Sl w bo k cb xs) : Sl w' bo k cb xs :=
 ⟨h.len, h.le, h.big, h.wf, h.nil, fun ad had t ht => clean_stays hc hG (h.cells ad had t ht)⟩
theorem sl_stays {B : Nat} {e : TypeId} {sz : Nat} {w w' : World} {ao : Option Addr} {n cap : Nat} {vss : List (List Value)} {bo : Option Addr} {k cb : Nat} {xs : List Nat} (h : Sl w bo k cb xs) (hO : Go1 B e sz w ao n cap vss) (hG : w.grownBy w' (Value.slice ao n cap).ownBlock) : Sl w' bo k cb xs :=
 ⟨h.len, h.le, h.big, h.wf, h.nil, fun ad had t ht => hO.stays hG (h.cells ad had t ht)⟩
theorem TmR.staysC [Ol] {w w' : World} {g : Nat} (hc : CleanB w g) (hG : w.grownBy w' (some g)) {vs : List Value} {t : Raw} (h : TmR w vs t) : TmR w' vs t := by
 obtain ⟨ao, n, cap, bo, k, cb, h1, h2, h4⟩ := h
 exact ⟨ao, n, cap, bo, k, cb, h1, Sl.staysC hc hG h2, h4.staysC hc hG⟩
theorem TmR.stays [Ol] {B : Nat} {e : TypeId} {sz : Nat} {w w' : World} {ao : Option Addr} {n cap : Nat} {vss : List (List Value)} {vs : List Value} {t : Raw} (h : TmR w vs t) (hO : Go1 B e sz w ao n cap vss) (hG : w.grownBy w' (Value.slice ao n cap).ownBlock) : TmR w' vs t := by
 obtain ⟨ao, n, cap, bo, k, cb, h1, h2, h4⟩ := h
 exact ⟨ao, n, cap, bo, k, cb, h1, sl_stays h2 hO hG, h4.stays hO hG⟩
theorem Pr.wf [Ol] {w : World} {ao : Option Addr} {n cap : Nat} {ps : List Raw} (h : Pr w ao n cap ps) : ∀ t ∈ ps, Wf t.1.2 := by
 intro t ht
 obtain ⟨i, hi, rfl⟩ := List.mem_iff_getElem.1 ht
 obtain ⟨_, _, _, _, _, _, _, _, _, _, _, hs, _⟩ := h.at (k := i) (by rw [← h.len]; exact hi)
 rw [getD_of _ hi] at hs
 exact hs.wf
theorem great_facts {ps : List Raw} {most : Int} (h : greatR ps most = false) : (ps.length : Int) ≤ most ∧ ∀ t ∈ ps, t.1.2.length ≤ 20 ∧ t.2.length ≤ 12 := by
 unfold greatR at h
 rw [Bool.or_eq_false_iff] at h
 refine ⟨by have := of_decide_eq_false h.2; omega, fun t ht => ?_⟩
 have h1 := List.any_eq_false.1 h.1 t ht
 unfold wide at h1
 simp only [Bool.or_eq_true, decide_eq_true_eq, not_or] at h1
 omega
end Go.Proofs.Ytmmgipcacceakaa

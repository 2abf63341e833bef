/-
  The law PolyPow, on any arguments.
-/
import Derived.Test.YtmbgljjfmbhelaaGreatPolyPowA
set_option maxHeartbeats 40000000
set_option maxRecDepth 100000
namespace Go.Proofs.YtmbgljjfmbhelaaGreat
open Lib (hid)
open Go.RowKit
theorem polyPow_great {po ao bo : Option Addr} {n pc na ca l cb : Nat} {m0 : Bool} {z : Int} {ms : List (Int × Int)} {ps : List Raw} {w : World} (hp : Pr w po n pc ps) (hx : In w m0 ao na ca z) (hm : Ml w bo l cb ms)
  (k : Int) (g0 : greatR ps 4 = true) :
  Calls Tryz.prog 6 #[.slice po n pc, .int .i64 k, .agg #[.bool m0, .slice ao na ca], .slice bo l cb] w (RetB (.bool true) w) := by
 have P_0 := hid hp; have X_0 := hid hx; have M_0 := hid hm; have hle := hm.le; clear hp hx hm
 go_enter Tryz.func6, Tryz.ntmps6
 go_upto_region 1 with (fail)
 refine zz232 (fun w1 hW => ?_)
 obtain ⟨a1, hB⟩ := box1 w [.bool m0, .slice ao na ca] 43; rw [← hW] at a1 hB; clear hW; have BX_1 := hid a1; have HB_1 := hid hB; have P_1 := hid (P_0.out.below hB); clear a1 hB P_0 X_0 M_0; go_wp2_with fail; refine (great_any8 true 4 P_1.out g0).mono ?_; rintro e w2 ⟨rfl, hB⟩
 have HB_2 := hid (Below.steps HB_1.out hB); clear hB HB_1 P_1 BX_1; go_wp2_with fail; refine (zz95 _).mono ?_; rintro e w3 ⟨rfl, hB⟩; have HB_3 := hid (Below.steps HB_2.out hB); clear hB HB_2; go_wp2_with fail
 go_ret
 exact ⟨rfl, HB_3.out⟩
theorem polyPow_main {po ao bo : Option Addr} {n pc na ca l cb : Nat} {m0 : Bool} {z : Int} {ms : List (Int × Int)} {ps : List Raw} {w : World} (hp : Pr w po n pc ps) (hx : In w m0 ao na ca z) (hm : Ml w bo l cb ms)
  (k : Int) (g0 : greatR ps 4 = false) (hl1 : ∀ t ∈ ps, t.1.2.length ≤ 1000) (y : Int) (hy : limR ps = y) (hn4 : n ≤ 4) (hp4 : mayR ps = false ∨ ∃ p, ps = p.map rawC ∧ fall p ∧ (4 < y ∨ ∀ t ∈ p.map rawC, t.1.2.length ≤ 4)) :
  Calls Tryz.prog 6 #[.slice po n pc, .int .i64 k, .agg #[.bool m0, .slice ao na ca], .slice bo l cb] w (RetB (.bool true) w) := by
 have P_0 := hid hp; have X_0 := hid hx; have M_0 := hid hm; have hle := hm.le; clear hp hx hm
 go_enter Tryz.func6, Tryz.ntmps6
 go_upto_region 1 with (fail)
 refine zz232 (fun w1 hW => ?_)
 obtain ⟨a1, hB⟩ := box1 w [.bool m0, .slice ao na ca] 43; rw [← hW] at a1 hB; clear hW; have BX_1 := hid a1; have HB_1 := hid hB; have P_1 := hid (P_0.out.below hB); have X_1 := hid (X_0.out.below hB); have M_1 := hid (M_0.out.below hB); clear a1 hB P_0 X_0 M_0
 go_cut [43] from 18 to 43 (fun s43 wx => s43 = .bool (decide (4 < y ∨ (6 < k ∧ k ≤ 100) ∨ 20 < na ∨ 12 < l)) ∧ Hid (Pr wx po n pc ps ∧ In wx m0 ao na ca z ∧ Ml wx bo l cb ms ∧ AtN wx w.heap.size [.bool m0, .slice ao na ca] 43 ∧ Below w.heap.size w wx))
 case first =>
  go_wp2_with fail; refine (great_any8 false 4 P_1.out g0).mono ?_
  rintro e w2 ⟨rfl, hB⟩; have P_2 := hid (P_1.out.below hB); have X_2 := hid (X_1.out.below hB); have M_2 := hid (M_1.out.below hB); have BX_2 := hid (BX_1.out.below hB); have HB_2 := hid (Below.steps HB_1.out hB); clear hB  HB_1 P_1 X_1 M_1 BX_1; go_wp2_with fail; refine (plimbs_any y P_2.out hl1 hy).mono ?_; rintro e w3 ⟨rfl, hB⟩; have P_3 := hid (P_2.out.below hB); have X_3 := hid (X_2.out.below hB); have M_3 := hid (M_2.out.below hB); have BX_3 := hid (BX_2.out.below hB); have HB_3 := hid (Below.steps HB_2.out hB)
  clear hB  HB_2 P_2 X_2 M_2 BX_2; obtain ⟨c0, c1⟩ := BX_3.out.c2
  by_cases h1 : 4 < y
  ·have d1 : decide (4 < y) = true := decide_eq_true h1
   go_wp2
   go_meet
   exact ⟨congrArg Value.bool (decide_eq_true (p := 4 < y ∨ (6 < k ∧ k ≤ 100) ∨ 20 < na ∨ 12 < l) (by omega)).symm, ⟨P_3.out, X_3.out, M_3.out, BX_3.out, HB_3.out⟩⟩
  ·have d1 : decide (4 < y) = false := decide_eq_false h1
   have HD : (decide (6 < k) = true ∧ decide (k ≤ 100) = true) ∨ decide (6 < k) = false ∨ (decide (6 < k) = true ∧ decide (k ≤ 100) = false) := by by_cases h6 : 6 < k <;> by_cases h7 : k ≤ 100 <;> simp [h6, h7]
   rcases HD with ⟨d2, d3⟩ | HD
   ·have h2 := of_decide_eq_true d2
    have h3 := of_decide_eq_true d3
    go_wp2
    go_meet
    exact ⟨congrArg Value.bool (decide_eq_true (p := 4 < y ∨ (6 < k ∧ k ≤ 100) ∨ 20 < na ∨ 12 < l) (by omega)).symm, ⟨P_3.out, X_3.out, M_3.out, BX_3.out, HB_3.out⟩⟩
   ·have h23 : ¬ (6 < k ∧ k ≤ 100) := by rcases HD with d | ⟨_, d⟩; exact fun h => of_decide_eq_false d h.1; exact fun h => of_decide_eq_false d h.2
    rcases HD with d2 | ⟨d2, d3⟩
    all_goals
     by_cases h4 : (20 : Int) < (na : Int)
     ·have d4 : decide ((20 : Int) < (na : Int)) = true := decide_eq_true h4
      go_wp2
      go_meet
      exact ⟨congrArg Value.bool (decide_eq_true (p := 4 < y ∨ (6 < k ∧ k ≤ 100) ∨ 20 < na ∨ 12 < l) (by omega)).symm, ⟨P_3.out, X_3.out, M_3.out, BX_3.out, HB_3.out⟩⟩
     ·have d4 : decide ((20 : Int) < (na : Int)) = false := decide_eq_false h4
      by_cases h5 : (12 : Int) < (l : Int)
      ·have d5 : decide ((12 : Int) < (l : Int)) = true := decide_eq_true h5
       go_wp2
       go_meet
       exact ⟨congrArg Value.bool (decide_eq_true (p := 4 < y ∨ (6 < k ∧ k ≤ 100) ∨ 20 < na ∨ 12 < l) (by omega)).symm, ⟨P_3.out, X_3.out, M_3.out, BX_3.out, HB_3.out⟩⟩
      ·have d5 : decide ((12 : Int) < (l : Int)) = false := decide_eq_false h5
       go_wp2
       go_meet
       exact ⟨congrArg Value.bool (decide_eq_false (p := 4 < y ∨ (6 < k ∧ k ≤ 100) ∨ 20 < na ∨ 12 < l) (by omega)).symm, ⟨P_3.out, X_3.out, M_3.out, BX_3.out, HB_3.out⟩⟩
 case rest =>
  obtain ⟨rfl, HS⟩ := hcut; obtain ⟨w10, hw10⟩ : ∃ W, W = wc := ⟨_, rfl⟩; rw [← hw10] at HS ⊢; clear hw10 P_1 X_1 M_1 BX_1 HB_1; have P_10 := hid HS.out.1; have X_10 := hid HS.out.2.1; have M_10 := hid HS.out.2.2.1; have BX_10 := hid HS.out.2.2.2.1; have HB_10 := hid HS.out.2.2.2.2; clear HS
  by_cases hbad : 4 < y ∨ (6 < k ∧ k ≤ 100) ∨ 20 < na ∨ 12 < l
  ·rw [decide_eq_true hbad]
   go_wp2_with fail; refine (zz95 _).mono ?_
   rintro e w11 ⟨rfl, hB⟩; have HB_11 := hid (Below.steps HB_10.out hB); clear hB HB_10; go_wp2_with fail
   go_ret
   exact ⟨rfl, HB_11.out⟩
  ·rw [decide_eq_false hbad]
   have h20 : na ≤ 20 := by omega
   have hk23 : k ≤ 6 ∨ 100 < k := by omega
   have hp4 : mayR ps = false ∨ ∃ p, ps = p.map rawC ∧ fall p ∧ ∀ t ∈ p.map rawC, t.1.2.length ≤ 4 := by rcases hp4 with h | ⟨p, e, h1, h2⟩; exact .inl h; exact .inr ⟨p, e, h1, h2.resolve_left (fun h => hbad (.inl h))⟩
   clear hbad
   rcases hp4 with h1 | ⟨p, rfl, hf, hl4⟩
   ·cases h2 : mayM 0 ms with
    | false =>
     go_wp2_with fail; refine (ppow_bad k P_10.out hl1 h1).mono ?_
     rintro e w11 ⟨vao, van, vac, rfl, hX, hB⟩; obtain rfl : van = 0 := hX.len.symm; have P_11 := hid (P_10.out.below hB); have X_11 := hid (X_10.out.below hB); have M_11 := hid (M_10.out.below hB); have BX_11 := hid (BX_10.out.below hB); have HB_11 := hid (Below.steps HB_10.out hB); have A_11 := hid (hX.raw); clear hB hX HB_10 P_10 X_10 M_10 BX_10; obtain ⟨c0, c1⟩ := BX_11.out.c2; go_wp2_with fail; refine (zz147 X_11.out h20 M_11.out h2).mono ?_; rintro e w12 ⟨vbo, vbn, vbc, rfl, hX, hB⟩; clear c0 c1
     obtain rfl : vbn = 0 := hX.len.symm; have P_12 := hid (P_11.out.below hB); have M_12 := hid (M_11.out.below hB); have HB_12 := hid (Below.steps HB_11.out hB); have B_12 := hid (hX.raw); clear hB hX HB_11 P_11 X_11 M_11 BX_11 A_11; go_wp2_with fail
     refine (zz241 1 _ ⟨by omega, by omega⟩).mono ?_
     rintro e w13 ⟨sm, sa, sn, sc, rfl, hX, hB⟩; have P_13 := hid (P_12.out.below hB); have M_13 := hid (M_12.out.below hB); have HB_13 := hid (Below.steps HB_12.out hB); have Z_13 := hid (hX); clear hB hX HB_12 P_12 M_12 B_12; go_wp2_with fail
     refine (zz239 (Z_13.out.zx (show Bd 1 1 by unfold Bd; decide) (by omega))).mono ?_
     rintro e w14 ⟨im, ia, in2, ic, rfl, hX, hB⟩; have P_14 := hid (P_13.out.below hB); have M_14 := hid (M_13.out.below hB); have HB_14 := hid (Below.steps HB_13.out hB); have I_14 := hid (hX); clear hB hX HB_13 P_13 M_13 Z_13
     go_upto_region 6 with (fail)
     refine zz232 (fun w15 hW => ?_)
     have hal := zz13 w14 (.cells #[.bool im, .slice ia in2 ic, .slice bo l cb] 53); have hlit := pr_lit I_14.out M_14.out 53; rw [← hW] at hal hlit; clear hW; clear I_14; have P_15 := hid (P_14.out.below hal); have HB_15 := hid (Below.steps HB_14.out hal); have LIT_15 := hid hlit; clear hal hlit HB_14 P_14 M_14; clear LIT_15; go_wp2_with fail
     refine (zz111 false P_15.out hl1 h1).mono ?_; rintro e w16 ⟨rfl, hB⟩
     have P_16 := hid (P_15.out.below hB); have HB_16 := hid (Below.steps HB_15.out hB); clear hB HB_15 P_15; go_wp2_with fail; refine (zz111 false P_16.out hl1 h1).mono ?_; rintro e w17 ⟨rfl, hB⟩; have HB_17 := hid (Below.steps HB_16.out hB); clear hB HB_16 P_16; go_wp2_with fail; refine (zz95 _).mono ?_
     rintro e w18 ⟨rfl, hB⟩; have HB_18 := hid (Below.steps HB_17.out hB); clear hB HB_17; go_wp2_with fail
     go_ret
     exact ⟨rfl, HB_18.out⟩
    | true =>
     go_wp2_with fail; refine (ppow_bad k P_10.out hl1 h1).mono ?_
     rintro e w11 ⟨vao, van, vac, rfl, hX, hB⟩; obtain rfl : van = 0 := hX.len.symm; have P_11 := hid (P_10.out.below hB); have X_11 := hid (X_10.out.below hB); have M_11 := hid (M_10.out.below hB); have BX_11 := hid (BX_10.out.below hB); have HB_11 := hid (Below.steps HB_10.out hB); have A_11 := hid (hX.raw); clear hB hX HB_10 P_10 X_10 M_10 BX_10; obtain ⟨c0, c1⟩ := BX_11.out.c2; go_wp2_with fail
     refine (pshift_bad P_11.out hl1 h1 X_11.out h20 (by omega) M_11.out h2).mono ?_
     rintro e w12 ⟨vbo, vbn, vbc, rfl, hX, hB⟩; clear c0 c1; obtain rfl : vbn = 0 := hX.len.symm; have P_12 := hid (P_11.out.below hB); have M_12 := hid (M_11.out.below hB); have HB_12 := hid (Below.steps HB_11.out hB); have B_12 := hid (hX.raw); clear hB hX HB_11 P_11 X_11 M_11 BX_11 A_11; go_wp2_with fail
     refine (zz241 1 _ ⟨by omega, by omega⟩).mono ?_
     rintro e w13 ⟨sm, sa, sn, sc, rfl, hX, hB⟩; have P_13 := hid (P_12.out.below hB); have M_13 := hid (M_12.out.below hB); have HB_13 := hid (Below.steps HB_12.out hB); have Z_13 := hid (hX); clear hB hX HB_12 P_12 M_12 B_12; go_wp2_with fail
     refine (zz239 (Z_13.out.zx (show Bd 1 1 by unfold Bd; decide) (by omega))).mono ?_
     rintro e w14 ⟨im, ia, in2, ic, rfl, hX, hB⟩; have P_14 := hid (P_13.out.below hB); have M_14 := hid (M_13.out.below hB); have HB_14 := hid (Below.steps HB_13.out hB); have I_14 := hid (hX); clear hB hX HB_13 P_13 M_13 Z_13
     go_upto_region 6 with (fail)
     refine zz232 (fun w15 hW => ?_)
     have hal := zz13 w14 (.cells #[.bool im, .slice ia in2 ic, .slice bo l cb] 53); have hlit := pr_lit I_14.out M_14.out 53; rw [← hW] at hal hlit; clear hW; clear I_14; have P_15 := hid (P_14.out.below hal); have HB_15 := hid (Below.steps HB_14.out hal); have LIT_15 := hid hlit; clear hal hlit HB_14 P_14 M_14; clear LIT_15; go_wp2_with fail
     refine (zz111 false P_15.out hl1 h1).mono ?_; rintro e w16 ⟨rfl, hB⟩
     have P_16 := hid (P_15.out.below hB); have HB_16 := hid (Below.steps HB_15.out hB); clear hB HB_15 P_15; go_wp2_with fail; refine (zz111 false P_16.out hl1 h1).mono ?_; rintro e w17 ⟨rfl, hB⟩; have HB_17 := hid (Below.steps HB_16.out hB); clear hB HB_16 P_16; go_wp2_with fail; refine (zz95 _).mono ?_
     rintro e w18 ⟨rfl, hB⟩; have HB_18 := hid (Below.steps HB_17.out hB); clear hB HB_17; go_wp2_with fail
     go_ret
     exact ⟨rfl, HB_18.out⟩
   ·by_cases hk0 : k < 0 ∨ 100 < k
    ·have HD : decide (k < 0) = true ∨ (decide (k < 0) = false ∧ decide (100 < k) = true) := by rcases hk0 with h | h; exact .inl (decide_eq_true h); exact .inr ⟨decide_eq_false (by omega), decide_eq_true h⟩
     rcases HD with e1 | ⟨e1, e2⟩
     all_goals
      cases h2 : mayM 0 ms with
      | false =>
       have HPC_10 := hid (Pr.pc (p := p) P_10.out hl4); obtain ⟨c0, c1⟩ := BX_10.out.c2; go_wp2_with fail; refine (ppow_arg k hk0 P_10.out hl1 (zz109 hf)).mono ?_; rintro e w11 ⟨vao, van, vac, rfl, hX, hB⟩; clear c0 c1; obtain rfl : van = 0 := hX.len.symm; have P_11 := hid (P_10.out.below hB); have X_11 := hid (X_10.out.below hB); have M_11 := hid (M_10.out.below hB); have BX_11 := hid (BX_10.out.below hB); have HB_11 := hid (Below.steps HB_10.out hB)
       have A_11 := hid (hX.raw); clear hB hX HB_10 P_10 X_10 M_10 BX_10 HPC_10; clear A_11; obtain ⟨c0, c1⟩ := BX_11.out.c2; go_wp2_with fail; refine (zz147 X_11.out h20 M_11.out h2).mono ?_; rintro e w12 ⟨vbo, vbn, vbc, rfl, hX, hB⟩; clear c0 c1; obtain rfl : vbn = 0 := hX.len.symm; have P_12 := hid (P_11.out.below hB); have M_12 := hid (M_11.out.below hB); have HB_12 := hid (Below.steps HB_11.out hB)
       have B_12 := hid (hX.raw); clear hB hX HB_11 P_11 X_11 M_11 BX_11; go_wp2_with fail
       refine (zz241 1 _ ⟨by omega, by omega⟩).mono ?_
       rintro e w13 ⟨sm, sa, sn, sc, rfl, hX, hB⟩; have P_13 := hid (P_12.out.below hB); have M_13 := hid (M_12.out.below hB); have HB_13 := hid (Below.steps HB_12.out hB); have Z_13 := hid (hX); clear hB hX HB_12 P_12 M_12 B_12; go_wp2_with fail
       refine (zz239 (Z_13.out.zx (show Bd 1 1 by unfold Bd; decide) (by omega))).mono ?_
       rintro e w14 ⟨im, ia, in2, ic, rfl, hX, hB⟩; have P_14 := hid (P_13.out.below hB); have M_14 := hid (M_13.out.below hB); have HB_14 := hid (Below.steps HB_13.out hB); have I_14 := hid (hX); clear hB hX HB_13 P_13 M_13 Z_13
       go_upto_region 6 with (fail)
       refine zz232 (fun w15 hW => ?_)
       have hal := zz13 w14 (.cells #[.bool im, .slice ia in2 ic, .slice bo l cb] 53); have hlit := pr_lit I_14.out M_14.out 53; rw [← hW] at hal hlit; clear hW; clear I_14; have P_15 := hid (P_14.out.below hal); have HB_15 := hid (Below.steps HB_14.out hal); have LIT_15 := hid hlit; clear hal hlit HB_14 P_14 M_14
       have HMO : Hid (mayR [((false, [1]), ms)] = false) := may_lit h2
       go_wp2_with fail; refine (zz111 true P_15.out hl1 (zz109 hf)).mono ?_
       rintro e w16 ⟨rfl, hB⟩; have P_16 := hid (P_15.out.below hB); have LIT_16 := hid (LIT_15.out.below hB); have HB_16 := hid (Below.steps HB_15.out hB); clear hB HB_15 P_15 LIT_15; go_wp2_with fail; refine (zz111 true P_16.out hl1 (zz109 hf)).mono ?_; rintro e w17 ⟨rfl, hB⟩; have LIT_17 := hid (LIT_16.out.below hB)
       have HB_17 := hid (Below.steps HB_16.out hB); clear hB HB_16 P_16 LIT_16; go_wp2_with fail
       refine (zz111 false LIT_17.out (fun t ht => by rw [List.mem_singleton] at ht; subst ht; exact (by decide : 1 ≤ 1000)) HMO.out).mono ?_
       rintro e w18 ⟨rfl, hB⟩; have HB_18 := hid (Below.steps HB_17.out hB); clear hB HB_17 LIT_17; go_wp2_with fail; refine (zz95 _).mono ?_; rintro e w19 ⟨rfl, hB⟩; have HB_19 := hid (Below.steps HB_18.out hB); clear hB HB_18; go_wp2_with fail
       go_ret
       exact ⟨rfl, HB_19.out⟩
      | true =>
       have HPC_10 := hid (Pr.pc (p := p) P_10.out hl4); obtain ⟨c0, c1⟩ := BX_10.out.c2; obtain ⟨q0, hq0⟩ : ∃ q, ofT [(z, ms)] = q := ⟨_, rfl⟩; obtain ⟨eb, heb⟩ : ∃ e, errT p q0 = e := ⟨_, rfl⟩; obtain ⟨ok, hok⟩ : ∃ b, (tryT p q0).2 = b := ⟨_, rfl⟩; have HQ0 := hid hq0; have HEB := hid heb; have HOK := hid hok
       have hms : mays [(z, ms)] := fun t ht => by rw [List.mem_singleton] at ht; subst ht; exact h2
       have HF0 : Hid (fall q0 ∧ q0.length ≤ 1) := by rw [Hid, ← hq0]; exact ⟨(zz128 hms).1, by rw [of_one h2]; split <;> simp⟩
       have HMS := hid hms; clear hq0 heb hok hms; go_wp2_with fail; refine (ppow_arg k hk0 P_10.out hl1 (zz109 hf)).mono ?_; rintro e w11 ⟨vao, van, vac, rfl, hX, hB⟩; clear c0 c1; obtain rfl : van = 0 := hX.len.symm; have P_11 := hid (P_10.out.below hB); have X_11 := hid (X_10.out.below hB); have M_11 := hid (M_10.out.below hB); have BX_11 := hid (BX_10.out.below hB); have HPC_11 := hid (HPC_10.out.below hB); have HB_11 := hid (Below.steps HB_10.out hB); have A_11 := hid (hX.raw); clear hB hX HB_10 P_10 X_10 M_10 BX_10 HPC_10
       clear A_11; obtain ⟨c0, c1⟩ := BX_11.out.c2; go_wp2_with fail
       refine (pshift_any (K := 20) (HPC_11.out.mono (show 4 ≤ 20 by omega)) hf (by omega) X_11.out h20 (by omega) M_11.out h2).mono ?_
       rintro e w12 ⟨vbo, vbn, vbc, rfl, hX, hB⟩; clear c0 c1; rw [HQ0.out] at hX ⊢; rw [HEB.out]; have P_12 := hid (P_11.out.below hB); have X_12 := hid (X_11.out.below hB); have M_12 := hid (M_11.out.below hB); have BX_12 := hid (BX_11.out.below hB); have HPC_12 := hid (HPC_11.out.below hB); have HB_12 := hid (Below.steps HB_11.out hB); have B_12 := hid (hX); clear hB hX HB_11 P_11 X_11 M_11 BX_11 HPC_11; go_wp2_with fail
       refine (zz241 1 _ ⟨by omega, by omega⟩).mono ?_
       rintro e w13 ⟨sm, sa, sn, sc, rfl, hX, hB⟩; have P_13 := hid (P_12.out.below hB); have X_13 := hid (X_12.out.below hB); have M_13 := hid (M_12.out.below hB); have BX_13 := hid (BX_12.out.below hB); have HPC_13 := hid (HPC_12.out.below hB); have B_13 := hid (B_12.out.below hB); have HB_13 := hid (Below.steps HB_12.out hB); have Z_13 := hid (hX); clear hB hX HB_12 P_12 X_12 M_12 BX_12 HPC_12 B_12; go_wp2_with fail
       refine (zz239 (Z_13.out.zx (show Bd 1 1 by unfold Bd; decide) (by omega))).mono ?_
       rintro e w14 ⟨im, ia, in2, ic, rfl, hX, hB⟩; have P_14 := hid (P_13.out.below hB); have X_14 := hid (X_13.out.below hB); have M_14 := hid (M_13.out.below hB); have BX_14 := hid (BX_13.out.below hB); have HPC_14 := hid (HPC_13.out.below hB); have B_14 := hid (B_13.out.below hB); have Z_14 := hid (Z_13.out.below hB); have HB_14 := hid (Below.steps HB_13.out hB); have I_14 := hid (hX); clear hB hX HB_13 P_13 X_13 M_13 BX_13 HPC_13 B_13 Z_13; clear Z_14
       go_upto_region 6 with (fail)
       refine zz232 (fun w15 hW => ?_)
       have hal := zz13 w14 (.cells #[.bool im, .slice ia in2 ic, .slice bo l cb] 53); have hlit := pr_lit I_14.out M_14.out 53; rw [← hW] at hal hlit; clear hW; clear I_14; have P_15 := hid (P_14.out.below hal); have X_15 := hid (X_14.out.below hal); have M_15 := hid (M_14.out.below hal); have BX_15 := hid (BX_14.out.below hal); have HPC_15 := hid (HPC_14.out.below hal); have B_15 := hid (B_14.out.below hal); have HB_15 := hid (Below.steps HB_14.out hal); have LIT_15 := hid hlit
       clear hal hlit HB_14 P_14 X_14 M_14 BX_14 HPC_14 B_14
       have HMO : Hid (mayR [((false, [1]), ms)] = true) := may_lit h2
       go_wp2_with fail; refine (zz111 true P_15.out hl1 (zz109 hf)).mono ?_
       rintro e w16 ⟨rfl, hB⟩; have P_16 := hid (P_15.out.below hB); have X_16 := hid (X_15.out.below hB); have M_16 := hid (M_15.out.below hB); have BX_16 := hid (BX_15.out.below hB); have HPC_16 := hid (HPC_15.out.below hB); have B_16 := hid (B_15.out.below hB); have LIT_16 := hid (LIT_15.out.below hB); have HB_16 := hid (Below.steps HB_15.out hB); clear hB  HB_15 P_15 X_15 M_15 BX_15 HPC_15 B_15 LIT_15; go_wp2_with fail; refine (zz111 true P_16.out hl1 (zz109 hf)).mono ?_; rintro e w17 ⟨rfl, hB⟩
       have P_17 := hid (P_16.out.below hB); have X_17 := hid (X_16.out.below hB); have M_17 := hid (M_16.out.below hB); have BX_17 := hid (BX_16.out.below hB); have HPC_17 := hid (HPC_16.out.below hB); have B_17 := hid (B_16.out.below hB); have LIT_17 := hid (LIT_16.out.below hB); have HB_17 := hid (Below.steps HB_16.out hB); clear hB  HB_16 P_16 X_16 M_16 BX_16 HPC_16 B_16 LIT_16; go_wp2_with fail
       refine (zz111 true LIT_17.out (fun t ht => by rw [List.mem_singleton] at ht; subst ht; exact (by decide : 1 ≤ 1000)) HMO.out).mono ?_
       rintro e w18 ⟨rfl, hB⟩; have P_18 := hid (P_17.out.below hB); have X_18 := hid (X_17.out.below hB); have M_18 := hid (M_17.out.below hB); have BX_18 := hid (BX_17.out.below hB); have HPC_18 := hid (HPC_17.out.below hB); have B_18 := hid (B_17.out.below hB); have LIT_18 := hid (LIT_17.out.below hB); have HB_18 := hid (Below.steps HB_17.out hB); clear hB  HB_17 P_17 X_17 M_17 BX_17 HPC_17 B_17 LIT_17; clear LIT_18
       go_upto_region 14 with (fail)
       refine wp_region_held_drew (S := (fun w' => w'.cell? ⟨w.heap.size, 0, none⟩ = some (.bool m0) ∧ w'.cell? ⟨w.heap.size, 1, none⟩ = some (.slice ao na ca))) (by kernel_rfl) (BX_18.out.below (Below.refl _ _).drew).c2 (fun hH => ?_)
       refine zz9 (fun w19 hW => ?_)
       have dr := (Below.refl w18.heap.size w18).drew; rw [← hW] at hH dr; clear hW; have P_19 := hid (P_18.out.below dr); have X_19 := hid (X_18.out.below dr); have M_19 := hid (M_18.out.below dr); have BX_19 := hid (BX_18.out.below dr); have HPC_19 := hid (HPC_18.out.below dr); have B_19 := hid (B_18.out.below dr); have HB_19 := hid (Below.steps HB_18.out dr); clear dr HB_18 P_18 X_18 M_18 BX_18 HPC_18 B_18
       refine son 0 hH ?_; try simp only [nrm]
       refine son 2 hH ?_; try simp only [nrm]
       refine son 3 hH ?_; try simp only [nrm]
       refine son 4 hH ?_; try simp only [nrm]
       refine wpAnyH_ready (rs := [1, 5]) (by kernel_rfl) (by simp) (zz154 rfl (fun KK hK => ?_) (zz154 rfl (fun KK hK => ?_) (AllReadyH.nil)))
       rotate_left
       go_simp
       clear hH; refine hK.out _ _ (BX_19.out.below (zz13 w19 _)).c2 fun hH => ?_; clear hK KK
       try simp only [nrm]
       refine zz9 (fun w20 hW => ?_)
       have hal := zz13 w19 (.cells #[.bool m0, .slice ao na ca, .slice bo l cb] 53); have hone := Pi.one (K := 20) X_19.out h20 M_19.out 53; rw [← hW] at hal hone hH; clear hW; have P_20 := hid (P_19.out.below hal); have X_20 := hid (X_19.out.below hal); have M_20 := hid (M_19.out.below hal); have BX_20 := hid (BX_19.out.below hal); have HPC_20 := hid (HPC_19.out.below hal); have B_20 := hid (B_19.out.below hal); have HB_20 := hid (Below.steps HB_19.out hal); clear hal HB_19 P_19 X_19 M_19 BX_19 HPC_19 B_19
       have O_20 := hid hone; clear hone
       refine zz176 1 rfl (by kernel_rfl) (fun KK hK => ?_)
       go_simp
       refine (of_any8 HPC_20.out.inn (zz59 hf) (by omega) (by omega)).mono ?_
       rintro e w21 ⟨uo, un, uc, rfl, hX, hB⟩; rw [zz127 hf] at hX; have P_21 := hid (P_20.out.below hB); have X_21 := hid (X_20.out.below hB); have M_21 := hid (M_20.out.below hB); have BX_21 := hid (BX_20.out.below hB); have HPC_21 := hid (HPC_20.out.below hB); have B_21 := hid (B_20.out.below hB); have O_21 := hid (O_20.out.below hB); have HB_21 := hid (Below.steps HB_20.out hB); have U_21 := hid (hX); clear hB hX HB_20 P_20 X_20 M_20 BX_20 HPC_20 B_20 O_20; go_wp2_with fail
       clear hH; refine hK.out _ _ BX_21.out.c2 fun hH => ?_; clear hK KK
       try simp only [nrm]
       rotate_left
       go_simp
       refine (of_any8 HPC_19.out.inn (zz59 hf) (by omega) (by omega)).mono ?_
       rintro e w20 ⟨uo, un, uc, rfl, hX, hB⟩; rw [zz127 hf] at hX; have P_20 := hid (P_19.out.below hB); have X_20 := hid (X_19.out.below hB); have M_20 := hid (M_19.out.below hB); have BX_20 := hid (BX_19.out.below hB); have HPC_20 := hid (HPC_19.out.below hB); have B_20 := hid (B_19.out.below hB); have HB_20 := hid (Below.steps HB_19.out hB); have U_20 := hid (hX); clear hB hX HB_19 P_19 X_19 M_19 BX_19 HPC_19 B_19; go_wp2_with fail
       clear hH; refine hK.out _ _ BX_20.out.c2 fun hH => ?_; clear hK KK
       try simp only [nrm]
       refine zz176 5 rfl (by kernel_rfl) (fun KK hK => ?_)
       go_simp
       clear hH; refine hK.out _ _ (BX_20.out.below (zz13 w20 _)).c2 fun hH => ?_; clear hK KK
       try simp only [nrm]
       refine zz9 (fun w21 hW => ?_)
       have hal := zz13 w20 (.cells #[.bool m0, .slice ao na ca, .slice bo l cb] 53); have hone := Pi.one (K := 20) X_20.out h20 M_20.out 53; rw [← hW] at hal hone hH; clear hW; have P_21 := hid (P_20.out.below hal); have X_21 := hid (X_20.out.below hal); have M_21 := hid (M_20.out.below hal); have BX_21 := hid (BX_20.out.below hal); have HPC_21 := hid (HPC_20.out.below hal); have B_21 := hid (B_20.out.below hal); have U_21 := hid (U_20.out.below hal); have HB_21 := hid (Below.steps HB_20.out hal)
       clear hal HB_20 P_20 X_20 M_20 BX_20 HPC_20 B_20 U_20; have O_21 := hid hone; clear hone
       all_goals
        refine zz176 6 rfl (by kernel_rfl) (fun KK hK => ?_)
        go_simp
        refine (of_any8 O_21.out HMS.out (by omega) (by omega)).mono ?_
        rintro e w22 ⟨to_, tn, tc, rfl, hX, hB⟩; rw [HQ0.out] at hX; have BX_22 := hid (BX_21.out.below hB); have HPC_22 := hid (HPC_21.out.below hB); have B_22 := hid (B_21.out.below hB); have U_22 := hid (U_21.out.below hB); have HB_22 := hid (Below.steps HB_21.out hB); have V_22 := hid (hX); clear hB hX HB_21 P_21 X_21 M_21 BX_21 HPC_21 B_21 U_21 O_21
        go_wp2_with fail
        clear hH; refine hK.out _ _ BX_22.out.c2 fun hH => ?_; clear hK KK
        try simp only [nrm]
        have hun : un ≤ n := by have h1 := U_22.out.len; have h2 := HPC_22.out.len; omega
        have htn : tn ≤ 1 := by have h1 := V_22.out.len; have := HF0.out.2; omega
        have hut : un * tn ≤ un * 1 := Nat.mul_le_mul_left _ htn
        refine zz176 7 rfl (by kernel_rfl) (fun KK hK => ?_)
        go_simp
        refine (zz186 U_22.out V_22.out (zz59 hf) (zz59 HF0.out.1) (by omega)).mono ?_
        rintro e w23 ⟨xo, xn, xc, rfl, hX, hB⟩; rw [HOK.out]; have BX_23 := hid (BX_22.out.below hB); have HPC_23 := hid (HPC_22.out.below hB); have B_23 := hid (B_22.out.below hB); have HB_23 := hid (Below.steps HB_22.out hB); have Y_23 := hid (hX); clear hB hX HB_22 BX_22 HPC_22 B_22 U_22 V_22
        go_wp2_with fail
        clear hH; refine hK.out _ _ BX_23.out.c2 fun hH => ?_; clear hK KK
        try simp only [nrm]
        refine son 8 hH ?_; try simp only [nrm]
        refine son 9 hH ?_; try simp only [nrm]
        refine son 10 hH ?_; try simp only [nrm]
        refine son 11 hH ?_; try simp only [nrm]
        refine son 12 hH ?_; try simp only [nrm]
        refine wpAnyH_done (by kernel_rfl) ?_ _
        have hxl : xn ≤ 100 := by have h := Y_23.out.len; have := zz204 p q0; have h3 := HPC_23.out.len; have h4 := HF0.out.2; have h5 : p.length * q0.length ≤ p.length * 1 := Nat.mul_le_mul_left _ h4; omega
        go_wp2_with fail
        refine (zz195 ok eb B_23.out Y_23.out (by omega) (by omega) (by rw [← HOK.out, ← HEB.out]; exact err_try _ _) (fun e => try_nil (HOK.out.trans e))).mono ?_
        rintro e w24 ⟨rfl, hB⟩; have HB_24 := hid (Below.steps HB_23.out hB); clear hB HB_23 BX_23 HPC_23 B_23 Y_23; go_wp2_with fail; refine (zz95 _).mono ?_; rintro e w25 ⟨rfl, hB⟩; have HB_25 := hid (Below.steps HB_24.out hB)
        clear hB HB_24; go_wp2_with fail
        go_ret
        exact ⟨rfl, HB_25.out⟩
    ·obtain ⟨j, rfl⟩ : ∃ j : Nat, k = j := ⟨k.toNat, by omega⟩
     have hk6 : j ≤ 6 := by omega
     cases h2 : mayM 0 ms with
     | false =>
      have HPC_10 := hid (Pr.pc (p := p) P_10.out hl4); obtain ⟨c0, c1⟩ := BX_10.out.c2; obtain ⟨er, her⟩ : ∃ e, (if (powT p j).2 = true then (0 : Int) else 8) = e := ⟨_, rfl⟩; have HER := hid her; clear her
      have e1 : decide ((j : Int) < 0) = false := decide_eq_false (by omega)
      have e2 : decide ((100 : Int) < (j : Int)) = false := decide_eq_false (by omega)
      go_wp2_with fail; refine (ppow_two j hk6 HPC_10.out hf hn4 (Nat.le_refl _) er HER.out).mono ?_
      rintro e w11 ⟨vao, van, vac, rfl, hX, hB⟩; clear c0 c1; have P_11 := hid (P_10.out.below hB); have X_11 := hid (X_10.out.below hB); have M_11 := hid (M_10.out.below hB); have BX_11 := hid (BX_10.out.below hB); have HPC_11 := hid (HPC_10.out.below hB); have HB_11 := hid (Below.steps HB_10.out hB); have A_11 := hid (hX); clear hB hX HB_10 P_10 X_10 M_10 BX_10 HPC_10; obtain ⟨c0, c1⟩ := BX_11.out.c2; go_wp2_with fail; refine (zz147 X_11.out h20 M_11.out h2).mono ?_; rintro e w12 ⟨vbo, vbn, vbc, rfl, hX, hB⟩
      clear c0 c1; obtain rfl : vbn = 0 := hX.len.symm; have P_12 := hid (P_11.out.below hB); have M_12 := hid (M_11.out.below hB); have HPC_12 := hid (HPC_11.out.below hB); have A_12 := hid (A_11.out.below hB); have HB_12 := hid (Below.steps HB_11.out hB); have B_12 := hid (hX.raw); clear hB hX HB_11 P_11 X_11 M_11 BX_11 HPC_11 A_11; go_wp2_with fail
      refine (zz241 1 _ ⟨by omega, by omega⟩).mono ?_
      rintro e w13 ⟨sm, sa, sn, sc, rfl, hX, hB⟩; have P_13 := hid (P_12.out.below hB); have M_13 := hid (M_12.out.below hB); have HPC_13 := hid (HPC_12.out.below hB); have A_13 := hid (A_12.out.below hB); have HB_13 := hid (Below.steps HB_12.out hB); have Z_13 := hid (hX); clear hB hX HB_12 P_12 M_12 HPC_12 A_12 B_12; go_wp2_with fail
      refine (zz239 (Z_13.out.zx (show Bd 1 1 by unfold Bd; decide) (by omega))).mono ?_
      rintro e w14 ⟨im, ia, in2, ic, rfl, hX, hB⟩; have P_14 := hid (P_13.out.below hB); have M_14 := hid (M_13.out.below hB); have HPC_14 := hid (HPC_13.out.below hB); have A_14 := hid (A_13.out.below hB); have HB_14 := hid (Below.steps HB_13.out hB); have I_14 := hid (hX); clear hB hX HB_13 P_13 M_13 HPC_13 A_13 Z_13
      go_upto_region 6 with (fail)
      refine zz232 (fun w15 hW => ?_)
      have hal := zz13 w14 (.cells #[.bool im, .slice ia in2 ic, .slice bo l cb] 53); have hlit := pr_lit I_14.out M_14.out 53; rw [← hW] at hal hlit; clear hW; clear I_14; have P_15 := hid (P_14.out.below hal); have HPC_15 := hid (HPC_14.out.below hal); have A_15 := hid (A_14.out.below hal); have HB_15 := hid (Below.steps HB_14.out hal); have LIT_15 := hid hlit; clear hal hlit HB_14 P_14 M_14 HPC_14 A_14
      have HMO : Hid (mayR [((false, [1]), ms)] = false) := may_lit h2
      go_wp2_with fail; refine (zz111 true P_15.out hl1 (zz109 hf)).mono ?_
      rintro e w16 ⟨rfl, hB⟩; have P_16 := hid (P_15.out.below hB); have HPC_16 := hid (HPC_15.out.below hB); have A_16 := hid (A_15.out.below hB); have LIT_16 := hid (LIT_15.out.below hB); have HB_16 := hid (Below.steps HB_15.out hB); clear hB HB_15 P_15 HPC_15 A_15 LIT_15; go_wp2_with fail
      refine (of_any8 HPC_16.out.inn (zz59 hf) (by omega) (by omega)).mono ?_
      rintro e w17 ⟨uo, un, uc, rfl, hX, hB⟩; rw [zz127 hf] at hX; have P_17 := hid (P_16.out.below hB); have HPC_17 := hid (HPC_16.out.below hB); have A_17 := hid (A_16.out.below hB); have LIT_17 := hid (LIT_16.out.below hB); have HB_17 := hid (Below.steps HB_16.out hB); have U_17 := hid (hX); clear hB hX HB_16 P_16 HPC_16 A_16 LIT_16
      obtain rfl : n = un := by have h1 := U_17.out.len; have h2 := HPC_17.out.len; omega
      go_wp2_with fail
      refine (pow_any8 j (U_17.out.mono (show 4 + n ≤ 8 by omega)) (zz59 hf) (by omega) (zz91 hn4 hk6)).mono ?_
      rintro e w18 ⟨qo, qn, qc, rfl, hX, hB⟩; have P_18 := hid (P_17.out.below hB); have HPC_18 := hid (HPC_17.out.below hB); have A_18 := hid (A_17.out.below hB); have LIT_18 := hid (LIT_17.out.below hB); have HB_18 := hid (Below.steps HB_17.out hB); have Q_18 := hid (hX); clear hB hX HB_17 P_17 HPC_17 A_17 LIT_17 U_17; obtain ⟨ob, hob⟩ : ∃ b, (powT p j).2 = b := ⟨_, rfl⟩; rw [hob]; have her := HER.out; rw [hob] at her
      have HOB := hid (And.intro hob her); clear hob her
      have hql : qn ≤ 5000 := by have h := Q_18.out.len; have := powT_four hn4 hk6 HPC_18.out.len; omega
      go_wp2_with fail
      refine (zz195 ob er A_18.out Q_18.out (by omega) (zz91 hn4 hk6 j (Nat.le_refl _)) HOB.out.2 (fun e => powT_nil hf (HOB.out.1.trans e))).mono ?_
      rintro e w19 ⟨rfl, hB⟩; have P_19 := hid (P_18.out.below hB); have LIT_19 := hid (LIT_18.out.below hB); have HB_19 := hid (Below.steps HB_18.out hB); clear hB HB_18 P_18 HPC_18 A_18 LIT_18 Q_18; go_wp2_with fail; refine (zz111 true P_19.out hl1 (zz109 hf)).mono ?_; rintro e w20 ⟨rfl, hB⟩
      have LIT_20 := hid (LIT_19.out.below hB); have HB_20 := hid (Below.steps HB_19.out hB); clear hB HB_19 P_19 LIT_19; go_wp2_with fail
      refine (zz111 false LIT_20.out (fun t ht => by rw [List.mem_singleton] at ht; subst ht; exact (by decide : 1 ≤ 1000)) HMO.out).mono ?_
      rintro e w21 ⟨rfl, hB⟩; have HB_21 := hid (Below.steps HB_20.out hB); clear hB HB_20 LIT_20; go_wp2_with fail; refine (zz95 _).mono ?_; rintro e w22 ⟨rfl, hB⟩; have HB_22 := hid (Below.steps HB_21.out hB); clear hB HB_21; go_wp2_with fail
      go_ret
      exact ⟨rfl, HB_22.out⟩
     | true =>
      have HPC_10 := hid (Pr.pc (p := p) P_10.out hl4); obtain ⟨c0, c1⟩ := BX_10.out.c2; obtain ⟨q0, hq0⟩ : ∃ q, ofT [(z, ms)] = q := ⟨_, rfl⟩; obtain ⟨eb, heb⟩ : ∃ e, errT p q0 = e := ⟨_, rfl⟩; obtain ⟨ok, hok⟩ : ∃ b, (tryT p q0).2 = b := ⟨_, rfl⟩; have HQ0 := hid hq0; have HEB := hid heb; have HOK := hid hok
      have hms : mays [(z, ms)] := fun t ht => by rw [List.mem_singleton] at ht; subst ht; exact h2
      have HF0 : Hid (fall q0 ∧ q0.length ≤ 1) := by rw [Hid, ← hq0]; exact ⟨(zz128 hms).1, by rw [of_one h2]; split <;> simp⟩
      have HMS := hid hms; clear hq0 heb hok hms; obtain ⟨er, her⟩ : ∃ e, (if (powT p j).2 = true then (0 : Int) else 8) = e := ⟨_, rfl⟩; have HER := hid her; clear her
      have e1 : decide ((j : Int) < 0) = false := decide_eq_false (by omega)
      have e2 : decide ((100 : Int) < (j : Int)) = false := decide_eq_false (by omega)
      go_wp2_with fail; refine (ppow_two j hk6 HPC_10.out hf hn4 (Nat.le_refl _) er HER.out).mono ?_
      rintro e w11 ⟨vao, van, vac, rfl, hX, hB⟩; clear c0 c1; have P_11 := hid (P_10.out.below hB); have X_11 := hid (X_10.out.below hB); have M_11 := hid (M_10.out.below hB); have BX_11 := hid (BX_10.out.below hB); have HPC_11 := hid (HPC_10.out.below hB); have HB_11 := hid (Below.steps HB_10.out hB); have A_11 := hid (hX); clear hB hX HB_10 P_10 X_10 M_10 BX_10 HPC_10; obtain ⟨c0, c1⟩ := BX_11.out.c2; go_wp2_with fail
      refine (pshift_any (K := 20) (HPC_11.out.mono (show 4 ≤ 20 by omega)) hf (by omega) X_11.out h20 (by omega) M_11.out h2).mono ?_
      rintro e w12 ⟨vbo, vbn, vbc, rfl, hX, hB⟩; clear c0 c1; rw [HQ0.out] at hX ⊢; rw [HEB.out]; have P_12 := hid (P_11.out.below hB); have X_12 := hid (X_11.out.below hB); have M_12 := hid (M_11.out.below hB); have BX_12 := hid (BX_11.out.below hB); have HPC_12 := hid (HPC_11.out.below hB); have A_12 := hid (A_11.out.below hB); have HB_12 := hid (Below.steps HB_11.out hB); have B_12 := hid (hX); clear hB hX HB_11 P_11 X_11 M_11 BX_11 HPC_11 A_11; go_wp2_with fail
      refine (zz241 1 _ ⟨by omega, by omega⟩).mono ?_
      rintro e w13 ⟨sm, sa, sn, sc, rfl, hX, hB⟩; have P_13 := hid (P_12.out.below hB); have X_13 := hid (X_12.out.below hB); have M_13 := hid (M_12.out.below hB); have BX_13 := hid (BX_12.out.below hB); have HPC_13 := hid (HPC_12.out.below hB); have A_13 := hid (A_12.out.below hB); have B_13 := hid (B_12.out.below hB); have HB_13 := hid (Below.steps HB_12.out hB); have Z_13 := hid (hX); clear hB hX HB_12 P_12 X_12 M_12 BX_12 HPC_12 A_12 B_12; go_wp2_with fail
      refine (zz239 (Z_13.out.zx (show Bd 1 1 by unfold Bd; decide) (by omega))).mono ?_
      rintro e w14 ⟨im, ia, in2, ic, rfl, hX, hB⟩; have P_14 := hid (P_13.out.below hB); have X_14 := hid (X_13.out.below hB); have M_14 := hid (M_13.out.below hB); have BX_14 := hid (BX_13.out.below hB); have HPC_14 := hid (HPC_13.out.below hB); have A_14 := hid (A_13.out.below hB); have B_14 := hid (B_13.out.below hB); have Z_14 := hid (Z_13.out.below hB); have HB_14 := hid (Below.steps HB_13.out hB); have I_14 := hid (hX); clear hB hX HB_13 P_13 X_13 M_13 BX_13 HPC_13 A_13 B_13 Z_13; clear Z_14
      go_upto_region 6 with (fail)
      refine zz232 (fun w15 hW => ?_)
      have hal := zz13 w14 (.cells #[.bool im, .slice ia in2 ic, .slice bo l cb] 53); have hlit := pr_lit I_14.out M_14.out 53; rw [← hW] at hal hlit; clear hW; clear I_14; have P_15 := hid (P_14.out.below hal); have X_15 := hid (X_14.out.below hal); have M_15 := hid (M_14.out.below hal); have BX_15 := hid (BX_14.out.below hal); have HPC_15 := hid (HPC_14.out.below hal); have A_15 := hid (A_14.out.below hal); have B_15 := hid (B_14.out.below hal); have HB_15 := hid (Below.steps HB_14.out hal)
      have LIT_15 := hid hlit; clear hal hlit HB_14 P_14 X_14 M_14 BX_14 HPC_14 A_14 B_14
      have HMO : Hid (mayR [((false, [1]), ms)] = true) := may_lit h2
      go_wp2_with fail; refine (zz111 true P_15.out hl1 (zz109 hf)).mono ?_
      rintro e w16 ⟨rfl, hB⟩; have P_16 := hid (P_15.out.below hB); have X_16 := hid (X_15.out.below hB); have M_16 := hid (M_15.out.below hB); have BX_16 := hid (BX_15.out.below hB); have HPC_16 := hid (HPC_15.out.below hB); have A_16 := hid (A_15.out.below hB); have B_16 := hid (B_15.out.below hB); have LIT_16 := hid (LIT_15.out.below hB); have HB_16 := hid (Below.steps HB_15.out hB); clear hB  HB_15 P_15 X_15 M_15 BX_15 HPC_15 A_15 B_15 LIT_15; go_wp2_with fail
      refine (of_any8 HPC_16.out.inn (zz59 hf) (by omega) (by omega)).mono ?_
      rintro e w17 ⟨uo, un, uc, rfl, hX, hB⟩; rw [zz127 hf] at hX; have P_17 := hid (P_16.out.below hB); have X_17 := hid (X_16.out.below hB); have M_17 := hid (M_16.out.below hB); have BX_17 := hid (BX_16.out.below hB); have HPC_17 := hid (HPC_16.out.below hB); have A_17 := hid (A_16.out.below hB); have B_17 := hid (B_16.out.below hB); have LIT_17 := hid (LIT_16.out.below hB); have HB_17 := hid (Below.steps HB_16.out hB); have U_17 := hid (hX); clear hB hX HB_16 P_16 X_16 M_16 BX_16 HPC_16 A_16 B_16 LIT_16
      obtain rfl : n = un := by have h1 := U_17.out.len; have h2 := HPC_17.out.len; omega
      go_wp2_with fail
      refine (pow_any8 j (U_17.out.mono (show 4 + n ≤ 8 by omega)) (zz59 hf) (by omega) (zz91 hn4 hk6)).mono ?_
      rintro e w18 ⟨qo, qn, qc, rfl, hX, hB⟩; have P_18 := hid (P_17.out.below hB); have X_18 := hid (X_17.out.below hB); have M_18 := hid (M_17.out.below hB); have BX_18 := hid (BX_17.out.below hB); have HPC_18 := hid (HPC_17.out.below hB); have A_18 := hid (A_17.out.below hB); have B_18 := hid (B_17.out.below hB); have LIT_18 := hid (LIT_17.out.below hB); have U_18 := hid (U_17.out.below hB); have HB_18 := hid (Below.steps HB_17.out hB); have Q_18 := hid (hX); clear hB hX HB_17 P_17 X_17 M_17 BX_17 HPC_17 A_17 B_17 LIT_17 U_17
      clear U_18; obtain ⟨ob, hob⟩ : ∃ b, (powT p j).2 = b := ⟨_, rfl⟩; rw [hob]; have her := HER.out; rw [hob] at her; have HOB := hid (And.intro hob her); clear hob her
      have hql : qn ≤ 5000 := by have h := Q_18.out.len; have := powT_four hn4 hk6 HPC_18.out.len; omega
      go_wp2_with fail
      refine (zz195 ob er A_18.out Q_18.out (by omega) (zz91 hn4 hk6 j (Nat.le_refl _)) HOB.out.2 (fun e => powT_nil hf (HOB.out.1.trans e))).mono ?_
      rintro e w19 ⟨rfl, hB⟩; have P_19 := hid (P_18.out.below hB); have X_19 := hid (X_18.out.below hB); have M_19 := hid (M_18.out.below hB); have BX_19 := hid (BX_18.out.below hB); have HPC_19 := hid (HPC_18.out.below hB); have A_19 := hid (A_18.out.below hB); have B_19 := hid (B_18.out.below hB); have LIT_19 := hid (LIT_18.out.below hB); have Q_19 := hid (Q_18.out.below hB); have HB_19 := hid (Below.steps HB_18.out hB); clear hB  HB_18 P_18 X_18 M_18 BX_18 HPC_18 A_18 B_18 LIT_18 Q_18; clear Q_19
      go_wp2_with fail; refine (zz111 true P_19.out hl1 (zz109 hf)).mono ?_
      rintro e w20 ⟨rfl, hB⟩; have P_20 := hid (P_19.out.below hB); have X_20 := hid (X_19.out.below hB); have M_20 := hid (M_19.out.below hB); have BX_20 := hid (BX_19.out.below hB); have HPC_20 := hid (HPC_19.out.below hB); have A_20 := hid (A_19.out.below hB); have B_20 := hid (B_19.out.below hB); have LIT_20 := hid (LIT_19.out.below hB); have HB_20 := hid (Below.steps HB_19.out hB); clear hB  HB_19 P_19 X_19 M_19 BX_19 HPC_19 A_19 B_19 LIT_19; go_wp2_with fail
      refine (zz111 true LIT_20.out (fun t ht => by rw [List.mem_singleton] at ht; subst ht; exact (by decide : 1 ≤ 1000)) HMO.out).mono ?_
      rintro e w21 ⟨rfl, hB⟩; have P_21 := hid (P_20.out.below hB); have X_21 := hid (X_20.out.below hB); have M_21 := hid (M_20.out.below hB); have BX_21 := hid (BX_20.out.below hB); have HPC_21 := hid (HPC_20.out.below hB); have A_21 := hid (A_20.out.below hB); have B_21 := hid (B_20.out.below hB); have LIT_21 := hid (LIT_20.out.below hB); have HB_21 := hid (Below.steps HB_20.out hB); clear hB  HB_20 P_20 X_20 M_20 BX_20 HPC_20 A_20 B_20 LIT_20; clear LIT_21
      go_upto_region 14 with (fail)
      refine wp_region_held_drew (S := (fun w' => w'.cell? ⟨w.heap.size, 0, none⟩ = some (.bool m0) ∧ w'.cell? ⟨w.heap.size, 1, none⟩ = some (.slice ao na ca))) (by kernel_rfl) (BX_21.out.below (Below.refl _ _).drew).c2 (fun hH => ?_)
      refine zz9 (fun w22 hW => ?_)
      have dr := (Below.refl w21.heap.size w21).drew; rw [← hW] at hH dr; clear hW; have P_22 := hid (P_21.out.below dr); have X_22 := hid (X_21.out.below dr); have M_22 := hid (M_21.out.below dr); have BX_22 := hid (BX_21.out.below dr); have HPC_22 := hid (HPC_21.out.below dr); have A_22 := hid (A_21.out.below dr); have B_22 := hid (B_21.out.below dr); have HB_22 := hid (Below.steps HB_21.out dr); clear dr HB_21 P_21 X_21 M_21 BX_21 HPC_21 A_21 B_21
      refine son 0 hH ?_; try simp only [nrm]
      refine son 2 hH ?_; try simp only [nrm]
      refine son 3 hH ?_; try simp only [nrm]
      refine son 4 hH ?_; try simp only [nrm]
      refine wpAnyH_ready (rs := [1, 5]) (by kernel_rfl) (by simp) (zz154 rfl (fun KK hK => ?_) (zz154 rfl (fun KK hK => ?_) (AllReadyH.nil)))
      rotate_left
      go_simp
      clear hH; refine hK.out _ _ (BX_22.out.below (zz13 w22 _)).c2 fun hH => ?_; clear hK KK
      try simp only [nrm]
      refine zz9 (fun w23 hW => ?_)
      have hal := zz13 w22 (.cells #[.bool m0, .slice ao na ca, .slice bo l cb] 53); have hone := Pi.one (K := 20) X_22.out h20 M_22.out 53; rw [← hW] at hal hone hH; clear hW; have P_23 := hid (P_22.out.below hal); have X_23 := hid (X_22.out.below hal); have M_23 := hid (M_22.out.below hal); have BX_23 := hid (BX_22.out.below hal); have HPC_23 := hid (HPC_22.out.below hal); have A_23 := hid (A_22.out.below hal); have B_23 := hid (B_22.out.below hal); have HB_23 := hid (Below.steps HB_22.out hal)
      clear hal HB_22 P_22 X_22 M_22 BX_22 HPC_22 A_22 B_22; have O_23 := hid hone; clear hone
      refine zz176 1 rfl (by kernel_rfl) (fun KK hK => ?_)
      go_simp
      refine (of_any8 HPC_23.out.inn (zz59 hf) (by omega) (by omega)).mono ?_
      rintro e w24 ⟨uo, un, uc, rfl, hX, hB⟩; rw [zz127 hf] at hX; have P_24 := hid (P_23.out.below hB); have X_24 := hid (X_23.out.below hB); have M_24 := hid (M_23.out.below hB); have BX_24 := hid (BX_23.out.below hB); have HPC_24 := hid (HPC_23.out.below hB); have A_24 := hid (A_23.out.below hB); have B_24 := hid (B_23.out.below hB); have O_24 := hid (O_23.out.below hB); have HB_24 := hid (Below.steps HB_23.out hB); have U_24 := hid (hX); clear hB hX HB_23 P_23 X_23 M_23 BX_23 HPC_23 A_23 B_23 O_23
      go_wp2_with fail
      clear hH; refine hK.out _ _ BX_24.out.c2 fun hH => ?_; clear hK KK
      try simp only [nrm]
      rotate_left
      go_simp
      refine (of_any8 HPC_22.out.inn (zz59 hf) (by omega) (by omega)).mono ?_
      rintro e w23 ⟨uo, un, uc, rfl, hX, hB⟩; rw [zz127 hf] at hX; have P_23 := hid (P_22.out.below hB); have X_23 := hid (X_22.out.below hB); have M_23 := hid (M_22.out.below hB); have BX_23 := hid (BX_22.out.below hB); have HPC_23 := hid (HPC_22.out.below hB); have A_23 := hid (A_22.out.below hB); have B_23 := hid (B_22.out.below hB); have HB_23 := hid (Below.steps HB_22.out hB); have U_23 := hid (hX); clear hB hX HB_22 P_22 X_22 M_22 BX_22 HPC_22 A_22 B_22; go_wp2_with fail
      clear hH; refine hK.out _ _ BX_23.out.c2 fun hH => ?_; clear hK KK
      try simp only [nrm]
      refine zz176 5 rfl (by kernel_rfl) (fun KK hK => ?_)
      go_simp
      clear hH; refine hK.out _ _ (BX_23.out.below (zz13 w23 _)).c2 fun hH => ?_; clear hK KK
      try simp only [nrm]
      refine zz9 (fun w24 hW => ?_)
      have hal := zz13 w23 (.cells #[.bool m0, .slice ao na ca, .slice bo l cb] 53); have hone := Pi.one (K := 20) X_23.out h20 M_23.out 53; rw [← hW] at hal hone hH; clear hW; have P_24 := hid (P_23.out.below hal); have X_24 := hid (X_23.out.below hal); have M_24 := hid (M_23.out.below hal); have BX_24 := hid (BX_23.out.below hal); have HPC_24 := hid (HPC_23.out.below hal); have A_24 := hid (A_23.out.below hal); have B_24 := hid (B_23.out.below hal); have U_24 := hid (U_23.out.below hal)
      have HB_24 := hid (Below.steps HB_23.out hal); clear hal HB_23 P_23 X_23 M_23 BX_23 HPC_23 A_23 B_23 U_23; have O_24 := hid hone; clear hone
      all_goals
       refine zz176 6 rfl (by kernel_rfl) (fun KK hK => ?_)
       go_simp
       refine (of_any8 O_24.out HMS.out (by omega) (by omega)).mono ?_
       rintro e w25 ⟨to_, tn, tc, rfl, hX, hB⟩; rw [HQ0.out] at hX; have BX_25 := hid (BX_24.out.below hB); have HPC_25 := hid (HPC_24.out.below hB); have B_25 := hid (B_24.out.below hB); have U_25 := hid (U_24.out.below hB); have HB_25 := hid (Below.steps HB_24.out hB); have V_25 := hid (hX); clear hB hX HB_24 P_24 X_24 M_24 BX_24 HPC_24 A_24 B_24 U_24 O_24
       go_wp2_with fail
       clear hH; refine hK.out _ _ BX_25.out.c2 fun hH => ?_; clear hK KK
       try simp only [nrm]
       have hun : un ≤ n := by have h1 := U_25.out.len; have h2 := HPC_25.out.len; omega
       have htn : tn ≤ 1 := by have h1 := V_25.out.len; have := HF0.out.2; omega
       have hut : un * tn ≤ un * 1 := Nat.mul_le_mul_left _ htn
       refine zz176 7 rfl (by kernel_rfl) (fun KK hK => ?_)
       go_simp
       refine (zz186 U_25.out V_25.out (zz59 hf) (zz59 HF0.out.1) (by omega)).mono ?_
       rintro e w26 ⟨xo, xn, xc, rfl, hX, hB⟩; rw [HOK.out]; have BX_26 := hid (BX_25.out.below hB); have HPC_26 := hid (HPC_25.out.below hB); have B_26 := hid (B_25.out.below hB); have HB_26 := hid (Below.steps HB_25.out hB); have Y_26 := hid (hX); clear hB hX HB_25 BX_25 HPC_25 B_25 U_25 V_25
       go_wp2_with fail
       clear hH; refine hK.out _ _ BX_26.out.c2 fun hH => ?_; clear hK KK
       try simp only [nrm]
       refine son 8 hH ?_; try simp only [nrm]
       refine son 9 hH ?_; try simp only [nrm]
       refine son 10 hH ?_; try simp only [nrm]
       refine son 11 hH ?_; try simp only [nrm]
       refine son 12 hH ?_; try simp only [nrm]
       refine wpAnyH_done (by kernel_rfl) ?_ _
       have hxl : xn ≤ 100 := by have h := Y_26.out.len; have := zz204 p q0; have h3 := HPC_26.out.len; have h4 := HF0.out.2; have h5 : p.length * q0.length ≤ p.length * 1 := Nat.mul_le_mul_left _ h4; omega
       go_wp2_with fail
       refine (zz195 ok eb B_26.out Y_26.out (by omega) (by omega) (by rw [← HOK.out, ← HEB.out]; exact err_try _ _) (fun e => try_nil (HOK.out.trans e))).mono ?_
       rintro e w27 ⟨rfl, hB⟩; have HB_27 := hid (Below.steps HB_26.out hB); clear hB HB_26 BX_26 HPC_26 B_26 Y_26; go_wp2_with fail; refine (zz95 _).mono ?_; rintro e w28 ⟨rfl, hB⟩
       have HB_28 := hid (Below.steps HB_27.out hB); clear hB HB_27; go_wp2_with fail
       go_ret
       exact ⟨rfl, HB_28.out⟩
theorem polyPow_any (k : Int) {po ao bo : Option Addr} {n pc na ca l cb : Nat} {m0 : Bool} {z : Int} {ms : List (Int × Int)} {ps : List Raw} {w : World} (hp : Pr w po n pc ps) (hx : In w m0 ao na ca z) (hm : Ml w bo l cb ms) :
  Calls Tryz.prog 6 #[.slice po n pc, .int .i64 k, .agg #[.bool m0, .slice ao na ca], .slice bo l cb] w (RetB (.bool true) w) := by
 by_cases g0 : greatR ps 4 = true
 ·exact polyPow_great hp hx hm k g0
 have g0 : greatR ps 4 = false := by simpa using g0
 obtain ⟨a1, a2⟩ := great_facts g0; have hpn := hp.len
 refine polyPow_main hp hx hm k g0 (fun t ht => Nat.le_trans (a2 t ht).1 (by omega)) _ rfl (by omega) ?_
 cases h1 : mayR ps with
 | false => exact .inl rfl
 | true =>
  obtain ⟨hf, hpp⟩ := mayR_yes hp.wf h1
  refine .inr ⟨_, hpp, hf, ?_⟩
  by_cases h4 : 4 < limR ps
  ·exact .inl h4
  ·refine .inr (lim_lens (k := 4) ?_)
   have e : limR ps = limT (ps.map rawV) := by unfold limR; rw [pln_yes h1]
   rw [← e]
   omega
end Go.Proofs.YtmbgljjfmbhelaaGreat

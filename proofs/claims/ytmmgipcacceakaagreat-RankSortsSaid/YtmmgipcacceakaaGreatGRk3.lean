/- RkR, RkL, RkM -/
import Derived.Test.YtmmgipcacceakaaGreatGRk2
set_option maxHeartbeats 40000000
set_option maxRecDepth 100000
namespace Go.Proofs.YtmmgipcacceakaaGreat
open Lib (hid)
open Go.RowKit
section
variable {K B : Nat} {ao bo : Option Addr} {n cap m cb : Nat} {p q : List Term} {w : World}
theorem rrof_any [Ol] (c d : Int) (hp : Pz K w ao n cap p) (hf : fall p) (hc : clsP p = c) (hd : degP p c = d) :
  Calls Tryz.prog 33 #[.slice ao n cap] w (RetB (.agg #[.int .i64 c, .int .i64 d]) w) := by
 have HP := hid (And.intro hp hf); have HC := hid hc; have HD := hid hd
 have HZ : Hid (c = 0 → d = 0) := fun h => by rw [← hd, h]; exact deg_zero_var (fall_mays hf)
 clear hp hf hc hd
 go_enter Tryz.func33, Tryz.ntmps33
 go_upto_region 1 with (fail)
 refine wp_world (fun W hW => ?_)
 obtain ⟨a1, hB⟩ := box1 w [.int .i64 0, .int .i64 0] 48; rw [← hW] at a1 hB; clear hW; have HA0 := hid a1; have HB0 := hid hB; clear a1 hB; go_wp2_with fail; refine (rcls_any c (HP.out.1.below HB0.out) HP.out.2 HC.out).mono ?_; rintro e w1 ⟨rfl, hB⟩; have HA1 := hid (HA0.out.below hB); have HB1 := hid (Below.steps HB0.out hB); clear hB HA0 HB0
 by_cases hc0 : c = 0
 ·have hcc : (c == 0) = true := by simpa using hc0
  have HE : Hid (c = 0 ∧ d = 0) := ⟨hc0, HZ.out hc0⟩
  obtain ⟨d0, d1⟩ := HA1.out.c2; have f0 := HA1.out.fz 0; have f1 := HA1.out.fz 1; clear hc0; go_wp2_with fail; clear d0 d1 f0 f1
  refine post_world (Q := bodyPost _ _ _ _ _) (fun W hW => ?_)
  have R : AtN W w.heap.size [.int .i64 c, .int .i64 d] 48 := by rw [hW, HE.out.1, HE.out.2]; exact (HA1.out.set 0 _).set 1 _
  have HBW : Below w.heap.size w W := by rw [hW]; exact HB1.out.grown (grown_put2 _ w.heap.size 0 _ _) HB1.out.size (fun r e => by cases e; exact Nat.le_refl _)
  clear hW; obtain ⟨d0, d1⟩ := R.c2
  exact bodyPost_ret (v := .agg #[.int .i64 c, .int .i64 d]) (by simp [results, Tryz.results33, go_sem, d0, d1]) rfl ⟨rfl, HBW⟩
 ·have hcc : (c == 0) = false := by simpa using hc0
  clear hc0; go_wp2_with fail; refine (rdeg_any c d (HP.out.1.below HB1.out) HP.out.2 HD.out).mono ?_; rintro e w2 ⟨rfl, hB⟩; have HA2 := hid (HA1.out.below hB); have HB2 := hid (Below.steps HB1.out hB); clear hB HA1 HB1; obtain ⟨d0, d1⟩ := HA2.out.c2; have f0 := HA2.out.fz 0; have f1 := HA2.out.fz 1; go_wp2_with fail; clear d0 d1 f0 f1
  refine post_world (Q := bodyPost _ _ _ _ _) (fun W hW => ?_)
  have R : AtN W w.heap.size [.int .i64 c, .int .i64 d] 48 := by rw [hW]; exact (HA2.out.set 0 _).set 1 _
  have HBW : Below w.heap.size w W := by rw [hW]; exact HB2.out.grown (grown_put2 _ w.heap.size 0 _ _) HB2.out.size (fun r e => by cases e; exact Nat.le_refl _)
  clear hW; obtain ⟨d0, d1⟩ := R.c2
  exact bodyPost_ret (v := .agg #[.int .i64 c, .int .i64 d]) (by simp [results, Tryz.results33, go_sem, d0, d1]) rfl ⟨rfl, HBW⟩
theorem rless_any (a1 a2 b1 b2 : Int) (r : Bool) (hr : ltRk (a1, a2) (b1, b2) = r) :
  Calls Tryz.prog 32 #[.agg #[.int .i64 a1, .int .i64 a2], .agg #[.int .i64 b1, .int .i64 b2]] w (RetB (.bool r) w) := by
 have HR : Hid ((decide (a1 < b1) || ((a1 == b1) && decide (a2 < b2))) = r) := by
  have e : (a1 == b1) = decide (a1 = b1) := by by_cases h : a1 = b1 <;> simp [h]
  rw [Hid, ← hr, e]
  unfold ltRk
  simp
 clear hr
 go_enter Tryz.func32, Tryz.ntmps32
 go_upto_region 1 with (fail)
 refine wp_world (fun W hW => ?_)
 obtain ⟨q1, q2, hB⟩ := box2 w [.int .i64 a1, .int .i64 a2] [.int .i64 b1, .int .i64 b2] 48 48; rw [← hW] at q1 q2 hB; clear hW; have HB := hid hB; obtain ⟨c0, c1⟩ := q1.c2; obtain ⟨d0, d1⟩ := q2.c2; clear q1 q2 hB; obtain ⟨x, hx⟩ : ∃ x, decide (a1 < b1) = x := ⟨_, rfl⟩; obtain ⟨y, hy⟩ : ∃ y, (a1 == b1) = y := ⟨_, rfl⟩; have H := HR.out; rw [hx, hy] at H; clear HR
 cases x with
 | true =>
  have HR := hid H; clear H; go_wp2_with fail
  go_ret
  have h := HR.out; subst h
  exact ⟨rfl, HB.out⟩
 | false =>
  cases y with
  | true =>
   have h : decide (a2 < b2) = r := H
   clear H; go_wp2_with fail
   go_ret
   exact ⟨rfl, HB.out⟩
  | false =>
   have HR := hid H; clear H; go_wp2_with fail
   go_ret
   have h := HR.out; subst h
   exact ⟨rfl, HB.out⟩
end
open Lib (hid)
def k15B : List Term := [(1, [(2, 2)])]
def k15C : List Term := [(1, [(1, 1), (2, 2)])]
def k15E : List Term := [(1, [(2, 1)]), (1, [])]
theorem k15B_fall : fall k15B := fall_of_dec (by decide +kernel) (by decide +kernel)
theorem k15C_fall : fall k15C := fall_of_dec (by decide +kernel) (by decide +kernel)
theorem k15E_fall : fall k15E := fall_of_dec (by decide +kernel) (by decide +kernel)
theorem k15_B : (tryT ky ky).1 = k15B := by decide +kernel
theorem k15_C : (tryT kx k15B).1 = k15C := by decide +kernel
theorem k15_E : addT ky (smallT 1) = k15E := by decide +kernel
theorem known15_any [Ol] (w : World) : Calls Tryz.prog 6 #[] w (RetB (.bool true) w) := by
 have HB_0 := hid (Below.refl w.heap.size w)
 go_enter Tryz.func6, Tryz.ntmps6
 go_wp2_with fail
 refine (x_any8 1 _ (by unfold in64; omega)).mono ?_
 rintro e w1 ⟨vxo, vxn, vxc, rfl, hX, hB⟩; rw [← kx] at hX
 obtain rfl : vxn = 1 := hX.len.symm.trans (by decide +kernel)
 have HB_1 := hid (Below.steps HB_0.out hB); have X_1 := hid (hX); clear hB hX HB_0; go_wp2_with fail
 refine (x_any8 2 _ (by unfold in64; omega)).mono ?_
 rintro e w2 ⟨vyo, vyn, vyc, rfl, hX, hB⟩; rw [← ky] at hX
 obtain rfl : vyn = 1 := hX.len.symm.trans (by decide +kernel)
 have X_2 := hid (X_1.out.below hB); have HB_2 := hid (Below.steps HB_1.out hB); have Y_2 := hid (hX); clear hB hX HB_1 X_1; go_wp2_with fail
 refine (mul_any8 Y_2.out Y_2.out (fall_mays ky_fall) (fall_mays ky_fall) (by omega)).mono ?_
 rintro e w3 ⟨vbo, vbn, vbc, rfl, hX, hB⟩; rw [k15_B] at hX
 obtain rfl : vbn = 1 := hX.len.symm.trans (by decide +kernel)
 have X_3 := hid (X_2.out.below hB); have Y_3 := hid (Y_2.out.below hB); have HB_3 := hid (Below.steps HB_2.out hB); have B_3 := hid (hX); clear hB hX HB_2 X_2 Y_2; go_wp2_with fail
 refine (mul_any8 X_3.out B_3.out (fall_mays kx_fall) (fall_mays k15B_fall) (by omega)).mono ?_
 rintro e w4 ⟨vco, vcn, vcc, rfl, hX, hB⟩; rw [k15_C] at hX
 obtain rfl : vcn = 1 := hX.len.symm.trans (by decide +kernel)
 have X_4 := hid (X_3.out.below hB); have Y_4 := hid (Y_3.out.below hB); have B_4 := hid (B_3.out.below hB); have HB_4 := hid (Below.steps HB_3.out hB); have C_4 := hid (hX); clear hB hX HB_3 X_3 Y_3 B_3; clear B_4; go_wp2_with fail
 refine (poly_any8 C_4.out (by omega) (by omega)).mono ?_
 rintro e w5 ⟨vdo, vdn, vdc, rfl, hX, hB⟩
 obtain rfl : vdn = 1 := hX.len.symm.trans (by decide +kernel)
 have X_5 := hid (X_4.out.below hB); have Y_5 := hid (Y_4.out.below hB); have C_5 := hid (C_4.out.below hB); have HB_5 := hid (Below.steps HB_4.out hB); have PA_5 := hid (hX); clear hB hX HB_4 X_4 Y_4 C_4; clear C_5; go_wp2_with fail
 refine (small_any8 1 _ (by omega)).mono ?_
 rintro e w6 ⟨vso, vsn, vsc, rfl, hX, hB⟩
 obtain rfl : vsn = 1 := hX.len.symm.trans (by decide +kernel)
 have X_6 := hid (X_5.out.below hB); have Y_6 := hid (Y_5.out.below hB); have PA_6 := hid (PA_5.out.below hB); have HB_6 := hid (Below.steps HB_5.out hB); have S_6 := hid (hX); clear hB hX HB_5 X_5 Y_5 PA_5; go_wp2_with fail
 refine (add_any8 (Y_6.out.mono (show 2 ≤ 3 by omega)) S_6.out ky_fall (fall_mays (smallT_fall 1)) (by omega) (by omega)).mono ?_
 rintro e w7 ⟨veo, ven, vec, rfl, hX, hB⟩; rw [k15_E] at hX
 obtain rfl : ven = 2 := hX.len.symm.trans (by decide +kernel)
 have X_7 := hid (X_6.out.below hB); have Y_7 := hid (Y_6.out.below hB); have PA_7 := hid (PA_6.out.below hB); have S_7 := hid (S_6.out.below hB); have HB_7 := hid (Below.steps HB_6.out hB); have E_7 := hid (hX); clear hB hX HB_6 X_6 Y_6 PA_6 S_6; clear S_7; go_wp2_with fail
 refine (poly_any8 E_7.out (by omega) (by omega)).mono ?_
 rintro e w8 ⟨vfo, vfn, vfc, rfl, hX, hB⟩
 obtain rfl : vfn = 2 := hX.len.symm.trans (by decide +kernel)
 have X_8 := hid (X_7.out.below hB); have Y_8 := hid (Y_7.out.below hB); have PA_8 := hid (PA_7.out.below hB); have E_8 := hid (E_7.out.below hB); have HB_8 := hid (Below.steps HB_7.out hB); have PB_8 := hid (hX); clear hB hX HB_7 X_7 Y_7 PA_7 E_7; clear E_8; go_wp2_with fail
 refine (poly_any8 X_8.out (by omega) (by omega)).mono ?_
 rintro e w9 ⟨vgo, vgn, vgc, rfl, hX, hB⟩
 obtain rfl : vgn = 1 := hX.len.symm.trans (by decide +kernel)
 have X_9 := hid (X_8.out.below hB); have Y_9 := hid (Y_8.out.below hB); have PA_9 := hid (PA_8.out.below hB); have PB_9 := hid (PB_8.out.below hB); have HB_9 := hid (Below.steps HB_8.out hB); have PX_9 := hid (hX); clear hB hX HB_8 X_8 Y_8 PA_8 PB_8; go_wp2_with fail
 refine (poly_any8 Y_9.out (by omega) (by omega)).mono ?_
 rintro e w10 ⟨vho, vhn, vhc, rfl, hX, hB⟩
 obtain rfl : vhn = 1 := hX.len.symm.trans (by decide +kernel)
 have X_10 := hid (X_9.out.below hB); have Y_10 := hid (Y_9.out.below hB); have PA_10 := hid (PA_9.out.below hB); have PB_10 := hid (PB_9.out.below hB); have PX_10 := hid (PX_9.out.below hB); have HB_10 := hid (Below.steps HB_9.out hB); have PY_10 := hid (hX); clear hB hX HB_9 X_9 Y_9 PA_9 PB_9 PX_9; go_wp2_with fail
 refine (rcompare_any (-1) PX_10.out.raw (fun t ht => Nat.le_trans (PX_10.out.lens t ht) (by omega)) PY_10.out.raw (fun t ht => Nat.le_trans (PY_10.out.lens t ht) (by omega)) (by rw [pln_raw kx_fall, pln_raw ky_fall]; decide +kernel)).mono ?_
 rintro e w11 ⟨rfl, hB⟩; have X_11 := hid (X_10.out.below hB); have Y_11 := hid (Y_10.out.below hB); have PA_11 := hid (PA_10.out.below hB); have PB_11 := hid (PB_10.out.below hB); have PX_11 := hid (PX_10.out.below hB); have PY_11 := hid (PY_10.out.below hB); have HB_11 := hid (Below.steps HB_10.out hB); clear hB  HB_10 X_10 Y_10 PA_10 PB_10 PX_10 PY_10; clear PX_11; clear PY_11; go_wp2_with fail
 refine (poly_any8 X_11.out (by omega) (by omega)).mono ?_
 rintro e w12 ⟨vio, vin, vic, rfl, hX, hB⟩
 obtain rfl : vin = 1 := hX.len.symm.trans (by decide +kernel)
 have X_12 := hid (X_11.out.below hB); have Y_12 := hid (Y_11.out.below hB); have PA_12 := hid (PA_11.out.below hB); have PB_12 := hid (PB_11.out.below hB); have HB_12 := hid (Below.steps HB_11.out hB); have PX_12 := hid (hX); clear hB hX HB_11 X_11 Y_11 PA_11 PB_11; go_wp2_with fail
 refine (poly_any8 Y_12.out (by omega) (by omega)).mono ?_
 rintro e w13 ⟨vjo, vjn, vjc, rfl, hX, hB⟩
 obtain rfl : vjn = 1 := hX.len.symm.trans (by decide +kernel)
 have X_13 := hid (X_12.out.below hB); have Y_13 := hid (Y_12.out.below hB); have PA_13 := hid (PA_12.out.below hB); have PB_13 := hid (PB_12.out.below hB); have PX_13 := hid (PX_12.out.below hB); have HB_13 := hid (Below.steps HB_12.out hB); have PY_13 := hid (hX); clear hB hX HB_12 X_12 Y_12 PA_12 PB_12 PX_12; clear X_13; clear Y_13; go_wp2_with fail
 refine (rreduced_any true PX_13.out.raw (fun t ht => Nat.le_trans (PX_13.out.lens t ht) (by omega)) (by omega) PY_13.out.raw (fun t ht => Nat.le_trans (PY_13.out.lens t ht) (by omega)) (by rw [pln_raw kx_fall, pln_raw ky_fall]; decide +kernel)).mono ?_
 rintro e w14 ⟨rfl, hB⟩; have PA_14 := hid (PA_13.out.below hB); have PB_14 := hid (PB_13.out.below hB); have PX_14 := hid (PX_13.out.below hB); have PY_14 := hid (PY_13.out.below hB); have HB_14 := hid (Below.steps HB_13.out hB); clear hB  HB_13 PA_13 PB_13 PX_13 PY_13; clear PX_14; clear PY_14; go_wp2_with fail
 refine (rcompare_any 1 PA_14.out.raw (fun t ht => Nat.le_trans (PA_14.out.lens t ht) (by omega)) PB_14.out.raw (fun t ht => Nat.le_trans (PB_14.out.lens t ht) (by omega)) (by rw [pln_raw k15C_fall, pln_raw k15E_fall]; decide +kernel)).mono ?_
 rintro e w15 ⟨rfl, hB⟩; have PA_15 := hid (PA_14.out.below hB); have PB_15 := hid (PB_14.out.below hB); have HB_15 := hid (Below.steps HB_14.out hB); clear hB  HB_14 PA_14 PB_14; go_wp2_with fail
 refine (rreduced_any false PA_15.out.raw (fun t ht => Nat.le_trans (PA_15.out.lens t ht) (by omega)) (by omega) PB_15.out.raw (fun t ht => Nat.le_trans (PB_15.out.lens t ht) (by omega)) (by rw [pln_raw k15C_fall, pln_raw k15E_fall]; decide +kernel)).mono ?_
 rintro e w16 ⟨rfl, hB⟩; have PA_16 := hid (PA_15.out.below hB); have PB_16 := hid (PB_15.out.below hB); have HB_16 := hid (Below.steps HB_15.out hB); clear hB  HB_15 PA_15 PB_15; clear PB_16; go_wp2_with fail
 refine (rof_any 2 2 PA_16.out.raw (fun t ht => Nat.le_trans (PA_16.out.lens t ht) (by omega)) (by rw [pln_raw k15C_fall]; decide +kernel) (by rw [pln_raw k15C_fall]; decide +kernel)).mono ?_
 rintro e w17 ⟨rfl, hB⟩; have PA_17 := hid (PA_16.out.below hB); have HB_17 := hid (Below.steps HB_16.out hB); clear hB  HB_16 PA_16; clear PA_17; go_wp2_with fail
 go_ret
 exact ⟨rfl, HB_17.out⟩
def Plx [Ol] (w : World) (ao : Option Addr) (n : Nat) (f : Nat → List Raw) : Prop := n ≤ 6000000000000 ∧ ∀ k, k < n → ∃ b off po pn pc, ao = some ⟨b, off, none⟩ ∧ b < w.heap.size ∧ (∀ V : World, Below w.heap.size w V → V.cell? ⟨b, off + k, none⟩ = some (.slice po pn pc)) ∧ Pr w po pn pc (f k)
theorem Plx.below [Ol] {w w' : World} {ao : Option Addr} {n : Nat} {f : Nat → List Raw} (h : Plx w ao n f) (hb : Below w.heap.size w w') : Plx w' ao n f :=
 ⟨h.1, fun k hk => by
  obtain ⟨b, off, po, pn, pc, h1, h2, h3, h4⟩ := h.2 k hk
  exact ⟨b, off, po, pn, pc, h1, Nat.lt_of_lt_of_le h2 hb.size, fun V hV => h3 V (Below.steps hb hV), h4.below hb⟩⟩
theorem Plr.plx [Ol] {w : World} {ao : Option Addr} {n cap : Nat} {ls : List (List Raw)} (h : Plr w ao n cap ls) : Plx w ao n (fun k => ls.getD k []) := ⟨by have := h.big; omega, fun _ hk => h.at hk⟩
theorem Plx.one [Ol] {w : World} {ao : Option Addr} {n cap : Nat} {ps : List Raw} (hp : Pr w ao n cap ps) (T : TypeId) : Plx (w.alloc (.cells #[.slice ao n cap] T)) (some ⟨w.heap.size, 0, none⟩) 1 (fun k => [ps].getD k []) := by
 have hb := below_alloc w (.cells #[.slice ao n cap] T); have hA := AtN.new w [.slice ao n cap] T
 refine ⟨by omega, fun k hk => ?_⟩
 obtain rfl : k = 0 := by omega
 exact ⟨_, _, _, _, _, rfl, hA.lt, fun V hV => (hA.below hV).cell 0, hp.below hb⟩
def Grt (n : Nat) (f : Nat → List Raw) : Prop := (∃ k, k < n ∧ greatR (f k) 12 = true) ∨ 8 < n
theorem great15_any [Ol] (r : Bool) {ao : Option Addr} {n cap : Nat} {f : Nat → List Raw} {w : World} (h : Plx w ao n f) (hr : r = true ↔ Grt n f) :
  Calls Tryz.prog 5 #[.slice ao n cap] w (RetB (.bool r) w) := by
 have hbig := h.1; have HP := hid h; have HR := hid hr; clear h hr
 go_enter Tryz.func5, Tryz.ntmps5
 go_wp2
 go_loopw [7] (fun i wr => ∃ k : Nat, i = .int .i64 k ∧ k ≤ n ∧ Hid (Below w.heap.size w wr ∧ ∀ j, j < k → greatR (f j) 12 = false)) (fun i _ => n - (intOf i).toNat)
 case atStart => exact ⟨0, rfl, Nat.zero_le _, Below.refl _ _, fun j h => by omega⟩
 case round =>
  obtain ⟨k, rfl, hk, HS⟩ := hrel
  by_cases hkn : k < n
  ·obtain ⟨b, off, po, pn, pc, hao, hb, hc, hp⟩ := (HP.out.below HS.out.1).2 k hkn
   subst hao; have c0 := hc wr (Below.refl _ _)
   have hki : (k : Int) < (n : Int) := by omega
   obtain ⟨q, hq⟩ : ∃ q, greatR (f k) 12 = q := ⟨_, rfl⟩; have HT := hid (And.intro hp hq); clear hc hp hq
   cases q with
   | true =>
    have HR2 : Hid (r = true) := HR.out.2 (.inl ⟨k, hkn, HT.out.2⟩)
    go_wp2_with fail; refine (great_any8 true 12 HT.out.1 HT.out.2).mono ?_
    rintro e w2 ⟨rfl, hB⟩; have HB2 := hid (Below.steps HS.out.1 hB); clear hB c0
    go_wp2
    go_ret
    have h := HR2.out; subst h
    exact ⟨rfl, HB2.out⟩
   | false =>
    go_wp2_with fail; refine (great_any8 false 12 HT.out.1 HT.out.2).mono ?_
    rintro e w2 ⟨rfl, hB⟩; have HB2 := hid (Below.steps HS.out.1 hB); clear hB c0
    go_wp2
    go_roundw
    case rel =>
     refine ⟨k + 1, by go_num, by omega, HB2.out, fun j hj => ?_⟩
     by_cases h : j < k
     ·exact HS.out.2 j h
     ·obtain rfl : j = k := by omega
      exact HT.out.2
    case measure => simp [intOf]; omega
  ·obtain rfl : k = n := by omega
   obtain ⟨z, hz⟩ : ∃ z, decide ((k : Int) > 8) = z := ⟨_, rfl⟩
   have HR2 : Hid (z = r) := by
    rw [Hid, ← hz]
    cases r with
    | true =>
     rcases HR.out.1 rfl with ⟨j, hj, h2⟩ | h
     ·rw [HS.out.2 j hj] at h2; cases h2
     ·exact decide_eq_true (by omega)
    | false => exact decide_eq_false fun h => nomatch HR.out.2 (.inr (by omega))
   go_wp2
   go_ret
   have h := HR2.out; subst h
   exact ⟨rfl, HS.out.1⟩
structure Small15 (ls : List (List Raw)) : Prop where
 len : ls.length ≤ 8
 ok : ∀ ps ∈ ls, greatR ps 12 = false
theorem Small15.lim {ls : List (List Raw)} (h : Small15 ls) : ∀ ps ∈ ls, ∀ t ∈ ps, t.1.2.length ≤ 20 := fun ps hp t ht => ((great_facts (h.ok ps hp)).2 t ht).1
theorem Small15.lim2 {ls : List (List Raw)} (h : Small15 ls) : ∀ ps ∈ ls, ∀ t ∈ ps, t.1.2.length ≤ 1000 := fun ps hp t ht => Nat.le_trans (h.lim ps hp t ht) (by omega)
theorem Small15.of {ls : List (List Raw)} {f : Nat → List Raw} (hf : ∀ k, k < ls.length → f k = ls.getD k []) (h : ¬ Grt ls.length f) : Small15 ls := by
 refine ⟨Nat.le_of_not_lt fun h2 => h (.inr h2), fun ps hp => ?_⟩
 obtain ⟨k, hk, rfl⟩ := List.mem_iff_getElem.1 hp
 cases hg : greatR ls[k] 12 with
 | false => rfl
 | true => exact absurd (.inl ⟨k, hk, by rw [hf k hk, getD_of [] hk]; exact hg⟩) h
theorem Small15.ngrt {ls : List (List Raw)} (hs : Small15 ls) {n : Nat} (hn : ls.length = n) : ¬ Grt n (fun k => ls.getD k []) := fun h => by
 rcases h with ⟨k, hk, h⟩ | h
 ·have hk2 : k < ls.length := by omega
  have h2 : greatR (ls.getD k []) 12 = true := h
  rw [getD_of [] hk2, hs.ok _ (List.getElem_mem _)] at h2
  cases h2
 ·have := hs.len
  omega
theorem Plr.falls [Ol] {w : World} {ao : Option Addr} {n cap : Nat} {ls : List (List Raw)} (h : Plr w ao n cap ls) : ∀ rs ∈ ls, fall (plnR rs) := fun rs hr => by
 obtain ⟨k, hk, rfl⟩ := List.mem_iff_getElem.1 hr
 obtain ⟨_, _, _, _, _, _, _, _, hp⟩ := h.at (k := k) (by rw [← h.len]; exact hk)
 rw [getD_of [] hk] at hp
 exact pln_fall hp.wfs
def NewPlz2 [Ol] (K : Nat) (w : World) (ls : List (List Term)) (e : Ending) (w' : World) : Prop := ∃ ao n cap, e = .returned (.slice ao n cap) ∧ ls.length = n ∧ Plz w.heap.size K w' ao n cap ls ∧ Below w.heap.size w w'
theorem plain15_any [Ol] {ao : Option Addr} {n cap : Nat} {ls : List (List Raw)} {w : World} (h : Plr w ao n cap ls) (hs : Small15 ls) :
  Calls Tryz.prog 10 #[.slice ao n cap] w (NewPlz2 32 w (ls.map plnR)) := by
 have HP := hid h; have HPL := hid h.len; have HS0 := hid hs
 have hn8 : n ≤ 8 := by rw [← h.len]; exact hs.len
 clear h hs
 go_enter Tryz.func10, Tryz.ntmps10
 go_wp2
 go_loopw [3, 7] (fun o i wr => ∃ (k : Nat) (ro : Option Addr) (rc : Nat), o = .slice ro k rc ∧ i = .int .i64 k ∧ k ≤ n ∧ Hid (Plz w.heap.size 32 wr ro k rc ((ls.take k).map plnR) ∧ Below w.heap.size w wr)) (fun _ i _ => n - (intOf i).toNat)
 case atStart => exact ⟨0, none, 0, rfl, rfl, Nat.zero_le _, by rw [List.take_zero]; exact Plz.nil _ _ _, Below.refl _ _⟩
 case round =>
  obtain ⟨k, ro, rc, rfl, rfl, hk, HS⟩ := hrel
  by_cases hkn : k < n
  ·obtain ⟨b, off, po, pn, pc, hao, hb, hc, hp⟩ := (HP.out.below HS.out.2).at hkn
   subst hao; have c0 := hc wr (Below.refl _ _)
   have hki : (k : Int) < (n : Int) := by omega
   have hkl : k < ls.length := by rw [HPL.out]; exact hkn
   obtain ⟨ps, hps⟩ : ∃ ps, ls.getD k [] = ps := ⟨_, rfl⟩; rw [hps] at hp
   have hgr := great_facts (HS0.out.ok ps (by rw [← hps]; exact getD_in [] hkl))
   have htk : (ls.take (k + 1)).map plnR = (ls.take k).map plnR ++ [plnR ps] := by
    rw [List.take_succ_eq_append_getElem hkl, List.map_append, ← getD_of [] hkl, hps]
    rfl
   have HTK := hid htk; have HCC := hid hc
   have hpn : pn ≤ 12 := by have h1 := hgr.1; rw [hp.len] at h1; omega
   obtain ⟨q, hq⟩ : ∃ q, mayR ps = q := ⟨_, rfl⟩
   have HT := hid (And.intro hp (And.intro (fun t ht => (hgr.2 t ht).1 : ∀ t ∈ ps, t.1.2.length ≤ 20) hq))
   clear hc hp hq hps hgr htk; go_wp2_with fail
   refine (may_any8 q HT.out.1 (fun t ht => Nat.le_trans (HT.out.2.1 t ht) (by omega)) HT.out.2.2).mono ?_
   rintro e w2 ⟨rfl, hB⟩
   have HS2 : Hid (Plz w.heap.size 32 w2 ro k rc ((ls.take k).map plnR) ∧ Below w.heap.size w w2) := ⟨HS.out.1.below hB, Below.steps HS.out.2 hB⟩
   have HT2 : Hid (Pr w2 po pn pc ps ∧ (∀ t ∈ ps, t.1.2.length ≤ 20) ∧ mayR ps = q) := ⟨HT.out.1.below hB, HT.out.2⟩
   have c1 := HCC.out w2 hB; clear hB HT HS c0 HCC
   cases q with
   | true =>
    have HPN := hid (HT2.out.1.pln HT2.out.2.1 HT2.out.2.2).1; have HFL := hid (pln_fall HT2.out.1.wfs); go_wp2_with fail
    refine (of_any8 HPN.out.inn (fall_mays HFL.out) (by omega) (by omega)).mono ?_
    rintro e w3 ⟨xo, xn, xc, rfl, hX, hB⟩; rw [ofT_fall HFL.out] at hX
    have HS3 : Hid (Plz w.heap.size 32 w3 ro k rc ((ls.take k).map plnR) ∧ Below w.heap.size w w3) := ⟨HS2.out.1.below hB, Below.steps HS2.out.2 hB⟩
    obtain ⟨v8, W8, hr8, hps⟩ := plz_push HS3.out.1 (hX.mono (show 20 + pn ≤ 32 by omega)) HS3.out.2.size (by omega) 36 29
    have HPU := hid hps; clear hps hX hB HS2 c1
    go_wp2_with (at_builtin; refine wpList_append_of rfl (.tmp 15) (.tmp 21) 29 29 rfl _ _ rfl rfl hr8 ?_)
    clear hr8; obtain ⟨ro8, rc8, rfl, hp1, hp2⟩ := HPU.out
    have HN : Hid (Plz w.heap.size 32 W8 ro8 (k + 1) rc8 ((ls.take (k + 1)).map plnR) ∧ Below w.heap.size w W8) := by rw [HTK.out]; exact ⟨hp1, HS3.out.2.grown hp2 HS3.out.2.size fun r e => (HS3.out.1.own r e).1⟩
    clear hp1 hp2 HPU HS3 HTK
    try go_wp2
    go_roundw
    case rel => exact ⟨k + 1, ro8, rc8, rfl, by go_num, by omega, HN.out⟩
    case measure => simp [intOf]; omega
   | false =>
    have hpl := pln_no HT2.out.2.2
    obtain ⟨v8, W8, hr8, hps⟩ := plz_push HS2.out.1 (Pz.zero 32 w2) HS2.out.2.size (by omega) 36 29
    rw [← hpl] at hps; have HPU := hid hps
    clear hps hpl c1
    go_wp2_with (at_builtin; refine wpList_append_of rfl (.tmp 23) (.tmp 24) 29 29 rfl _ _ rfl rfl hr8 ?_)
    clear hr8; obtain ⟨ro8, rc8, rfl, hp1, hp2⟩ := HPU.out
    have HN : Hid (Plz w.heap.size 32 W8 ro8 (k + 1) rc8 ((ls.take (k + 1)).map plnR) ∧ Below w.heap.size w W8) := by rw [HTK.out]; exact ⟨hp1, HS2.out.2.grown hp2 HS2.out.2.size fun r e => (HS2.out.1.own r e).1⟩
    clear hp1 hp2 HPU HS2 HTK
    try go_wp2
    go_roundw
    case rel => exact ⟨k + 1, ro8, rc8, rfl, by go_num, by omega, HN.out⟩
    case measure => simp [intOf]; omega
  ·obtain rfl : k = n := by omega
   have h := HS.out.1
   rw [List.take_of_length_le (by rw [HPL.out]; exact Nat.le_refl _)] at h
   have HR : Hid (NewPlz2 32 w (ls.map plnR) (.returned (.slice ro k rc)) wr) := ⟨_, _, _, rfl, by rw [List.length_map]; exact HPL.out, h, HS.out.2⟩
   clear h HS
   go_wp2
   go_ret
   exact HR.out
theorem hnd_of [Ol] {w : World} {ao : Option Addr} {n cap : Nat} (h : (∃ f, Plx w ao n f) ∧ (n ≤ 4398046511104 → ∃ ls, Plr w ao n cap ls)) : (∃ f, Plx w ao n f ∧ Grt n f) ∨ ∃ ls, Plr w ao n cap ls ∧ Small15 ls := by
 by_cases hb : n ≤ 4398046511104
 ·obtain ⟨ls, hP⟩ := h.2 hb
  by_cases h2 : Grt n (fun k => ls.getD k [])
  ·exact .inl ⟨_, hP.plx, h2⟩
  ·exact .inr ⟨ls, hP, Small15.of (fun _ _ => rfl) (by rw [hP.len]; exact h2)⟩
 ·obtain ⟨f, hX⟩ := h.1
  exact .inl ⟨f, hX, .inr (by omega)⟩
theorem small_great [Ol] {w : World} {ao : Option Addr} {n cap : Nat} {ls : List (List Raw)} (h : Plr w ao n cap ls) (hs : Small15 ls) : Calls Tryz.prog 5 #[.slice ao n cap] w (RetB (.bool false) w) :=
 great15_any false h.plx ⟨(fun h => by cases h), fun hg => absurd hg (hs.ngrt h.len)⟩
theorem Small15.lens {ls : List (List Raw)} (h : Small15 ls) : ∀ ps ∈ ls, ps.length ≤ 1000 := fun ps hp => by
 have := (great_facts (h.ok ps hp)).1
 omega
theorem srt_falls [Ol] {w : World} {ao : Option Addr} {n cap : Nat} {ls : List (List Raw)} (h : Plr w ao n cap ls) : ∀ p ∈ srtP (keepR ls), fall p := fun p hp => by
 have h1 := (isort_perm ltP (keepR ls)).mem_iff.1 hp
 unfold keepR at h1
 obtain ⟨rs, hr, rfl⟩ := List.mem_map.1 (List.mem_filter.1 h1).1
 exact h.falls rs hr
theorem srt_len (ls : List (List Raw)) : (srtP (keepR ls)).length ≤ ls.length := by
 unfold srtP
 rw [isort_len]
 unfold keepR
 exact Nat.le_trans (List.length_filter_le _ _) (by rw [List.length_map]; exact Nat.le_refl _)
end Go.Proofs.YtmmgipcacceakaaGreat

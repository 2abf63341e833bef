/- RkR, RkL -/
import Derived.Test.YtmmgipcacceakaaGreatGRk1
import Derived.Test.YtmmgipcacceakaaGreatVPz
set_option maxHeartbeats 40000000
set_option maxRecDepth 100000
namespace Go.Proofs.YtmmgipcacceakaaGreat
open Go.RowKit
section
variable {K B : Nat} {ao bo : Option Addr} {n cap m cb : Nat} {p q : List Term} {w : World}
end
open Lib (hid)
def k15B : List Term := [(1, [(2, 2)])]
def k15C : List Term := [(1, [(1, 1), (2, 2)])]
def k15E : List Term := [(1, [(2, 1)]), (1, [])]
theorem k15B_fall : fall k15B := fall_of_dec (by decide +kernel) (by decide +kernel)
theorem k15C_fall : fall k15C := fall_of_dec (by decide +kernel) (by decide +kernel)
theorem k15E_fall : fall k15E := fall_of_dec (by decide +kernel) (by decide +kernel)
theorem k15_B : (tryT ky ky).1 = k15B := by decide +kernel
theorem k15_C : (tryT kx k15B).1 = k15C := by decide +kernel
theorem k15_E : addT ky (smallT 1) = k15E := by decide +kernel
theorem known15_any [Ol] (w : World) : Calls Tryz.prog 6 #[] w (RetB (.bool true) w) := by
 have HB_0 := hid (Below.refl w.heap.size w)
 go_enter Tryz.func6, Tryz.ntmps6
 go_wp2_with fail
 refine (x_any8 1 _ (by unfold in64; omega)).mono ?_
 rintro e w1 ⟨vxo, vxn, vxc, rfl, hX, hB⟩; rw [← kx] at hX
 obtain rfl : vxn = 1 := hX.len.symm.trans (by decide +kernel)
 have HB_1 := hid (Below.steps HB_0.out hB); have X_1 := hid (hX); clear hB hX HB_0; go_wp2_with fail
 refine (x_any8 2 _ (by unfold in64; omega)).mono ?_
 rintro e w2 ⟨vyo, vyn, vyc, rfl, hX, hB⟩; rw [← ky] at hX
 obtain rfl : vyn = 1 := hX.len.symm.trans (by decide +kernel)
 have X_2 := hid (X_1.out.below hB); have HB_2 := hid (Below.steps HB_1.out hB); have Y_2 := hid (hX); clear hB hX HB_1 X_1; go_wp2_with fail
 refine (mul_any8 Y_2.out Y_2.out (fall_mays ky_fall) (fall_mays ky_fall) (by omega)).mono ?_
 rintro e w3 ⟨vbo, vbn, vbc, rfl, hX, hB⟩; rw [k15_B] at hX
 obtain rfl : vbn = 1 := hX.len.symm.trans (by decide +kernel)
 have X_3 := hid (X_2.out.below hB); have Y_3 := hid (Y_2.out.below hB); have HB_3 := hid (Below.steps HB_2.out hB); have B_3 := hid (hX); clear hB hX HB_2 X_2 Y_2; go_wp2_with fail
 refine (mul_any8 X_3.out B_3.out (fall_mays kx_fall) (fall_mays k15B_fall) (by omega)).mono ?_
 rintro e w4 ⟨vco, vcn, vcc, rfl, hX, hB⟩; rw [k15_C] at hX
 obtain rfl : vcn = 1 := hX.len.symm.trans (by decide +kernel)
 have X_4 := hid (X_3.out.below hB); have Y_4 := hid (Y_3.out.below hB); have B_4 := hid (B_3.out.below hB); have HB_4 := hid (Below.steps HB_3.out hB); have C_4 := hid (hX); clear hB hX HB_3 X_3 Y_3 B_3; clear B_4; go_wp2_with fail
 refine (poly_any8 C_4.out (by omega) (by omega)).mono ?_
 rintro e w5 ⟨vdo, vdn, vdc, rfl, hX, hB⟩
 obtain rfl : vdn = 1 := hX.len.symm.trans (by decide +kernel)
 have X_5 := hid (X_4.out.below hB); have Y_5 := hid (Y_4.out.below hB); have C_5 := hid (C_4.out.below hB); have HB_5 := hid (Below.steps HB_4.out hB); have PA_5 := hid (hX); clear hB hX HB_4 X_4 Y_4 C_4; clear C_5; go_wp2_with fail
 refine (small_any8 1 _ (by omega)).mono ?_
 rintro e w6 ⟨vso, vsn, vsc, rfl, hX, hB⟩
 obtain rfl : vsn = 1 := hX.len.symm.trans (by decide +kernel)
 have X_6 := hid (X_5.out.below hB); have Y_6 := hid (Y_5.out.below hB); have PA_6 := hid (PA_5.out.below hB); have HB_6 := hid (Below.steps HB_5.out hB); have S_6 := hid (hX); clear hB hX HB_5 X_5 Y_5 PA_5; go_wp2_with fail
 refine (add_any8 (Y_6.out.mono (show 2 ≤ 3 by omega)) S_6.out ky_fall (fall_mays (smallT_fall 1)) (by omega) (by omega)).mono ?_
 rintro e w7 ⟨veo, ven, vec, rfl, hX, hB⟩; rw [k15_E] at hX
 obtain rfl : ven = 2 := hX.len.symm.trans (by decide +kernel)
 have X_7 := hid (X_6.out.below hB); have Y_7 := hid (Y_6.out.below hB); have PA_7 := hid (PA_6.out.below hB); have S_7 := hid (S_6.out.below hB); have HB_7 := hid (Below.steps HB_6.out hB); have E_7 := hid (hX); clear hB hX HB_6 X_6 Y_6 PA_6 S_6; clear S_7; go_wp2_with fail
 refine (poly_any8 E_7.out (by omega) (by omega)).mono ?_
 rintro e w8 ⟨vfo, vfn, vfc, rfl, hX, hB⟩
 obtain rfl : vfn = 2 := hX.len.symm.trans (by decide +kernel)
 have X_8 := hid (X_7.out.below hB); have Y_8 := hid (Y_7.out.below hB); have PA_8 := hid (PA_7.out.below hB); have E_8 := hid (E_7.out.below hB); have HB_8 := hid (Below.steps HB_7.out hB); have PB_8 := hid (hX); clear hB hX HB_7 X_7 Y_7 PA_7 E_7; clear E_8; go_wp2_with fail
 refine (poly_any8 X_8.out (by omega) (by omega)).mono ?_
 rintro e w9 ⟨vgo, vgn, vgc, rfl, hX, hB⟩
 obtain rfl : vgn = 1 := hX.len.symm.trans (by decide +kernel)
 have X_9 := hid (X_8.out.below hB); have Y_9 := hid (Y_8.out.below hB); have PA_9 := hid (PA_8.out.below hB); have PB_9 := hid (PB_8.out.below hB); have HB_9 := hid (Below.steps HB_8.out hB); have PX_9 := hid (hX); clear hB hX HB_8 X_8 Y_8 PA_8 PB_8; go_wp2_with fail
 refine (poly_any8 Y_9.out (by omega) (by omega)).mono ?_
 rintro e w10 ⟨vho, vhn, vhc, rfl, hX, hB⟩
 obtain rfl : vhn = 1 := hX.len.symm.trans (by decide +kernel)
 have X_10 := hid (X_9.out.below hB); have Y_10 := hid (Y_9.out.below hB); have PA_10 := hid (PA_9.out.below hB); have PB_10 := hid (PB_9.out.below hB); have PX_10 := hid (PX_9.out.below hB); have HB_10 := hid (Below.steps HB_9.out hB); have PY_10 := hid (hX); clear hB hX HB_9 X_9 Y_9 PA_9 PB_9 PX_9; go_wp2_with fail
 refine (rcompare_any (-1) PX_10.out.raw (fun t ht => Nat.le_trans (PX_10.out.lens t ht) (by omega)) PY_10.out.raw (fun t ht => Nat.le_trans (PY_10.out.lens t ht) (by omega)) (by rw [pln_raw kx_fall, pln_raw ky_fall]; decide +kernel)).mono ?_
 rintro e w11 ⟨rfl, hB⟩; have X_11 := hid (X_10.out.below hB); have Y_11 := hid (Y_10.out.below hB); have PA_11 := hid (PA_10.out.below hB); have PB_11 := hid (PB_10.out.below hB); have PX_11 := hid (PX_10.out.below hB); have PY_11 := hid (PY_10.out.below hB); have HB_11 := hid (Below.steps HB_10.out hB); clear hB  HB_10 X_10 Y_10 PA_10 PB_10 PX_10 PY_10; clear PX_11; clear PY_11; go_wp2_with fail
 refine (poly_any8 X_11.out (by omega) (by omega)).mono ?_
 rintro e w12 ⟨vio, vin, vic, rfl, hX, hB⟩
 obtain rfl : vin = 1 := hX.len.symm.trans (by decide +kernel)
 have X_12 := hid (X_11.out.below hB); have Y_12 := hid (Y_11.out.below hB); have PA_12 := hid (PA_11.out.below hB); have PB_12 := hid (PB_11.out.below hB); have HB_12 := hid (Below.steps HB_11.out hB); have PX_12 := hid (hX); clear hB hX HB_11 X_11 Y_11 PA_11 PB_11; go_wp2_with fail
 refine (poly_any8 Y_12.out (by omega) (by omega)).mono ?_
 rintro e w13 ⟨vjo, vjn, vjc, rfl, hX, hB⟩
 obtain rfl : vjn = 1 := hX.len.symm.trans (by decide +kernel)
 have X_13 := hid (X_12.out.below hB); have Y_13 := hid (Y_12.out.below hB); have PA_13 := hid (PA_12.out.below hB); have PB_13 := hid (PB_12.out.below hB); have PX_13 := hid (PX_12.out.below hB); have HB_13 := hid (Below.steps HB_12.out hB); have PY_13 := hid (hX); clear hB hX HB_12 X_12 Y_12 PA_12 PB_12 PX_12; clear X_13; clear Y_13; go_wp2_with fail
 refine (rreduced_any true PX_13.out.raw (fun t ht => Nat.le_trans (PX_13.out.lens t ht) (by omega)) (by omega) PY_13.out.raw (fun t ht => Nat.le_trans (PY_13.out.lens t ht) (by omega)) (by rw [pln_raw kx_fall, pln_raw ky_fall]; decide +kernel)).mono ?_
 rintro e w14 ⟨rfl, hB⟩; have PA_14 := hid (PA_13.out.below hB); have PB_14 := hid (PB_13.out.below hB); have PX_14 := hid (PX_13.out.below hB); have PY_14 := hid (PY_13.out.below hB); have HB_14 := hid (Below.steps HB_13.out hB); clear hB  HB_13 PA_13 PB_13 PX_13 PY_13; clear PX_14; clear PY_14; go_wp2_with fail
 refine (rcompare_any 1 PA_14.out.raw (fun t ht => Nat.le_trans (PA_14.out.lens t ht) (by omega)) PB_14.out.raw (fun t ht => Nat.le_trans (PB_14.out.lens t ht) (by omega)) (by rw [pln_raw k15C_fall, pln_raw k15E_fall]; decide +kernel)).mono ?_
 rintro e w15 ⟨rfl, hB⟩; have PA_15 := hid (PA_14.out.below hB); have PB_15 := hid (PB_14.out.below hB); have HB_15 := hid (Below.steps HB_14.out hB); clear hB  HB_14 PA_14 PB_14; go_wp2_with fail
 refine (rreduced_any false PA_15.out.raw (fun t ht => Nat.le_trans (PA_15.out.lens t ht) (by omega)) (by omega) PB_15.out.raw (fun t ht => Nat.le_trans (PB_15.out.lens t ht) (by omega)) (by rw [pln_raw k15C_fall, pln_raw k15E_fall]; decide +kernel)).mono ?_
 rintro e w16 ⟨rfl, hB⟩; have PA_16 := hid (PA_15.out.below hB); have PB_16 := hid (PB_15.out.below hB); have HB_16 := hid (Below.steps HB_15.out hB); clear hB  HB_15 PA_15 PB_15; clear PB_16; go_wp2_with fail
 refine (rof_any 2 2 PA_16.out.raw (fun t ht => Nat.le_trans (PA_16.out.lens t ht) (by omega)) (by rw [pln_raw k15C_fall]; decide +kernel) (by rw [pln_raw k15C_fall]; decide +kernel)).mono ?_
 rintro e w17 ⟨rfl, hB⟩; have PA_17 := hid (PA_16.out.below hB); have HB_17 := hid (Below.steps HB_16.out hB); clear hB  HB_16 PA_16; clear PA_17; go_wp2_with fail
 go_ret
 exact ⟨rfl, HB_17.out⟩
def Plx [Ol] (w : World) (ao : Option Addr) (n : Nat) (f : Nat → List Raw) : Prop := n ≤ 6000000000000 ∧ ∀ k, k < n → ∃ b off po pn pc, ao = some ⟨b, off, none⟩ ∧ b < w.heap.size ∧ (∀ V : World, Below w.heap.size w V → V.cell? ⟨b, off + k, none⟩ = some (.slice po pn pc)) ∧ Pr w po pn pc (f k)
theorem Plx.below [Ol] {w w' : World} {ao : Option Addr} {n : Nat} {f : Nat → List Raw} (h : Plx w ao n f) (hb : Below w.heap.size w w') : Plx w' ao n f :=
 ⟨h.1, fun k hk => by
  obtain ⟨b, off, po, pn, pc, h1, h2, h3, h4⟩ := h.2 k hk
  exact ⟨b, off, po, pn, pc, h1, Nat.lt_of_lt_of_le h2 hb.size, fun V hV => h3 V (Below.steps hb hV), h4.below hb⟩⟩
theorem Plx.two [Ol] {w : World} {ao bo : Option Addr} {n cap m cb : Nat} {ps qs : List Raw} (hp : Pr w ao n cap ps) (hq : Pr w bo m cb qs) (T : TypeId) : Plx (w.alloc (.cells #[.slice ao n cap, .slice bo m cb] T)) (some ⟨w.heap.size, 0, none⟩) 2 (fun k => [ps, qs].getD k []) := by
 have hb := below_alloc w (.cells #[.slice ao n cap, .slice bo m cb] T); have hA := AtN.new w [.slice ao n cap, .slice bo m cb] T
 refine ⟨by omega, fun k hk => ?_⟩
 obtain h | h : k = 0 ∨ k = 1 := by omega
 ·subst h; exact ⟨_, _, _, _, _, rfl, hA.lt, fun V hV => (hA.below hV).cell 0, hp.below hb⟩
 ·subst h; exact ⟨_, _, _, _, _, rfl, hA.lt, fun V hV => (hA.below hV).cell 1, hq.below hb⟩
theorem Plx.one [Ol] {w : World} {ao : Option Addr} {n cap : Nat} {ps : List Raw} (hp : Pr w ao n cap ps) (T : TypeId) : Plx (w.alloc (.cells #[.slice ao n cap] T)) (some ⟨w.heap.size, 0, none⟩) 1 (fun k => [ps].getD k []) := by
 have hb := below_alloc w (.cells #[.slice ao n cap] T); have hA := AtN.new w [.slice ao n cap] T
 refine ⟨by omega, fun k hk => ?_⟩
 obtain rfl : k = 0 := by omega
 exact ⟨_, _, _, _, _, rfl, hA.lt, fun V hV => (hA.below hV).cell 0, hp.below hb⟩
def Grt (n : Nat) (f : Nat → List Raw) : Prop := (∃ k, k < n ∧ greatR (f k) 12 = true) ∨ 8 < n
theorem great15_any [Ol] (r : Bool) {ao : Option Addr} {n cap : Nat} {f : Nat → List Raw} {w : World} (h : Plx w ao n f) (hr : r = true ↔ Grt n f) :
  Calls Tryz.prog 5 #[.slice ao n cap] w (RetB (.bool r) w) := by
 have hbig := h.1; have HP := hid h; have HR := hid hr; clear h hr
 go_enter Tryz.func5, Tryz.ntmps5
 go_wp2
 go_loopw [7] (fun i wr => ∃ k : Nat, i = .int .i64 k ∧ k ≤ n ∧ Hid (Below w.heap.size w wr ∧ ∀ j, j < k → greatR (f j) 12 = false)) (fun i _ => n - (intOf i).toNat)
 case atStart => exact ⟨0, rfl, Nat.zero_le _, Below.refl _ _, fun j h => by omega⟩
 case round =>
  obtain ⟨k, rfl, hk, HS⟩ := hrel
  by_cases hkn : k < n
  ·obtain ⟨b, off, po, pn, pc, hao, hb, hc, hp⟩ := (HP.out.below HS.out.1).2 k hkn
   subst hao; have c0 := hc wr (Below.refl _ _)
   have hki : (k : Int) < (n : Int) := by omega
   obtain ⟨q, hq⟩ : ∃ q, greatR (f k) 12 = q := ⟨_, rfl⟩; have HT := hid (And.intro hp hq); clear hc hp hq
   cases q with
   | true =>
    have HR2 : Hid (r = true) := HR.out.2 (.inl ⟨k, hkn, HT.out.2⟩)
    go_wp2_with fail; refine (great_any8 true 12 HT.out.1 HT.out.2).mono ?_
    rintro e w2 ⟨rfl, hB⟩; have HB2 := hid (Below.steps HS.out.1 hB); clear hB c0
    go_wp2
    go_ret
    have h := HR2.out; subst h
    exact ⟨rfl, HB2.out⟩
   | false =>
    go_wp2_with fail; refine (great_any8 false 12 HT.out.1 HT.out.2).mono ?_
    rintro e w2 ⟨rfl, hB⟩; have HB2 := hid (Below.steps HS.out.1 hB); clear hB c0
    go_wp2
    go_roundw
    case rel =>
     refine ⟨k + 1, by go_num, by omega, HB2.out, fun j hj => ?_⟩
     by_cases h : j < k
     ·exact HS.out.2 j h
     ·obtain rfl : j = k := by omega
      exact HT.out.2
    case measure => simp [intOf]; omega
  ·obtain rfl : k = n := by omega
   obtain ⟨z, hz⟩ : ∃ z, decide ((k : Int) > 8) = z := ⟨_, rfl⟩
   have HR2 : Hid (z = r) := by
    rw [Hid, ← hz]
    cases r with
    | true =>
     rcases HR.out.1 rfl with ⟨j, hj, h2⟩ | h
     ·rw [HS.out.2 j hj] at h2; cases h2
     ·exact decide_eq_true (by omega)
    | false => exact decide_eq_false fun h => nomatch HR.out.2 (.inr (by omega))
   go_wp2
   go_ret
   have h := HR2.out; subst h
   exact ⟨rfl, HS.out.1⟩
structure Small15 (ls : List (List Raw)) : Prop where
 len : ls.length ≤ 8
 ok : ∀ ps ∈ ls, greatR ps 12 = false
theorem Small15.lim {ls : List (List Raw)} (h : Small15 ls) : ∀ ps ∈ ls, ∀ t ∈ ps, t.1.2.length ≤ 20 := fun ps hp t ht => ((great_facts (h.ok ps hp)).2 t ht).1
theorem Small15.lim2 {ls : List (List Raw)} (h : Small15 ls) : ∀ ps ∈ ls, ∀ t ∈ ps, t.1.2.length ≤ 1000 := fun ps hp t ht => Nat.le_trans (h.lim ps hp t ht) (by omega)
theorem Small15.of {ls : List (List Raw)} {f : Nat → List Raw} (hf : ∀ k, k < ls.length → f k = ls.getD k []) (h : ¬ Grt ls.length f) : Small15 ls := by
 refine ⟨Nat.le_of_not_lt fun h2 => h (.inr h2), fun ps hp => ?_⟩
 obtain ⟨k, hk, rfl⟩ := List.mem_iff_getElem.1 hp
 cases hg : greatR ls[k] 12 with
 | false => rfl
 | true => exact absurd (.inl ⟨k, hk, by rw [hf k hk, getD_of [] hk]; exact hg⟩) h
theorem Plr.two [Ol] {w : World} {ao bo : Option Addr} {n cap m cb : Nat} {ps qs : List Raw} (hp : Pr w ao n cap ps) (hq : Pr w bo m cb qs) (T : TypeId) : Plr (w.alloc (.cells #[.slice ao n cap, .slice bo m cb] T)) (some ⟨w.heap.size, 0, none⟩) 2 2 [ps, qs] := by
 have hb := below_alloc w (.cells #[.slice ao n cap, .slice bo m cb] T); have hA := AtN.new w [.slice ao n cap, .slice bo m cb] T
 refine ⟨[[.slice ao n cap], [.slice bo m cb]], Gl.of_cells rfl (by omega) (by omega) (fun vs h => ?_) (fun _ => hA.lt) (fun _ => .inr (.inl (hA.cleanB fun u hu => ?_))) fun t ht j hj => ?_, ⟨_, _, _, rfl, hp.below hb⟩, ⟨_, _, _, rfl, hq.below hb⟩, trivial⟩
 ·simp at h; rcases h with rfl | rfl <;> exact ⟨rfl, fun v hv => by simp at hv; subst hv; rfl⟩
 ·simp at hu; rcases hu with rfl | rfl <;> rfl
 ·obtain rfl : j = 0 := by omega
  obtain h | h : t = 0 ∨ t = 1 := by omega
  ·subst h; exact hA.cell 0
  ·subst h; exact hA.cell 1
end Go.Proofs.YtmmgipcacceakaaGreat

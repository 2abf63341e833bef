/- MRDeg, MROver, MRCom, MRCmp, MRWo, MLaw -/
import Derived.Test.YtdgpnfjohijpeaaGreatGM2
set_option maxHeartbeats 40000000
set_option maxRecDepth 100000
namespace Go.Proofs.YtdgpnfjohijpeaaGreat
open Go.RowKit
theorem run_index201 (A : Array Value) (k : Nat) (z : Int) (hk : k < 201) (hg : A[k]? = some (.int .i64 z)) (w : World) : (Instr.index 104 (.agg A) (.int .i64 (k : Int))).run Tryz.prog w = .ok (.int .i64 z) w := by
 have h1 : ∃ i, Tryz.prog.info? 3 = some i ∧ i.size = 1 := by
  obtain ⟨i, hi, h⟩ := Option.map_eq_some_iff.1 (show (Tryz.prog.info? 3).map (·.size) = some 1 by kernel_rfl)
  exact ⟨i, hi, h⟩
 obtain ⟨i, hi, hs⟩ := h1
 have h2 : (0 : Int) ≤ k ∧ (k : Int) < (201 : Nat) := by omega
 simp [Instr.index, asIntOf, run_underlying Tryz.underlying104, sizeOf, typeInfo, hi, hs, hg, part, h2, hk]
theorem degree7_any {ao : Option Addr} {n cap : Nat} {ps : List (Int × Int)} {w : World} (h : Ml w ao n cap ps) (v z : Int) (hz : exE ps v = z) :
  Calls Tryz.prog 86 #[.slice ao n cap, .int .i64 v] w (RetB (.int .i64 z) w) := by
 by_cases g1 : v < 1
 ·have e : z = 0 := by rw [← hz]; exact may_out (orM_may _) (.inl g1)
  subst e; clear hz
  have d1 : decide (v < 1) = true := decide_eq_true g1
  clear g1
  go_enter Tryz.func86, Tryz.ntmps86
  go_wp2
  go_ret
  exact ⟨rfl, Below.refl _ _⟩
 ·have d1 : decide (v < 1) = false := decide_eq_false g1
  by_cases g2 : 200 < v
  ·have e : z = 0 := by rw [← hz]; exact may_out (orM_may _) (.inr g2)
   subst e; clear hz
   have d2 : decide (200 < v) = true := decide_eq_true g2
   clear g1 g2
   go_enter Tryz.func86, Tryz.ntmps86
   go_wp2
   go_ret
   exact ⟨rfl, Below.refl _ _⟩
  ·have d2 : decide (200 < v) = false := decide_eq_false g2
   obtain ⟨k, rfl⟩ : ∃ k : Nat, v = (k : Int) := ⟨v.toNat, by omega⟩
   have hk : k < 201 := by omega
   have hk2 : (k : Int) < 201 := by omega
   have hk3 : (0 : Int) ≤ k := by omega
   have HA := Lib.hid h
   have hg : (rowL (exE ps)).toArray[k]? = some (.int .i64 z) := by rw [List.getElem?_toArray, rowL_get _ _ hk, hz]
   have hs : (rowL (exE ps)).toArray.size = 201 := by simp [rowL_length]
   clear h hz g1 g2
   go_enter Tryz.func86, Tryz.ntmps86
   go_wp2_with fail; refine (exps_any HA.out).mono ?_
   rintro e w1 ⟨rfl, hB⟩; have HB1 := Lib.hid hB; clear hB HA; obtain ⟨A, hA⟩ : ∃ A, A = (rowL (exE ps)).toArray := ⟨_, rfl⟩; rw [← hA] at hg hs ⊢; clear hA; have hx := run_index201 A k z hk hg; clear hg hs; go_wp2_with fail
   go_ret
   exact ⟨rfl, HB1.out⟩
open Lib (hid)
theorem compare7_any {a0 b0 : Option Addr} {la ca lc cc : Nat} {xs ys : List (Int × Int)} {w : World} (ha : Ml w a0 la ca xs) (hb : Ml w b0 lc cc ys) (z : Int) (hz : IsCmp z (exE xs) (exE ys)) :
  Calls Tryz.prog 33 #[.slice a0 la ca, .slice b0 lc cc] w (RetB (.int .i64 z) w) := by
 have zr := zero_row; have HZ := hid hz; have HA := hid ha; have HBB := hid hb; have HB := hid (Below.refl w.heap.size w); clear ha hb hz
 go_enter Tryz.func33, Tryz.ntmps33
 go_wp2_with fail; refine (exps_any HA.out).mono ?_
 rintro e w1 ⟨rfl, hB⟩; have HB1 := hid (Below.steps HB.out hB); have HY1 := hid (HBB.out.below hB); clear hB HA HBB HB
 go_wp2_with (refine wpList_storeRow rfl (.tmp 5) (.tmp 9) rfl _ rfl _ _ rfl (Row.new w1 _) ?_)
 refine calls_world (fun W1 hW => ?_)
 have HX2 : Hid (Row W1 w1.heap.size (exE xs)) := by rw [hW]; exact (Row.new w1 _).put _
 have HB2 : Hid (Below w.heap.size w W1) := by rw [hW]; exact below_setRow (Below.steps HB1.out (below_alloc _ _)) HB1.out.size _
 have HY2 : Hid (Ml W1 b0 lc cc ys) := by rw [hW]; exact (HY1.out.below (below_setRow (below_alloc w1 _) (Nat.le_refl _) _))
 have hx2 := HB1.out.size; clear hW HB1 HY1; refine (exps_any HY2.out).mono ?_; rintro e w2 ⟨rfl, hB⟩; have HB3 := hid (Below.steps HB2.out hB); have HX3 := hid (HX2.out.below hB); clear hB HX2 HB2 HY2
 go_wp2_with (refine wpList_storeRow rfl (.tmp 6) (.tmp 11) rfl _ rfl _ _ rfl (Row.new w2 _) ?_)
 have hy2 := HB3.out.size; have hxy := HX3.out.lt
 refine wp_world (fun W2 hW => ?_)
 have HX4 : Hid (Row W2 w1.heap.size (exE xs)) := by rw [hW]; exact (HX3.out.below (below_alloc _ _)).putFar (by omega) _
 have HY4 : Hid (Row W2 w2.heap.size (exE ys)) := by rw [hW]; exact (Row.new w2 _).put _
 have HB4 : Hid (Below w.heap.size w W2) := by rw [hW]; exact below_setRow (Below.steps HB3.out (below_alloc _ _)) hy2 _
 obtain ⟨by', hby⟩ : ∃ b, b = w2.heap.size := ⟨_, rfl⟩
 rw [← hby] at HY4 hy2 hxy
 try rw [← hby]
 clear hW HX3 HB3 hby zr
 go_wp2
 go_loopw [7] (fun i wr => ∃ k : Nat, k ≤ 200 ∧ i = .int .i64 k ∧ Hid (∀ u : Int, (k : Int) < u → exE xs u = exE ys u) ∧ Hid (Row wr w1.heap.size (exE xs) ∧ Row wr by' (exE ys) ∧ Below w.heap.size w wr)) (fun i _ => (intOf i).toNat)
 case atStart => exact ⟨200, by omega, rfl, fun u hu => by unfold exE; rw [may_out (orM_may _) (by omega), may_out (orM_may _) (by omega)], HX4.out, HY4.out, HB4.out⟩
 case round =>
  clear HX4 HY4 HB4; obtain ⟨k, hk, rfl, HT, HS⟩ := hrel
  by_cases hk2 : 1 ≤ k
  ·have hk3 : (k : Int) ≤ 200 := by omega
   have hk4 : (k : Int) < 201 := by omega
   have hk5 : (0 : Int) ≤ k := by omega
   have hk6 : (1 : Int) ≤ k := by omega
   have c1 := HS.out.1.cell k (by omega)
   have c2 := HS.out.2.1.cell k (by omega)
   have HL : Hid (exE xs k < exE ys k → z = -1) := fun h => HZ.out.unique (.inr (.inl ⟨k, rfl, h, HT.out⟩))
   have HG : Hid (exE ys k < exE xs k → z = 1) := fun h => HZ.out.unique (.inr (.inr ⟨k, rfl, h, HT.out⟩))
   have HE : Hid (∀ u : Int, ((k - 1 : Nat) : Int) < u → exE xs k = exE ys k → exE xs u = exE ys u) := fun u hu h => by
    by_cases hu2 : u = (k : Int)
    ·subst hu2; exact h
    ·exact HT.out u (by omega)
   obtain ⟨p, hp⟩ : ∃ p, p = exE xs k := ⟨_, rfl⟩; obtain ⟨q, hq⟩ : ∃ q, q = exE ys k := ⟨_, rfl⟩; rw [← hp] at c1 HL HG HE; rw [← hq] at c2 HL HG HE; clear hp hq
   rcases Int.lt_trichotomy p q with g | g | g
   ·have g1 : decide (p < q) = true := decide_eq_true g
    have HM := hid (HL.out g); clear g HL HG HE
    go_wp2
    go_quiet (fail)
    go_wp2
    go_ret
    exact ⟨ret_int HM.out.symm, HS.out.2.2.trans (_root_.Go.below_drewN (Below.refl _ _) _)⟩
   ·subst g
    clear HL HG
    go_wp2
    go_quiet (fail)
    go_wp2
    go_quiet (fail)
    go_wp2
    go_roundw
    case rel => exact ⟨k - 1, by omega, by go_num, fun u hu => HE.out u hu (by simp), (HS.out.1.below (_root_.Go.below_drewN (Below.refl _ _) _)), (HS.out.2.1.below (_root_.Go.below_drewN (Below.refl _ _) _)), (HS.out.2.2.trans (_root_.Go.below_drewN (Below.refl _ _) _))⟩
    case measure => simp [intOf]; omega
   ·have g1 : decide (p < q) = false := decide_eq_false (by omega)
    have g2 : decide (q < p) = true := decide_eq_true g
    have HM := hid (HG.out g); clear g HL HG HE
    go_wp2
    go_quiet (fail)
    go_wp2
    go_quiet (fail)
    go_wp2
    go_ret
    exact ⟨ret_int HM.out.symm, (HS.out.2.2.trans (_root_.Go.below_drewN (_root_.Go.below_drewN (Below.refl _ _) _) _))⟩
  ·obtain rfl : k = 0 := by omega
   have HM : Hid (z = 0) := HZ.out.unique (.inl ⟨rfl, fun u => by
    by_cases hu : 0 < u
    ·exact HT.out u (by omega)
    ·unfold exE; rw [may_out (orM_may _) (by omega), may_out (orM_may _) (by omega)]⟩)
   go_wp2
   go_ret
   exact ⟨ret_int HM.out.symm, HS.out.2.2⟩
open Lib (hid)
theorem without7_in {ao : Option Addr} {n cap : Nat} {ps : List (Int × Int)} {w : World} (h : Ml w ao n cap ps) (v : Nat) (h1 : 1 ≤ v) (h2 : v ≤ 200) :
  Calls Tryz.prog 87 #[.slice ao n cap, .int .i64 v] w (NewM w (outM v (orM ps))) := by
 have zr := zero_row
 have hk3 : (v : Int) ≤ 200 := by omega
 have hk4 : (v : Int) < 201 := by omega
 have hk5 : (0 : Int) ≤ v := by omega
 have hk6 : (1 : Int) ≤ v := by omega
 obtain ⟨R, hR⟩ : ∃ R, R = outM v (orM ps) := ⟨_, rfl⟩; rw [← hR]
 have HQ : Hid (R = ofE (upd (exE ps) v 0)) := by
  rw [Hid, hR]
  refine (ofE_eq (outM_ris _ (may_ris (orM_may _))) (fun u _ _ => by rw [outM_expo]; rfl) (fun u _ _ => ?_)).symm
  have := (may_bd (orM_may ps) u).1
  unfold upd exE
  by_cases hu : u = (v : Int)
  ·rw [if_pos hu]; omega
  ·rw [if_neg hu]; exact this
 have HI : Hid (∀ u, 1 ≤ u → u ≤ 200 → in64 (upd (exE ps) v 0 u)) := fun u _ _ => by
  have := may_bd (orM_may ps) u
  unfold upd exE in64
  by_cases hu : u = (v : Int)
  ·rw [if_pos hu]; omega
  ·rw [if_neg hu]; omega
 have HA := hid h; clear h hR
 go_enter Tryz.func87, Tryz.ntmps87
 go_wp2_with fail; refine (exps_any HA.out).mono ?_
 rintro e w1 ⟨rfl, hB⟩; have HB1 := hid hB; clear hB HA
 go_upto_region 2 with (refine wpList_storeRow rfl (.tmp 5) (.tmp 7) rfl _ rfl _ _ rfl (Row.new w1 _) ?_)
 refine wp_world (fun W1 hW => ?_)
 have HX1 : Hid (Row W1 w1.heap.size (exE ps)) := by rw [hW]; exact (Row.new w1 _).put _
 have HB2 : Hid (Below w.heap.size w W1) := by rw [hW]; exact below_setRow (Below.steps HB1.out (below_alloc _ _)) HB1.out.size _
 have hx2 := HB1.out.size; clear hW HB1 zr
 have c1 := HX1.out.cell v (by omega)
 have f1 := HX1.out.fz v; obtain ⟨old, ho⟩ : ∃ o, o = exE ps v := ⟨_, rfl⟩; rw [← ho] at c1
 have H2 := hid (HX1.out.set v (by omega) 0)
 have HB3 := hid (HB2.out.setCell (p := ⟨w1.heap.size, v, none⟩) hx2 (.int .i64 0)); clear ho HX1 HB2
 go_wp2_with (refine wpList_loadRow rfl (.tmp 5) rfl _ rfl _ H2.out ?_)
 refine (of7_any _ HI.out _).mono ?_; rintro e w9 ⟨qo, m, cm, rfl, hM, hB⟩
 have HM := hid hM; have HB6 := hid (Below.steps HB3.out hB); clear hM hB HB3; go_wp2_with fail
 go_ret
 exact ⟨_, _, _, rfl, by rw [HQ.out]; exact HM.out, HB6.out⟩
theorem without7_out {ao : Option Addr} {n cap : Nat} {ps : List (Int × Int)} {w : World} (h : Ml w ao n cap ps) (v : Int) (hv : v < 1 ∨ 200 < v) :
  Calls Tryz.prog 87 #[.slice ao n cap, .int .i64 v] w (NewM w (outM v (orM ps))) := by
 have zr := zero_row; obtain ⟨R, hR⟩ : ∃ R, R = outM v (orM ps) := ⟨_, rfl⟩; rw [← hR]
 have HQ : Hid (R = ofE (exE ps)) := by
  rw [Hid, hR]
  refine (ofE_eq (outM_ris _ (may_ris (orM_may _))) (fun u _ _ => ?_) (fun u _ _ => (may_bd (orM_may ps) u).1)).symm
  rw [outM_expo, if_neg (by omega)]
  try rfl
 have HI : Hid (∀ u, 1 ≤ u → u ≤ 200 → in64 (exE ps u)) := fun u _ _ => by
  have := may_bd (orM_may ps) u
  unfold exE in64; omega
 have HA := hid h; clear h hR
 have g1 : decide (1 ≤ v) = true ∨ decide (1 ≤ v) = false := by cases decide (1 ≤ v) <;> simp
 rcases g1 with g1 | g1
 ·have g2 : decide (v ≤ 200) = false := decide_eq_false (by have := of_decide_eq_true g1; omega)
  clear hv
  go_enter Tryz.func87, Tryz.ntmps87
  go_wp2_with fail; refine (exps_any HA.out).mono ?_
  rintro e w1 ⟨rfl, hB⟩; have HB1 := hid hB; clear hB HA
  go_upto_region 2 with (refine wpList_storeRow rfl (.tmp 5) (.tmp 7) rfl _ rfl _ _ rfl (Row.new w1 _) ?_)
  refine wp_world (fun W1 hW => ?_)
  have HX1 : Hid (Row W1 w1.heap.size (exE ps)) := by rw [hW]; exact (Row.new w1 _).put _
  have HB2 : Hid (Below w.heap.size w W1) := by rw [hW]; exact below_setRow (Below.steps HB1.out (below_alloc _ _)) HB1.out.size _
  have hx2 := HB1.out.size; clear hW HB1 zr
  go_wp2_with (refine wpList_loadRow rfl (.tmp 5) rfl _ rfl _ HX1.out ?_)
  refine (of7_any _ HI.out _).mono ?_; rintro e w9 ⟨qo, m, cm, rfl, hM, hB⟩
  have HM := hid hM; have HB6 := hid (Below.steps HB2.out hB); clear hM hB HB2; go_wp2_with fail
  go_ret
  exact ⟨_, _, _, rfl, by rw [HQ.out]; exact HM.out, HB6.out⟩
 ·clear hv
  go_enter Tryz.func87, Tryz.ntmps87
  go_wp2_with fail; refine (exps_any HA.out).mono ?_
  rintro e w1 ⟨rfl, hB⟩; have HB1 := hid hB; clear hB HA
  go_upto_region 2 with (refine wpList_storeRow rfl (.tmp 5) (.tmp 7) rfl _ rfl _ _ rfl (Row.new w1 _) ?_)
  refine wp_world (fun W1 hW => ?_)
  have HX1 : Hid (Row W1 w1.heap.size (exE ps)) := by rw [hW]; exact (Row.new w1 _).put _
  have HB2 : Hid (Below w.heap.size w W1) := by rw [hW]; exact below_setRow (Below.steps HB1.out (below_alloc _ _)) HB1.out.size _
  have hx2 := HB1.out.size; clear hW HB1 zr
  go_wp2_with (refine wpList_loadRow rfl (.tmp 5) rfl _ rfl _ HX1.out ?_)
  refine (of7_any _ HI.out _).mono ?_; rintro e w9 ⟨qo, m, cm, rfl, hM, hB⟩
  have HM := hid hM; have HB6 := hid (Below.steps HB2.out hB); clear hM hB HB2; go_wp2_with fail
  go_ret
  exact ⟨_, _, _, rfl, by rw [HQ.out]; exact HM.out, HB6.out⟩
theorem without7_any {ao : Option Addr} {n cap : Nat} {ps : List (Int × Int)} {w : World} (h : Ml w ao n cap ps) (v : Int) :
  Calls Tryz.prog 87 #[.slice ao n cap, .int .i64 v] w (NewM w (outM v (orM ps))) := by
 by_cases hv : v < 1 ∨ 200 < v
 ·exact without7_out h v hv
 ·obtain ⟨k, rfl⟩ : ∃ k : Nat, v = (k : Int) := ⟨v.toNat, by omega⟩
  exact without7_in h k (by omega) (by omega)
def AllM (w : World) : List (Option Addr × Nat × Nat × List (Int × Int)) → Prop
 | [] => True
 | s :: r => Ml w s.1 s.2.1 s.2.2.1 s.2.2.2 ∧ AllM w r
theorem AllM.nil (w : World) : AllM w [] := trivial
theorem AllM.cons {w : World} {ao : Option Addr} {n cap : Nat} {xs : List (Int × Int)} {r : List (Option Addr × Nat × Nat × List (Int × Int))} (h : Ml w ao n cap xs) (hr : AllM w r) : AllM w ((ao, n, cap, xs) :: r) := ⟨h, hr⟩
theorem AllM.head {w : World} {ao : Option Addr} {n cap : Nat} {xs : List (Int × Int)} {r : List (Option Addr × Nat × Nat × List (Int × Int))} (h : AllM w ((ao, n, cap, xs) :: r)) : Ml w ao n cap xs := h.1
theorem AllM.tl {w : World} {s : Option Addr × Nat × Nat × List (Int × Int)} {r : List (Option Addr × Nat × Nat × List (Int × Int))} (h : AllM w (s :: r)) : AllM w r := h.2
theorem AllM.below {w w' : World} (hb : Below w.heap.size w w') : ∀ {r : List (Option Addr × Nat × Nat × List (Int × Int))}, AllM w r → AllM w' r
 | [], _ => trivial
 | _ :: _, h => ⟨h.1.below hb, AllM.below hb h.2⟩
theorem AllM.mk1 {w : World} {a0 : Option Addr} {l0 c0 : Nat} {xs : List (Int × Int)} (h0 : Ml w a0 l0 c0 xs) : AllM w [(a0, l0, c0, xs)] := .cons h0 (.nil w)
section
variable {a0 b0 : Option Addr} {la ca lc cc : Nat} {xs ys : List (Int × Int)} {w : World}
theorem times_is (qs : List (Int × Int)) (z : Int) (ha : Ml w a0 la ca xs) (hb : Ml w b0 lc cc ys) (h : joinR (fun x y => x + y) 8 xs ys = (qs, z)) :
  Calls Tryz.prog 62 #[.slice a0 la ca, .slice b0 lc cc] w (NewME w qs z) := by have := times_any ha hb; rw [h] at this; exact this
theorem compare_is (c z : Int) (ha : Ml w a0 la ca xs) (hb : Ml w b0 lc cc ys) (h : cmpR xs ys = (c, z)) :
  Calls Tryz.prog 89 #[.slice a0 la ca, .slice b0 lc cc] w (RetB (.tuple #[.int .i64 c, .int .i64 z]) w) := by have := compare_any ha hb; rw [h] at this; exact this
end
end Go.Proofs.YtdgpnfjohijpeaaGreat

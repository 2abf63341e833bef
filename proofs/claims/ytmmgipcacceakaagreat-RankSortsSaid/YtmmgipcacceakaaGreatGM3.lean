/- MRDeg, MROver, MRCom, MRCmp, MRWo, MLaw -/
import Derived.Test.YtmmgipcacceakaaGreatGM2
set_option maxHeartbeats 40000000
set_option maxRecDepth 100000
namespace Go.Proofs.YtmmgipcacceakaaGreat
open Go.RowKit
theorem run_index201 (A : Array Value) (k : Nat) (z : Int) (hk : k < 201) (hg : A[k]? = some (.int .i64 z)) (w : World) : (Instr.index 134 (.agg A) (.int .i64 (k : Int))).run Tryz.prog w = .ok (.int .i64 z) w := by
 have h1 : ∃ i, Tryz.prog.info? 3 = some i ∧ i.size = 1 := by
  obtain ⟨i, hi, h⟩ := Option.map_eq_some_iff.1 (show (Tryz.prog.info? 3).map (·.size) = some 1 by kernel_rfl)
  exact ⟨i, hi, h⟩
 obtain ⟨i, hi, hs⟩ := h1
 have h2 : (0 : Int) ≤ k ∧ (k : Int) < (201 : Nat) := by omega
 simp [Instr.index, asIntOf, run_underlying Tryz.underlying134, sizeOf, typeInfo, hi, hs, hg, part, h2, hk]
theorem degree7_any [Ol] {ao : Option Addr} {n cap : Nat} {ps : List (Int × Int)} {w : World} (h : Ml w ao n cap ps) (v z : Int) (hz : exE ps v = z) :
  Calls Tryz.prog 101 #[.slice ao n cap, .int .i64 v] w (RetB (.int .i64 z) w) := by
 by_cases g1 : v < 1
 ·have e : z = 0 := by rw [← hz]; exact may_out (orM_may _) (.inl g1)
  subst e; clear hz
  have d1 : decide (v < 1) = true := decide_eq_true g1
  clear g1
  go_enter Tryz.func101, Tryz.ntmps101
  go_wp2
  go_ret
  exact ⟨rfl, Below.refl _ _⟩
 ·have d1 : decide (v < 1) = false := decide_eq_false g1
  by_cases g2 : 200 < v
  ·have e : z = 0 := by rw [← hz]; exact may_out (orM_may _) (.inr g2)
   subst e; clear hz
   have d2 : decide (200 < v) = true := decide_eq_true g2
   clear g1 g2
   go_enter Tryz.func101, Tryz.ntmps101
   go_wp2
   go_ret
   exact ⟨rfl, Below.refl _ _⟩
  ·have d2 : decide (200 < v) = false := decide_eq_false g2
   obtain ⟨k, rfl⟩ : ∃ k : Nat, v = (k : Int) := ⟨v.toNat, by omega⟩
   have hk : k < 201 := by omega
   have hk2 : (k : Int) < 201 := by omega
   have hk3 : (0 : Int) ≤ k := by omega
   have HA := Lib.hid h
   have hg : (rowL (exE ps)).toArray[k]? = some (.int .i64 z) := by rw [List.getElem?_toArray, rowL_get _ _ hk, hz]
   have hs : (rowL (exE ps)).toArray.size = 201 := by simp [rowL_length]
   clear h hz g1 g2
   go_enter Tryz.func101, Tryz.ntmps101
   go_wp2_with fail; refine (exps_any HA.out).mono ?_
   rintro e w1 ⟨rfl, hB⟩; have HB1 := Lib.hid hB; clear hB HA; obtain ⟨A, hA⟩ : ∃ A, A = (rowL (exE ps)).toArray := ⟨_, rfl⟩; rw [← hA] at hg hs ⊢; clear hA; have hx := run_index201 A k z hk hg; clear hg hs; go_wp2_with fail
   go_ret
   exact ⟨rfl, HB1.out⟩
open Lib (hid)
theorem compare7_any [Ol] {a0 b0 : Option Addr} {la ca lc cc : Nat} {xs ys : List (Int × Int)} {w : World} (ha : Ml w a0 la ca xs) (hb : Ml w b0 lc cc ys) (z : Int) (hz : IsCmp z (exE xs) (exE ys)) :
  Calls Tryz.prog 70 #[.slice a0 la ca, .slice b0 lc cc] w (RetB (.int .i64 z) w) := by
 have zr := zero_row; have HZ := hid hz; have HA := hid ha; have HBB := hid hb; have HB := hid (Below.refl w.heap.size w); clear ha hb hz
 go_enter Tryz.func70, Tryz.ntmps70
 go_wp2_with fail; refine (exps_any HA.out).mono ?_
 rintro e w1 ⟨rfl, hB⟩; have HB1 := hid (Below.steps HB.out hB); have HY1 := hid (HBB.out.below hB); clear hB HA HBB HB
 go_wp2_with (refine wpList_storeRow rfl (.tmp 5) (.tmp 9) rfl _ rfl _ _ rfl (Row.new w1 _) ?_)
 refine calls_world (fun W1 hW => ?_)
 have HX2 : Hid (Row W1 w1.heap.size (exE xs)) := by rw [hW]; exact (Row.new w1 _).put _
 have HB2 : Hid (Below w.heap.size w W1) := by rw [hW]; exact below_setRow (Below.steps HB1.out (below_alloc _ _)) HB1.out.size _
 have HY2 : Hid (Ml W1 b0 lc cc ys) := by rw [hW]; exact (HY1.out.below (below_setRow (below_alloc w1 _) (Nat.le_refl _) _))
 have hx2 := HB1.out.size; clear hW HB1 HY1; refine (exps_any HY2.out).mono ?_; rintro e w2 ⟨rfl, hB⟩; have HB3 := hid (Below.steps HB2.out hB); have HX3 := hid (HX2.out.below hB); clear hB HX2 HB2 HY2
 go_wp2_with (refine wpList_storeRow rfl (.tmp 6) (.tmp 11) rfl _ rfl _ _ rfl (Row.new w2 _) ?_)
 have hy2 := HB3.out.size; have hxy := HX3.out.lt
 refine wp_world (fun W2 hW => ?_)
 have HX4 : Hid (Row W2 w1.heap.size (exE xs)) := by rw [hW]; exact (HX3.out.below (below_alloc _ _)).putFar (by omega) _
 have HY4 : Hid (Row W2 w2.heap.size (exE ys)) := by rw [hW]; exact (Row.new w2 _).put _
 have HB4 : Hid (Below w.heap.size w W2) := by rw [hW]; exact below_setRow (Below.steps HB3.out (below_alloc _ _)) hy2 _
 obtain ⟨by', hby⟩ : ∃ b, b = w2.heap.size := ⟨_, rfl⟩
 rw [← hby] at HY4 hy2 hxy
 try rw [← hby]
 clear hW HX3 HB3 hby zr
 go_wp2
 go_loopw [7] (fun i wr => ∃ k : Nat, k ≤ 200 ∧ i = .int .i64 k ∧ Hid (∀ u : Int, (k : Int) < u → exE xs u = exE ys u) ∧ Hid (Row wr w1.heap.size (exE xs) ∧ Row wr by' (exE ys) ∧ Below w.heap.size w wr)) (fun i _ => (intOf i).toNat)
 case atStart => exact ⟨200, by omega, rfl, fun u hu => by unfold exE; rw [may_out (orM_may _) (by omega), may_out (orM_may _) (by omega)], HX4.out, HY4.out, HB4.out⟩
 case round =>
  clear HX4 HY4 HB4; obtain ⟨k, hk, rfl, HT, HS⟩ := hrel
  by_cases hk2 : 1 ≤ k
  ·have hk3 : (k : Int) ≤ 200 := by omega
   have hk4 : (k : Int) < 201 := by omega
   have hk5 : (0 : Int) ≤ k := by omega
   have hk6 : (1 : Int) ≤ k := by omega
   have c1 := HS.out.1.cell k (by omega)
   have c2 := HS.out.2.1.cell k (by omega)
   have HL : Hid (exE xs k < exE ys k → z = -1) := fun h => HZ.out.unique (.inr (.inl ⟨k, rfl, h, HT.out⟩))
   have HG : Hid (exE ys k < exE xs k → z = 1) := fun h => HZ.out.unique (.inr (.inr ⟨k, rfl, h, HT.out⟩))
   have HE : Hid (∀ u : Int, ((k - 1 : Nat) : Int) < u → exE xs k = exE ys k → exE xs u = exE ys u) := fun u hu h => by
    by_cases hu2 : u = (k : Int)
    ·subst hu2; exact h
    ·exact HT.out u (by omega)
   obtain ⟨p, hp⟩ : ∃ p, p = exE xs k := ⟨_, rfl⟩; obtain ⟨q, hq⟩ : ∃ q, q = exE ys k := ⟨_, rfl⟩; rw [← hp] at c1 HL HG HE; rw [← hq] at c2 HL HG HE; clear hp hq
   rcases Int.lt_trichotomy p q with g | g | g
   ·have g1 : decide (p < q) = true := decide_eq_true g
    have HM := hid (HL.out g); clear g HL HG HE
    go_wp2
    go_quiet (fail)
    go_wp2
    go_ret
    exact ⟨ret_int HM.out.symm, HS.out.2.2.trans (_root_.Go.below_drewN (Below.refl _ _) _)⟩
   ·subst g
    clear HL HG
    go_wp2
    go_quiet (fail)
    go_wp2
    go_quiet (fail)
    go_wp2
    go_roundw
    case rel => exact ⟨k - 1, by omega, by go_num, fun u hu => HE.out u hu (by simp), (HS.out.1.below (_root_.Go.below_drewN (Below.refl _ _) _)), (HS.out.2.1.below (_root_.Go.below_drewN (Below.refl _ _) _)), (HS.out.2.2.trans (_root_.Go.below_drewN (Below.refl _ _) _))⟩
    case measure => simp [intOf]; omega
   ·have g1 : decide (p < q) = false := decide_eq_false (by omega)
    have g2 : decide (q < p) = true := decide_eq_true g
    have HM := hid (HG.out g); clear g HL HG HE
    go_wp2
    go_quiet (fail)
    go_wp2
    go_quiet (fail)
    go_wp2
    go_ret
    exact ⟨ret_int HM.out.symm, (HS.out.2.2.trans (_root_.Go.below_drewN (_root_.Go.below_drewN (Below.refl _ _) _) _))⟩
  ·obtain rfl : k = 0 := by omega
   have HM : Hid (z = 0) := HZ.out.unique (.inl ⟨rfl, fun u => by
    by_cases hu : 0 < u
    ·exact HT.out u (by omega)
    ·unfold exE; rw [may_out (orM_may _) (by omega), may_out (orM_may _) (by omega)]⟩)
   go_wp2
   go_ret
   exact ⟨ret_int HM.out.symm, HS.out.2.2⟩
theorem cls_spec : ∀ {ps : List (Int × Int)} {lo : Int}, risM lo ps → (ps = [] ∧ clsM ps = 0) ∨ (lo < clsM ps ∧ clsM ps ≤ 200 ∧ expo ps (clsM ps) ≠ 0 ∧ ∀ u, clsM ps < u → expo ps u = 0)
 | [], _, _ => .inl ⟨rfl, rfl⟩
 | p :: r, lo, h => by
  have h1 := h.1
  refine .inr ?_
  rcases cls_spec h.2.2.2 with ⟨hr, _⟩ | ⟨k1, k2, k3, k4⟩
  ·subst hr
   have e : clsM [p] = p.1 := rfl
   rw [e]
   refine ⟨h1, h.2.1, by simp [expo]; exact h.2.2.1, fun u hu => ?_⟩
   simp only [expo]
   rw [if_neg (by omega)]
  ·have hne : r ≠ [] := fun e => by rw [e] at k3; exact k3 rfl
   have e : clsM (p :: r) = clsM r := by simp only [clsM]; rw [if_neg hne]
   rw [e]
   refine ⟨by omega, k2, by simp only [expo]; rw [if_neg (by omega)]; exact k3, fun u hu => ?_⟩
   simp only [expo]
   rw [if_neg (by omega)]
   exact k4 u hu
theorem cls_is {ps : List (Int × Int)} (h : risM 0 ps) {k : Int} (h1 : expo ps k ≠ 0) (h2 : ∀ u, k < u → expo ps u = 0) : clsM ps = k := by
 rcases cls_spec h with ⟨rfl, _⟩ | ⟨k1, k2, k3, k4⟩
 ·exact absurd rfl h1
 ·rcases Int.lt_trichotomy (clsM ps) k with g | g | g
  ·exact absurd (k4 k g) h1
  ·exact g
  ·exact absurd (h2 _ g) k3
theorem cls_zero {ps : List (Int × Int)} (h : risM 0 ps) (h2 : ∀ u, expo ps u = 0) : clsM ps = 0 := by
 rcases cls_spec h with ⟨_, h3⟩ | ⟨_, _, k3, _⟩
 ·exact h3
 ·exact absurd (h2 _) k3
theorem class7_any [Ol] {ao : Option Addr} {n cap : Nat} {ps : List (Int × Int)} {w : World} (h : Ml w ao n cap ps) (z : Int) (hz : clsM (orM ps) = z) :
  Calls Tryz.prog 100 #[.slice ao n cap] w (RetB (.int .i64 z) w) := by
 have zr := zero_row; have HZ := hid hz; have HA := hid h; clear h hz
 go_enter Tryz.func100, Tryz.ntmps100
 go_wp2_with fail; refine (exps_any HA.out).mono ?_
 rintro e w1 ⟨rfl, hB⟩; have HB1 := hid hB; clear hB HA
 go_wp2_with (refine wpList_storeRow rfl (.tmp 3) (.tmp 6) rfl _ rfl _ _ rfl (Row.new w1 _) ?_)
 refine wp_world (fun W1 hW => ?_)
 have HX1 : Hid (Row W1 w1.heap.size (exE ps)) := by rw [hW]; exact (Row.new w1 _).put _
 have HB2 : Hid (Below w.heap.size w W1) := by rw [hW]; exact below_setRow (Below.steps HB1.out (below_alloc _ _)) HB1.out.size _
 have hx2 := HB1.out.size; clear hW HB1 zr
 go_wp2
 go_loopw [4] (fun i wr => ∃ k : Nat, k ≤ 200 ∧ i = .int .i64 k ∧ Hid (∀ u : Int, (k : Int) < u → exE ps u = 0) ∧ Hid (Row wr w1.heap.size (exE ps) ∧ Below w.heap.size w wr)) (fun i _ => (intOf i).toNat)
 case atStart => exact ⟨200, by omega, rfl, fun u hu => by unfold exE; rw [may_out (orM_may _) (by omega)], HX1.out, HB2.out⟩
 case round =>
  clear HX1 HB2; obtain ⟨k, hk, rfl, HT, HS⟩ := hrel
  by_cases hk2 : 1 ≤ k
  ·have hk3 : (k : Int) ≤ 200 := by omega
   have hk4 : (k : Int) < 201 := by omega
   have hk5 : (0 : Int) ≤ k := by omega
   have hk6 : (1 : Int) ≤ k := by omega
   have c1 := HS.out.1.cell k (by omega)
   have HL : Hid (0 < exE ps k → z = k) := fun h => by rw [← HZ.out]; exact cls_is (may_ris (orM_may _)) (by unfold exE at h; omega) HT.out
   have HE : Hid (∀ u : Int, ((k - 1 : Nat) : Int) < u → ¬ 0 < exE ps k → exE ps u = 0) := fun u hu h => by
    by_cases hu2 : u = (k : Int)
    ·subst hu2; have := (may_bd (orM_may ps) k).1; unfold exE at h ⊢; omega
    ·exact HT.out u (by omega)
   obtain ⟨p, hp⟩ : ∃ p, p = exE ps k := ⟨_, rfl⟩; rw [← hp] at c1 HL HE; clear hp
   by_cases g : 0 < p
   ·have g1 : decide (0 < p) = true := decide_eq_true g
    have HM := hid (HL.out g); clear g HL HE
    go_wp2
    go_ret
    exact ⟨ret_int HM.out.symm, HS.out.2⟩
   ·have g1 : decide (0 < p) = false := decide_eq_false g
    have HG := hid g; clear g HL
    go_wp2
    go_roundw
    case rel => exact ⟨k - 1, by omega, by go_num, fun u hu => HE.out u hu HG.out, HS.out⟩
    case measure => simp [intOf]; omega
  ·obtain rfl : k = 0 := by omega
   have HM : Hid (z = 0) := by
    rw [Hid, ← HZ.out]
    refine cls_zero (may_ris (orM_may _)) fun u => ?_
    by_cases hu : 0 < u
    ·exact HT.out u (by omega)
    ·exact may_out (orM_may _) (by omega)
   go_wp2
   go_ret
   exact ⟨ret_int HM.out.symm, HS.out.2⟩
def AllM [Ol] (w : World) : List (Option Addr × Nat × Nat × List (Int × Int)) → Prop
 | [] => True
 | s :: r => Ml w s.1 s.2.1 s.2.2.1 s.2.2.2 ∧ AllM w r
theorem AllM.nil [Ol] (w : World) : AllM w [] := trivial
theorem AllM.cons [Ol] {w : World} {ao : Option Addr} {n cap : Nat} {xs : List (Int × Int)} {r : List (Option Addr × Nat × Nat × List (Int × Int))} (h : Ml w ao n cap xs) (hr : AllM w r) : AllM w ((ao, n, cap, xs) :: r) := ⟨h, hr⟩
theorem AllM.head [Ol] {w : World} {ao : Option Addr} {n cap : Nat} {xs : List (Int × Int)} {r : List (Option Addr × Nat × Nat × List (Int × Int))} (h : AllM w ((ao, n, cap, xs) :: r)) : Ml w ao n cap xs := h.1
theorem AllM.tl [Ol] {w : World} {s : Option Addr × Nat × Nat × List (Int × Int)} {r : List (Option Addr × Nat × Nat × List (Int × Int))} (h : AllM w (s :: r)) : AllM w r := h.2
theorem AllM.below [Ol] {w w' : World} (hb : Below w.heap.size w w') : ∀ {r : List (Option Addr × Nat × Nat × List (Int × Int))}, AllM w r → AllM w' r
 | [], _ => trivial
 | _ :: _, h => ⟨h.1.below hb, AllM.below hb h.2⟩
theorem AllM.mk1 [Ol] {w : World} {a0 : Option Addr} {l0 c0 : Nat} {xs : List (Int × Int)} (h0 : Ml w a0 l0 c0 xs) : AllM w [(a0, l0, c0, xs)] := .cons h0 (.nil w)
section
variable {a0 b0 : Option Addr} {la ca lc cc : Nat} {xs ys : List (Int × Int)} {w : World}
theorem compare_is [Ol] (c z : Int) (ha : Ml w a0 la ca xs) (hb : Ml w b0 lc cc ys) (h : cmpR xs ys = (c, z)) :
  Calls Tryz.prog 85 #[.slice a0 la ca, .slice b0 lc cc] w (RetB (.tuple #[.int .i64 c, .int .i64 z]) w) := by have := compare_any ha hb; rw [h] at this; exact this
end
end Go.Proofs.YtmmgipcacceakaaGreat

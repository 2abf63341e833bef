/-
  The contracts of porismref07.Without and Degree.
-/
import Derived.Test.YtgalcdfleljliaaMRTimes
import Derived.Test.YtgalcdfleljliaaMDel
set_option maxRecDepth 8192
namespace Go.Proofs.Ytgalcdfleljliaa
open Go.RowKit

set_option maxHeartbeats 1000000 in
set_option maxRecDepth 100000 in
theorem without7_in {ao : Option Addr} {n cap : Nat} {ps : List (Int × Int)} {w : World} (h : Ml w ao n cap ps) (v : Nat) (h1 : 1 ≤ v) (h2 : v ≤ 200) :
    Calls Try.prog 29 #[.slice ao n cap, .int .i64 v] w (NewM w (outM v (orM ps))) := by
  have zr := zero_row
  have hk3 : (v : Int) ≤ 200 := by omega
  have hk4 : (v : Int) < 201 := by omega
  have hk5 : (0 : Int) ≤ v := by omega
  have hk6 : (1 : Int) ≤ v := by omega
  obtain ⟨R, hR⟩ : ∃ R, R = outM v (orM ps) := ⟨_, rfl⟩
  rw [← hR]
  have HQ : Hid (R = ofE (upd (exE ps) v 0)) := by
    rw [Hid, hR]
    refine (ofE_eq (outM_ris _ (may_ris (orM_may _))) (fun u _ _ => by rw [outM_expo]; rfl) (fun u _ _ => ?_)).symm
    have := (may_bd (orM_may ps) u).1
    unfold upd exE
    by_cases hu : u = (v : Int)
    · rw [if_pos hu]; omega
    · rw [if_neg hu]; exact this
  have HI : Hid (∀ u, 1 ≤ u → u ≤ 200 → in64 (upd (exE ps) v 0 u)) := fun u _ _ => by
    have := may_bd (orM_may ps) u
    unfold upd exE in64
    by_cases hu : u = (v : Int)
    · rw [if_pos hu]; omega
    · rw [if_neg hu]; omega
  have HA := Lib.hid h
  clear h hR
  go_enter Try.func29, Try.ntmps29
  go_wp2_with fail
  refine (exps_any HA.out).mono ?_
  rintro e w1 ⟨rfl, hB⟩
  have HB1 := Lib.hid hB
  clear hB HA
  go_upto_region 2 with (refine wpList_storeRow rfl (.tmp 5) (.tmp 7) rfl _ rfl _ _ rfl (Row.new w1 _) ?_)
  refine wp_world (fun W1 hW => ?_)
  have HX1 : Hid (Row W1 w1.heap.size (exE ps)) := by rw [hW]; exact (Row.new w1 _).put _
  have HB2 : Hid (Below w.heap.size w W1) := by rw [hW]; exact below_setRow (Below.steps HB1.out (below_alloc _ _)) HB1.out.size _
  have hx2 := HB1.out.size
  clear hW HB1 zr
  have c1 := HX1.out.cell v (by omega)
  have f1 := HX1.out.fz v
  obtain ⟨old, ho⟩ : ∃ o, o = exE ps v := ⟨_, rfl⟩
  rw [← ho] at c1
  have H2 := Lib.hid (HX1.out.set v (by omega) 0)
  have HB3 := Lib.hid (HB2.out.setCell (p := ⟨w1.heap.size, v, none⟩) hx2 (.int .i64 0))
  clear ho HX1 HB2
  go_wp2_with (refine wpList_loadRow rfl (.tmp 5) rfl _ rfl _ H2.out ?_)
  refine (of7_any _ HI.out _).mono ?_
  rintro e w9 ⟨qo, m, cm, rfl, hM, hB⟩
  have HM := Lib.hid hM
  have HB6 := Lib.hid (Below.steps HB3.out hB)
  clear hM hB HB3
  go_wp2_with fail
  go_ret
  exact ⟨_, _, _, rfl, by rw [HQ.out]; exact HM.out, HB6.out⟩
set_option maxHeartbeats 1000000 in
set_option maxRecDepth 100000 in
theorem without7_out {ao : Option Addr} {n cap : Nat} {ps : List (Int × Int)} {w : World} (h : Ml w ao n cap ps) (v : Int) (hv : v < 1 ∨ 200 < v) :
    Calls Try.prog 29 #[.slice ao n cap, .int .i64 v] w (NewM w (outM v (orM ps))) := by
  have zr := zero_row
  obtain ⟨R, hR⟩ : ∃ R, R = outM v (orM ps) := ⟨_, rfl⟩
  rw [← hR]
  have HQ : Hid (R = ofE (exE ps)) := by
    rw [Hid, hR]
    refine (ofE_eq (outM_ris _ (may_ris (orM_may _))) (fun u _ _ => ?_) (fun u _ _ => (may_bd (orM_may ps) u).1)).symm
    rw [outM_expo, if_neg (by omega)]
    try rfl
  have HI : Hid (∀ u, 1 ≤ u → u ≤ 200 → in64 (exE ps u)) := fun u _ _ => by
    have := may_bd (orM_may ps) u
    unfold exE in64; omega
  have HA := Lib.hid h
  clear h hR
  have g1 : decide (1 ≤ v) = true ∨ decide (1 ≤ v) = false := by cases decide (1 ≤ v) <;> simp
  rcases g1 with g1 | g1
  · have g2 : decide (v ≤ 200) = false := decide_eq_false (by have := of_decide_eq_true g1; omega)
    clear hv
    go_enter Try.func29, Try.ntmps29
    go_wp2_with fail
    refine (exps_any HA.out).mono ?_
    rintro e w1 ⟨rfl, hB⟩
    have HB1 := Lib.hid hB
    clear hB HA
    go_upto_region 2 with (refine wpList_storeRow rfl (.tmp 5) (.tmp 7) rfl _ rfl _ _ rfl (Row.new w1 _) ?_)
    refine wp_world (fun W1 hW => ?_)
    have HX1 : Hid (Row W1 w1.heap.size (exE ps)) := by rw [hW]; exact (Row.new w1 _).put _
    have HB2 : Hid (Below w.heap.size w W1) := by rw [hW]; exact below_setRow (Below.steps HB1.out (below_alloc _ _)) HB1.out.size _
    have hx2 := HB1.out.size
    clear hW HB1 zr
    go_wp2_with (refine wpList_loadRow rfl (.tmp 5) rfl _ rfl _ HX1.out ?_)
    refine (of7_any _ HI.out _).mono ?_
    rintro e w9 ⟨qo, m, cm, rfl, hM, hB⟩
    have HM := Lib.hid hM
    have HB6 := Lib.hid (Below.steps HB2.out hB)
    clear hM hB HB2
    go_wp2_with fail
    go_ret
    exact ⟨_, _, _, rfl, by rw [HQ.out]; exact HM.out, HB6.out⟩
  · clear hv
    go_enter Try.func29, Try.ntmps29
    go_wp2_with fail
    refine (exps_any HA.out).mono ?_
    rintro e w1 ⟨rfl, hB⟩
    have HB1 := Lib.hid hB
    clear hB HA
    go_upto_region 2 with (refine wpList_storeRow rfl (.tmp 5) (.tmp 7) rfl _ rfl _ _ rfl (Row.new w1 _) ?_)
    refine wp_world (fun W1 hW => ?_)
    have HX1 : Hid (Row W1 w1.heap.size (exE ps)) := by rw [hW]; exact (Row.new w1 _).put _
    have HB2 : Hid (Below w.heap.size w W1) := by rw [hW]; exact below_setRow (Below.steps HB1.out (below_alloc _ _)) HB1.out.size _
    have hx2 := HB1.out.size
    clear hW HB1 zr
    go_wp2_with (refine wpList_loadRow rfl (.tmp 5) rfl _ rfl _ HX1.out ?_)
    refine (of7_any _ HI.out _).mono ?_
    rintro e w9 ⟨qo, m, cm, rfl, hM, hB⟩
    have HM := Lib.hid hM
    have HB6 := Lib.hid (Below.steps HB2.out hB)
    clear hM hB HB2
    go_wp2_with fail
    go_ret
    exact ⟨_, _, _, rfl, by rw [HQ.out]; exact HM.out, HB6.out⟩
theorem without7_any {ao : Option Addr} {n cap : Nat} {ps : List (Int × Int)} {w : World} (h : Ml w ao n cap ps) (v : Int) :
    Calls Try.prog 29 #[.slice ao n cap, .int .i64 v] w (NewM w (outM v (orM ps))) := by
  by_cases hv : v < 1 ∨ 200 < v
  · exact without7_out h v hv
  · obtain ⟨k, rfl⟩ : ∃ k : Nat, v = (k : Int) := ⟨v.toNat, by omega⟩
    exact without7_in h k (by omega) (by omega)

end Go.Proofs.Ytgalcdfleljliaa

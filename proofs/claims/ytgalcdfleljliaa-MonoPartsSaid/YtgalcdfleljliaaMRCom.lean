/-
  The contracts of porismref07.Common and Least.
-/
import Derived.Test.YtgalcdfleljliaaMRTimes
import Derived.Test.YtgalcdfleljliaaMDel
set_option maxRecDepth 8192
namespace Go.Proofs.Ytgalcdfleljliaa
open Go.RowKit

set_option maxHeartbeats 1000000 in
set_option maxRecDepth 100000 in
theorem common7_any {a0 b0 : Option Addr} {la ca lc cc : Nat} {xs ys : List (Int × Int)} {w : World} (ha : Ml w a0 la ca xs) (hb : Ml w b0 lc cc ys) :
    Calls Try.prog 25 #[.slice a0 la ca, .slice b0 lc cc] w (NewM w (joinL (fun x y => min x y) (orM xs) (orM ys))) := by
  have zr := zero_row
  obtain ⟨R, hR⟩ : ∃ R, R = joinL (fun x y => min x y) (orM xs) (orM ys) := ⟨_, rfl⟩
  rw [← hR]
  have HR := Lib.hid hR
  have HA := Lib.hid ha
  have HBB := Lib.hid hb
  have HB := Lib.hid (Below.refl w.heap.size w)
  clear ha hb hR
  go_enter Try.func25, Try.ntmps25
  go_wp2_with fail
  refine (exps_any HA.out).mono ?_
  rintro e w1 ⟨rfl, hB⟩
  have HB1 := Lib.hid (Below.steps HB.out hB)
  have HY1 := Lib.hid (HBB.out.below hB)
  clear hB HA HBB HB
  go_wp2_with (refine wpList_storeRow rfl (.tmp 5) (.tmp 9) rfl _ rfl _ _ rfl (Row.new w1 _) ?_)
  refine calls_world (fun W1 hW => ?_)
  have HX2 : Hid (Row W1 w1.heap.size (exE xs)) := by rw [hW]; exact (Row.new w1 _).put _
  have HB2 : Hid (Below w.heap.size w W1) := by rw [hW]; exact below_setRow (Below.steps HB1.out (below_alloc _ _)) HB1.out.size _
  have HY2 : Hid (Ml W1 b0 lc cc ys) := by rw [hW]; exact (HY1.out.below (below_setRow (below_alloc w1 _) (Nat.le_refl _) _))
  have hx2 := HB1.out.size
  clear hW HB1 HY1
  refine (exps_any HY2.out).mono ?_
  rintro e w2 ⟨rfl, hB⟩
  have HB3 := Lib.hid (Below.steps HB2.out hB)
  have HX3 := Lib.hid (HX2.out.below hB)
  clear hB HX2 HB2 HY2
  go_wp2_with (refine wpList_storeRow rfl (.tmp 6) (.tmp 11) rfl _ rfl _ _ rfl (Row.new w2 _) ?_)
  have hy2 := HB3.out.size
  have hxy := HX3.out.lt
  refine wp_world (fun W2 hW => ?_)
  have HX4 : Hid (Row W2 w1.heap.size (exE xs)) := by rw [hW]; exact (HX3.out.below (below_alloc _ _)).putFar (by omega) _
  have HY4 : Hid (Row W2 w2.heap.size (exE ys)) := by rw [hW]; exact (Row.new w2 _).put _
  have HB4 : Hid (Below w.heap.size w W2) := by rw [hW]; exact below_setRow (Below.steps HB3.out (below_alloc _ _)) hy2 _
  obtain ⟨by', hby⟩ : ∃ b, b = w2.heap.size := ⟨_, rfl⟩
  rw [← hby] at HY4 hy2 hxy
  try rw [← hby]
  clear hW HX3 HB3 hby zr
  go_wp2
  go_loopw [7] (fun i wr => ∃ k : Nat, 1 ≤ k ∧ k ≤ 201 ∧ i = .int .i64 k ∧ Hid (Row wr w1.heap.size (fun u => if 1 ≤ u ∧ u < k then min (exE xs u) (exE ys u) else exE xs u) ∧ Row wr by' (exE ys) ∧ Below w.heap.size w wr)) (fun i _ => 201 - (intOf i).toNat)
  case atStart => exact ⟨1, by omega, by omega, rfl, HX4.out.congr (fun u _ _ => by rw [if_neg (by omega)]), HY4.out, HB4.out⟩
  case round =>
    clear HX4 HY4 HB4
    obtain ⟨k, h1, hk, rfl, HS⟩ := hrel
    by_cases hk2 : k ≤ 200
    · have hk3 : (k : Int) ≤ 200 := by omega
      have hk4 : (k : Int) < 201 := by omega
      have hk5 : (0 : Int) ≤ k := by omega
      have c1 := HS.out.1.cell k (by omega)
      have c2 := HS.out.2.1.cell k (by omega)
      have f1 := HS.out.1.fz k
      rw [if_neg (by omega)] at c1
      have HK : Hid (∀ (u x : Int), 0 ≤ u → u ≤ 200 → x = min (exE xs k) (exE ys k) → upd (fun u => if 1 ≤ u ∧ u < (k : Int) then min (exE xs u) (exE ys u) else exE xs u) k x u = (fun u => if 1 ≤ u ∧ u < ((k + 1 : Nat) : Int) then min (exE xs u) (exE ys u) else exE xs u) u) := by
        intro u x _ _ hx
        unfold upd
        by_cases hu : u = (k : Int)
        · subst hu; rw [if_pos rfl, hx]; show _ = if _ then _ else _; rw [if_pos ⟨by omega, by omega⟩]
        · rw [if_neg hu]
          show (if _ then _ else _) = if _ then _ else _
          by_cases hc : 1 ≤ u ∧ u < (k : Int)
          · rw [if_pos hc, if_pos ⟨hc.1, by omega⟩]
          · rw [if_neg hc, if_neg (fun hd => hc ⟨hd.1, by omega⟩)]
      have HK2 : Hid (∀ (u : Int), 0 ≤ u → u ≤ 200 → exE xs k = min (exE xs k) (exE ys k) → (fun u => if 1 ≤ u ∧ u < (k : Int) then min (exE xs u) (exE ys u) else exE xs u) u = (fun u => if 1 ≤ u ∧ u < ((k + 1 : Nat) : Int) then min (exE xs u) (exE ys u) else exE xs u) u) := by
        intro u _ _ hx
        show (if _ then _ else _) = if _ then _ else _
        by_cases hu : u = (k : Int)
        · subst hu; rw [if_neg (by omega), if_pos ⟨by omega, by omega⟩]; exact hx
        · by_cases hc : 1 ≤ u ∧ u < (k : Int)
          · rw [if_pos hc, if_pos ⟨hc.1, by omega⟩]
          · rw [if_neg hc, if_neg (fun hd => hc ⟨hd.1, by omega⟩)]
      obtain ⟨p, hp⟩ : ∃ p, p = exE xs k := ⟨_, rfl⟩
      obtain ⟨q, hq⟩ : ∃ q, q = exE ys k := ⟨_, rfl⟩
      rw [← hp] at c1 HK HK2
      rw [← hq] at c2 HK HK2
      clear hp hq hk2
      by_cases g : q < p
      · have g1 : decide (q < p) = true := decide_eq_true g
        have HM : Hid (q = min p q) := by show q = _; omega
        clear g
        go_wp2
        go_quiet (fail)
        go_wp2
        go_roundw
        case rel => exact ⟨k + 1, by omega, by omega, by go_num, ((HS.out.1.below (_root_.Go.below_drewN (Below.refl _ _) _)).set k (by omega) q).congr (fun u a b => HK.out u q a b HM.out), (HS.out.2.1.below (_root_.Go.below_drewN (Below.refl _ _) _)).far (by omega) _ _, (HS.out.2.2.trans (_root_.Go.below_drewN (Below.refl _ _) _)).setCell hx2 _⟩
        case measure => simp [intOf]; omega
      · have g1 : decide (q < p) = false := decide_eq_false g
        have HM : Hid (p = min p q) := by show p = _; omega
        clear g
        go_wp2
        go_quiet (fail)
        go_wp2
        go_roundw
        case rel => exact ⟨k + 1, by omega, by omega, by go_num, (HS.out.1.below (_root_.Go.below_drewN (Below.refl _ _) _)).congr (fun u a b => HK2.out u a b HM.out), HS.out.2.1.below (_root_.Go.below_drewN (Below.refl _ _) _), HS.out.2.2.trans (_root_.Go.below_drewN (Below.refl _ _) _)⟩
        case measure => simp [intOf]; omega
    · obtain rfl : k = 201 := by omega
      obtain ⟨G, hG⟩ : ∃ G : Int → Int, G = fun u => if 1 ≤ u ∧ u < ((201 : Nat) : Int) then min (exE xs u) (exE ys u) else exE xs u := ⟨_, rfl⟩
      have hG1 : ∀ v, 1 ≤ v → v ≤ 200 → G v = min (exE xs v) (exE ys v) := fun v h1 h2 => by rw [hG]; show (if _ then _ else _) = _; rw [if_pos ⟨h1, by omega⟩]
      have hb : ∀ v, 0 ≤ min (exE xs v) (exE ys v) ∧ min (exE xs v) (exE ys v) ≤ 10000 := fun v => by
        have h1 := may_bd (orM_may xs) v
        have h2 := may_bd (orM_may ys) v
        unfold exE; omega
      have HQ : Hid (R = ofE G) := by
        rw [Hid, HR.out]
        exact (ofE_eq (join_ris (f := (fun x y => min x y)) rfl (orM_may xs) (orM_may ys)) (fun v h1 h2 => by rw [join_expo (f := (fun x y => min x y)) rfl (orM_may xs) (orM_may ys), hG1 v h1 h2]; rfl) (fun v h1 h2 => by rw [hG1 v h1 h2]; exact (hb v).1)).symm
      have HI : Hid (∀ v, 1 ≤ v → v ≤ 200 → in64 (G v)) := fun v h1 h2 => by
        rw [hG1 v h1 h2]
        have := hb v
        unfold in64; omega
      have H1 : Hid (Row wr w1.heap.size G) := by rw [hG]; exact HS.out.1
      have HB5 := Lib.hid HS.out.2.2
      clear hG hG1 HS HR hk2 hb
      go_wp2_with (refine wpList_loadRow rfl (.tmp 5) rfl _ rfl _ H1.out ?_)
      refine (of7_any G HI.out _).mono ?_
      rintro e w9 ⟨qo, n, cap, rfl, hM, hB⟩
      have HM := Lib.hid hM
      have HB6 := Lib.hid (Below.steps HB5.out hB)
      clear hM hB HB5
      go_wp2_with fail
      go_ret
      exact ⟨_, _, _, rfl, by rw [HQ.out]; exact HM.out, HB6.out⟩

set_option maxHeartbeats 1000000 in
set_option maxRecDepth 100000 in
theorem least7_any {a0 b0 : Option Addr} {la ca lc cc : Nat} {xs ys : List (Int × Int)} {w : World} (ha : Ml w a0 la ca xs) (hb : Ml w b0 lc cc ys) :
    Calls Try.prog 27 #[.slice a0 la ca, .slice b0 lc cc] w (NewM w (joinL (fun x y => max x y) (orM xs) (orM ys))) := by
  have zr := zero_row
  obtain ⟨R, hR⟩ : ∃ R, R = joinL (fun x y => max x y) (orM xs) (orM ys) := ⟨_, rfl⟩
  rw [← hR]
  have HR := Lib.hid hR
  have HA := Lib.hid ha
  have HBB := Lib.hid hb
  have HB := Lib.hid (Below.refl w.heap.size w)
  clear ha hb hR
  go_enter Try.func27, Try.ntmps27
  go_wp2_with fail
  refine (exps_any HA.out).mono ?_
  rintro e w1 ⟨rfl, hB⟩
  have HB1 := Lib.hid (Below.steps HB.out hB)
  have HY1 := Lib.hid (HBB.out.below hB)
  clear hB HA HBB HB
  go_wp2_with (refine wpList_storeRow rfl (.tmp 5) (.tmp 9) rfl _ rfl _ _ rfl (Row.new w1 _) ?_)
  refine calls_world (fun W1 hW => ?_)
  have HX2 : Hid (Row W1 w1.heap.size (exE xs)) := by rw [hW]; exact (Row.new w1 _).put _
  have HB2 : Hid (Below w.heap.size w W1) := by rw [hW]; exact below_setRow (Below.steps HB1.out (below_alloc _ _)) HB1.out.size _
  have HY2 : Hid (Ml W1 b0 lc cc ys) := by rw [hW]; exact (HY1.out.below (below_setRow (below_alloc w1 _) (Nat.le_refl _) _))
  have hx2 := HB1.out.size
  clear hW HB1 HY1
  refine (exps_any HY2.out).mono ?_
  rintro e w2 ⟨rfl, hB⟩
  have HB3 := Lib.hid (Below.steps HB2.out hB)
  have HX3 := Lib.hid (HX2.out.below hB)
  clear hB HX2 HB2 HY2
  go_wp2_with (refine wpList_storeRow rfl (.tmp 6) (.tmp 11) rfl _ rfl _ _ rfl (Row.new w2 _) ?_)
  have hy2 := HB3.out.size
  have hxy := HX3.out.lt
  refine wp_world (fun W2 hW => ?_)
  have HX4 : Hid (Row W2 w1.heap.size (exE xs)) := by rw [hW]; exact (HX3.out.below (below_alloc _ _)).putFar (by omega) _
  have HY4 : Hid (Row W2 w2.heap.size (exE ys)) := by rw [hW]; exact (Row.new w2 _).put _
  have HB4 : Hid (Below w.heap.size w W2) := by rw [hW]; exact below_setRow (Below.steps HB3.out (below_alloc _ _)) hy2 _
  obtain ⟨by', hby⟩ : ∃ b, b = w2.heap.size := ⟨_, rfl⟩
  rw [← hby] at HY4 hy2 hxy
  try rw [← hby]
  clear hW HX3 HB3 hby zr
  go_wp2
  go_loopw [7] (fun i wr => ∃ k : Nat, 1 ≤ k ∧ k ≤ 201 ∧ i = .int .i64 k ∧ Hid (Row wr w1.heap.size (fun u => if 1 ≤ u ∧ u < k then max (exE xs u) (exE ys u) else exE xs u) ∧ Row wr by' (exE ys) ∧ Below w.heap.size w wr)) (fun i _ => 201 - (intOf i).toNat)
  case atStart => exact ⟨1, by omega, by omega, rfl, HX4.out.congr (fun u _ _ => by rw [if_neg (by omega)]), HY4.out, HB4.out⟩
  case round =>
    clear HX4 HY4 HB4
    obtain ⟨k, h1, hk, rfl, HS⟩ := hrel
    by_cases hk2 : k ≤ 200
    · have hk3 : (k : Int) ≤ 200 := by omega
      have hk4 : (k : Int) < 201 := by omega
      have hk5 : (0 : Int) ≤ k := by omega
      have c1 := HS.out.1.cell k (by omega)
      have c2 := HS.out.2.1.cell k (by omega)
      have f1 := HS.out.1.fz k
      rw [if_neg (by omega)] at c1
      have HK : Hid (∀ (u x : Int), 0 ≤ u → u ≤ 200 → x = max (exE xs k) (exE ys k) → upd (fun u => if 1 ≤ u ∧ u < (k : Int) then max (exE xs u) (exE ys u) else exE xs u) k x u = (fun u => if 1 ≤ u ∧ u < ((k + 1 : Nat) : Int) then max (exE xs u) (exE ys u) else exE xs u) u) := by
        intro u x _ _ hx
        unfold upd
        by_cases hu : u = (k : Int)
        · subst hu; rw [if_pos rfl, hx]; show _ = if _ then _ else _; rw [if_pos ⟨by omega, by omega⟩]
        · rw [if_neg hu]
          show (if _ then _ else _) = if _ then _ else _
          by_cases hc : 1 ≤ u ∧ u < (k : Int)
          · rw [if_pos hc, if_pos ⟨hc.1, by omega⟩]
          · rw [if_neg hc, if_neg (fun hd => hc ⟨hd.1, by omega⟩)]
      have HK2 : Hid (∀ (u : Int), 0 ≤ u → u ≤ 200 → exE xs k = max (exE xs k) (exE ys k) → (fun u => if 1 ≤ u ∧ u < (k : Int) then max (exE xs u) (exE ys u) else exE xs u) u = (fun u => if 1 ≤ u ∧ u < ((k + 1 : Nat) : Int) then max (exE xs u) (exE ys u) else exE xs u) u) := by
        intro u _ _ hx
        show (if _ then _ else _) = if _ then _ else _
        by_cases hu : u = (k : Int)
        · subst hu; rw [if_neg (by omega), if_pos ⟨by omega, by omega⟩]; exact hx
        · by_cases hc : 1 ≤ u ∧ u < (k : Int)
          · rw [if_pos hc, if_pos ⟨hc.1, by omega⟩]
          · rw [if_neg hc, if_neg (fun hd => hc ⟨hd.1, by omega⟩)]
      obtain ⟨p, hp⟩ : ∃ p, p = exE xs k := ⟨_, rfl⟩
      obtain ⟨q, hq⟩ : ∃ q, q = exE ys k := ⟨_, rfl⟩
      rw [← hp] at c1 HK HK2
      rw [← hq] at c2 HK HK2
      clear hp hq hk2
      by_cases g : p < q
      · have g1 : decide (p < q) = true := decide_eq_true g
        have HM : Hid (q = max p q) := by show q = _; omega
        clear g
        go_wp2
        go_quiet (fail)
        go_wp2
        go_roundw
        case rel => exact ⟨k + 1, by omega, by omega, by go_num, ((HS.out.1.below (_root_.Go.below_drewN (Below.refl _ _) _)).set k (by omega) q).congr (fun u a b => HK.out u q a b HM.out), (HS.out.2.1.below (_root_.Go.below_drewN (Below.refl _ _) _)).far (by omega) _ _, (HS.out.2.2.trans (_root_.Go.below_drewN (Below.refl _ _) _)).setCell hx2 _⟩
        case measure => simp [intOf]; omega
      · have g1 : decide (p < q) = false := decide_eq_false g
        have HM : Hid (p = max p q) := by show p = _; omega
        clear g
        go_wp2
        go_quiet (fail)
        go_wp2
        go_roundw
        case rel => exact ⟨k + 1, by omega, by omega, by go_num, (HS.out.1.below (_root_.Go.below_drewN (Below.refl _ _) _)).congr (fun u a b => HK2.out u a b HM.out), HS.out.2.1.below (_root_.Go.below_drewN (Below.refl _ _) _), HS.out.2.2.trans (_root_.Go.below_drewN (Below.refl _ _) _)⟩
        case measure => simp [intOf]; omega
    · obtain rfl : k = 201 := by omega
      obtain ⟨G, hG⟩ : ∃ G : Int → Int, G = fun u => if 1 ≤ u ∧ u < ((201 : Nat) : Int) then max (exE xs u) (exE ys u) else exE xs u := ⟨_, rfl⟩
      have hG1 : ∀ v, 1 ≤ v → v ≤ 200 → G v = max (exE xs v) (exE ys v) := fun v h1 h2 => by rw [hG]; show (if _ then _ else _) = _; rw [if_pos ⟨h1, by omega⟩]
      have hb : ∀ v, 0 ≤ max (exE xs v) (exE ys v) ∧ max (exE xs v) (exE ys v) ≤ 10000 := fun v => by
        have h1 := may_bd (orM_may xs) v
        have h2 := may_bd (orM_may ys) v
        unfold exE; omega
      have HQ : Hid (R = ofE G) := by
        rw [Hid, HR.out]
        exact (ofE_eq (join_ris (f := (fun x y => max x y)) rfl (orM_may xs) (orM_may ys)) (fun v h1 h2 => by rw [join_expo (f := (fun x y => max x y)) rfl (orM_may xs) (orM_may ys), hG1 v h1 h2]; rfl) (fun v h1 h2 => by rw [hG1 v h1 h2]; exact (hb v).1)).symm
      have HI : Hid (∀ v, 1 ≤ v → v ≤ 200 → in64 (G v)) := fun v h1 h2 => by
        rw [hG1 v h1 h2]
        have := hb v
        unfold in64; omega
      have H1 : Hid (Row wr w1.heap.size G) := by rw [hG]; exact HS.out.1
      have HB5 := Lib.hid HS.out.2.2
      clear hG hG1 HS HR hk2 hb
      go_wp2_with (refine wpList_loadRow rfl (.tmp 5) rfl _ rfl _ H1.out ?_)
      refine (of7_any G HI.out _).mono ?_
      rintro e w9 ⟨qo, n, cap, rfl, hM, hB⟩
      have HM := Lib.hid hM
      have HB6 := Lib.hid (Below.steps HB5.out hB)
      clear hM hB HB5
      go_wp2_with fail
      go_ret
      exact ⟨_, _, _, rfl, by rw [HQ.out]; exact HM.out, HB6.out⟩

end Go.Proofs.Ytgalcdfleljliaa

/-
  The contracts of porismref07.Times.
-/
import Derived.Test.YtgalcdfleljliaaMOf
import Derived.Test.YtgalcdfleljliaaMOps
set_option maxRecDepth 8192
namespace Go.Proofs.Ytgalcdfleljliaa
open Go.RowKit

theorem joinR_ok {f : Int → Int → Int} (f0 : f 0 0 = 0) {er : Int} {xs ys : List (Int × Int)} (hx : mayM 0 xs = true) (hy : mayM 0 ys = true) {G : Int → Int} (h : ∀ v, 1 ≤ v → v ≤ 200 → 0 ≤ f (expo xs v) (expo ys v) ∧ f (expo xs v) (expo ys v) ≤ 10000) (hG : ∀ v, 1 ≤ v → v ≤ 200 → G v = f (expo xs v) (expo ys v)) :
    joinR f er xs ys = (ofE G, 0) := by
  have hm : mayM 0 (joinL f xs ys) = true := (join_may f0 hx hy).2 fun v => by
    by_cases hv : 1 ≤ v ∧ v ≤ 200
    · exact h v hv.1 hv.2
    · rw [may_out hx (by omega), may_out hy (by omega), f0]; omega
  unfold joinR
  rw [if_pos ⟨hx, hy⟩, if_pos hm]
  have e : ofE G = joinL f xs ys := ofE_eq (join_ris f0 hx hy) (fun v h1 h2 => by rw [join_expo f0 hx hy, hG v h1 h2]) (fun v h1 h2 => by rw [hG v h1 h2]; exact (h v h1 h2).1)
  rw [e]
theorem joinR_bad {f : Int → Int → Int} (f0 : f 0 0 = 0) {er : Int} {xs ys : List (Int × Int)} (hx : mayM 0 xs = true) (hy : mayM 0 ys = true) (v : Int) (h : ¬ (0 ≤ f (expo xs v) (expo ys v) ∧ f (expo xs v) (expo ys v) ≤ 10000)) :
    joinR f er xs ys = ([], er) := by
  unfold joinR
  rw [if_pos ⟨hx, hy⟩, if_neg (fun hm => h ((join_may f0 hx hy).1 hm v))]

theorem times7_bad1 {a0 b0 : Option Addr} {la ca lc cc : Nat} {xs : List (Int × Int)} {w : World} (ha : Ml w a0 la ca xs) (hx : mayM 0 xs = false) :
    Calls Try.prog 12 #[.slice a0 la ca, .slice b0 lc cc] w (NewME w [] 2) := by
  go_enter Try.func12, Try.ntmps12
  go_wp2_with fail
  refine (may7_any false ha hx).mono ?_
  rintro e w1 ⟨rfl, hB⟩
  go_wp2_with fail
  go_ret2
  exact ⟨none, 0, 0, rfl, Ml.zero _, hB⟩
theorem times7_bad2 {a0 b0 : Option Addr} {la ca lc cc : Nat} {xs ys : List (Int × Int)} {w : World} (ha : Ml w a0 la ca xs) (hb : Ml w b0 lc cc ys) (hx : mayM 0 xs = true) (hy : mayM 0 ys = false) :
    Calls Try.prog 12 #[.slice a0 la ca, .slice b0 lc cc] w (NewME w [] 2) := by
  have HBB := Lib.hid hb
  clear hb
  go_enter Try.func12, Try.ntmps12
  go_wp2_with fail
  refine (may7_any true ha hx).mono ?_
  rintro e w1 ⟨rfl, hB⟩
  have HB := Lib.hid hB
  have HY := Lib.hid (HBB.out.below hB)
  clear hB ha hx HBB
  go_wp2_with fail
  refine (may7_any false HY.out hy).mono ?_
  rintro e w2 ⟨rfl, hB⟩
  go_wp2_with fail
  go_ret2
  exact ⟨none, 0, 0, rfl, Ml.zero _, Below.steps HB.out hB⟩
set_option maxHeartbeats 1000000 in
set_option maxRecDepth 100000 in
theorem times7_some {a0 b0 : Option Addr} {la ca lc cc : Nat} {xs ys : List (Int × Int)} {w : World} (ha : Ml w a0 la ca xs) (hb : Ml w b0 lc cc ys) (hx : mayM 0 xs = true) (hy : mayM 0 ys = true) (R : List (Int × Int) × Int) (hR : joinR (fun x y => x + y) 8 xs ys = R) :
    Calls Try.prog 12 #[.slice a0 la ca, .slice b0 lc cc] w (NewME w R.1 R.2) := by
  have zr := zero_row
  have HX := Lib.hid hx
  have HY := Lib.hid hy
  have HR := Lib.hid hR
  have HA0 := Lib.hid ha
  have HB0 := Lib.hid hb
  clear hx hy hR ha hb
  go_enter Try.func12, Try.ntmps12
  go_wp2_with fail
  refine (may7_any true HA0.out HX.out).mono ?_
  rintro e v1 ⟨rfl, hB⟩
  have HBa := Lib.hid hB
  have HA1 := Lib.hid (HA0.out.below hB)
  have HY1 := Lib.hid (HB0.out.below hB)
  clear hB HA0 HB0
  go_wp2_with fail
  refine (may7_any true HY1.out HY.out).mono ?_
  rintro e v2 ⟨rfl, hB⟩
  have HB := Lib.hid (Below.steps HBa.out hB)
  have HA := Lib.hid (HA1.out.below hB)
  have HBB := Lib.hid (HY1.out.below hB)
  clear hB HBa HA1 HY1
  go_wp2_with fail
  refine (exps_any HA.out).mono ?_
  rintro e w1 ⟨rfl, hB⟩
  have HB1 := Lib.hid (Below.steps HB.out hB)
  have HY1 := Lib.hid (HBB.out.below hB)
  clear hB HA HBB HB
  go_wp2_with (refine wpList_storeRow rfl (.tmp 6) (.tmp 18) rfl _ rfl _ _ rfl (Row.new w1 _) ?_)
  refine calls_world (fun W1 hW => ?_)
  have HX2 : Hid (Row W1 w1.heap.size (exE xs)) := by rw [hW]; exact (Row.new w1 _).put _
  have HB2 : Hid (Below w.heap.size w W1) := by rw [hW]; exact below_setRow (Below.steps HB1.out (below_alloc _ _)) HB1.out.size _
  have HY2 : Hid (Ml W1 b0 lc cc ys) := by rw [hW]; exact (HY1.out.below (below_setRow (below_alloc w1 _) (Nat.le_refl _) _))
  have hx2 := HB1.out.size
  clear hW HB1 HY1
  refine (exps_any HY2.out).mono ?_
  rintro e w2 ⟨rfl, hB⟩
  have HB3 := Lib.hid (Below.steps HB2.out hB)
  have HX3 := Lib.hid (HX2.out.below hB)
  clear hB HX2 HB2 HY2
  go_wp2_with (refine wpList_storeRow rfl (.tmp 7) (.tmp 20) rfl _ rfl _ _ rfl (Row.new w2 _) ?_)
  have hy2 := HB3.out.size
  have hxy := HX3.out.lt
  refine wp_world (fun W2 hW => ?_)
  have HX4 : Hid (Row W2 w1.heap.size (exE xs)) := by rw [hW]; exact (HX3.out.below (below_alloc _ _)).putFar (by omega) _
  have HY4 : Hid (Row W2 w2.heap.size (exE ys)) := by rw [hW]; exact (Row.new w2 _).put _
  have HB4 : Hid (Below w.heap.size w W2) := by rw [hW]; exact below_setRow (Below.steps HB3.out (below_alloc _ _)) hy2 _
  obtain ⟨by', hby⟩ : ∃ b, b = w2.heap.size := ⟨_, rfl⟩
  rw [← hby] at HY4 hy2 hxy
  try rw [← hby]
  clear hW HX3 HB3 hby zr
  go_wp2
  go_loopw [8] (fun i wr => ∃ k : Nat, 1 ≤ k ∧ k ≤ 201 ∧ i = .int .i64 k ∧ Hid (∀ u : Int, 1 ≤ u → u < k → 0 ≤ expo xs u + expo ys u ∧ expo xs u + expo ys u ≤ 10000) ∧ Hid (Row wr w1.heap.size (fun u => if 1 ≤ u ∧ u < k then expo xs u + expo ys u else expo xs u) ∧ Row wr by' (expo ys) ∧ Below w.heap.size w wr)) (fun i _ => 201 - (intOf i).toNat)
  case atStart => exact ⟨1, by omega, by omega, rfl, fun u h1 h2 => by omega, HX4.out.congr (fun u _ _ => by rw [exE_yes HX.out, if_neg (by omega)]), by have := HY4.out; rwa [exE_yes HY.out] at this, HB4.out⟩
  case round =>
    clear HX4 HY4 HB4
    obtain ⟨k, h1, hk, rfl, HT, HS⟩ := hrel
    by_cases hk2 : k ≤ 200
    · have hk3 : (k : Int) ≤ 200 := by omega
      have hk4 : (k : Int) < 201 := by omega
      have hk5 : (0 : Int) ≤ k := by omega
      have c1 := HS.out.1.cell k (by omega)
      have c2 := HS.out.2.1.cell k (by omega)
      have f1 := HS.out.1.fz k
      rw [if_neg (by omega)] at c1
      have b1 := may_bd HX.out (k : Int)
      have b2 := may_bd HY.out (k : Int)
      have HK : Hid (∀ (u : Int), 0 ≤ u → u ≤ 200 → upd (fun u => if 1 ≤ u ∧ u < (k : Int) then expo xs u + expo ys u else expo xs u) k (expo xs k + expo ys k) u = (fun u => if 1 ≤ u ∧ u < ((k + 1 : Nat) : Int) then expo xs u + expo ys u else expo xs u) u) := by
        intro u _ _
        unfold upd
        by_cases hu : u = (k : Int)
        · subst hu; rw [if_pos rfl]; show _ = if _ then _ else _; rw [if_pos ⟨by omega, by omega⟩]
        · rw [if_neg hu]
          show (if _ then _ else _) = if _ then _ else _
          by_cases hc : 1 ≤ u ∧ u < (k : Int)
          · rw [if_pos hc, if_pos ⟨hc.1, by omega⟩]
          · rw [if_neg hc, if_neg (fun hd => hc ⟨hd.1, by omega⟩)]
      have HY9 : Hid (∀ z, (wr.drew.setCell ⟨w1.heap.size, k, none⟩ z).cell? ⟨by', k, none⟩ = some (.int .i64 (expo ys k))) := fun z => ((show Row wr.drew by' _ from HS.out.2.1).far (by omega) _ _).cell k (by omega)
      have HP : Hid (∀ (u : Int), 1 ≤ u → u < ((k + 1 : Nat) : Int) → (0 ≤ expo xs k + expo ys k ∧ expo xs k + expo ys k ≤ 10000) → 0 ≤ expo xs u + expo ys u ∧ expo xs u + expo ys u ≤ 10000) := by
        intro u h2 h3 h4
        by_cases hu : u = (k : Int)
        · subst hu; exact h4
        · exact HT.out u h2 (by omega)
      have HN : Hid (¬ (0 ≤ expo xs k + expo ys k ∧ expo xs k + expo ys k ≤ 10000) → R = ([], 8)) := fun h => by rw [← HR.out]; exact joinR_bad (f := (fun x y => x + y)) rfl HX.out HY.out k h
      obtain ⟨p, hp⟩ : ∃ p, p = expo xs k := ⟨_, rfl⟩
      obtain ⟨q, hq⟩ : ∃ q, q = expo ys k := ⟨_, rfl⟩
      rw [← hp] at c1 b1 HK HP HN
      rw [← hq] at c2 b2 HK HP HN HY9
      obtain ⟨b1, b3⟩ := b1
      obtain ⟨b2, b4⟩ := b2
      have ws : IntKind.i64.wrap (p + q) = p + q := IntWalk.i64_in _ ⟨by omega, by omega⟩
      clear hp hq hk2
      go_upto_region 8 with (fail)
      refine wp_region_held_drew (S := fun w' => w'.cell? ⟨by', k, none⟩ = some (.int .i64 q)) (by kernel_rfl) c2 (fun hH => ?_)
      refine step_on 0 rfl (by kernel_rfl) (fun _ _ _ h => h) (by rfl) hH (by intro w hS; go_simp <;> with_reducible rfl) ?_
      try simp only [nrm]
      refine step_on 1 rfl (by kernel_rfl) (fun _ _ _ h => h) (by rfl) hH (by intro w hS; go_simp <;> with_reducible rfl) ?_
      try simp only [nrm]
      refine step_on 2 rfl (by kernel_rfl) (fun _ _ _ h => h) (by rfl) hH (by intro w hS; go_simp <;> with_reducible rfl) ?_
      try simp only [nrm]
      refine step_on 4 rfl (by kernel_rfl) (fun _ _ _ h => h) (by rfl) hH (by intro w hS; go_simp <;> with_reducible rfl) ?_
      try simp only [nrm]
      refine step_on 5 rfl (by kernel_rfl) (fun _ _ _ h => h) (by rfl) hH (by intro w hS; go_simp <;> with_reducible rfl) ?_
      try simp only [nrm]
      refine step_on 6 rfl (by kernel_rfl) (fun _ _ _ h => h) (by rfl) hH (by intro w hS; go_simp <;> with_reducible rfl) ?_
      try simp only [nrm]
      refine step_one 3 rfl (by kernel_rfl) (fun K hK => ?_)
      go_simp
      refine hK.out _ _ c2 (fun h2 => ?_)
      clear hK K hH
      have hH := h2
      clear h2
      try simp only [nrm]
      refine step_on 7 rfl (by kernel_rfl) (fun _ _ _ h => h) (by rfl) hH (by intro w hS; go_simp <;> with_reducible rfl) ?_
      try simp only [nrm]
      refine step_on 8 rfl (by kernel_rfl) (fun _ _ _ h => h) (by rfl) hH (by intro w hS; go_simp <;> with_reducible rfl) ?_
      try simp only [nrm]
      refine step_one 9 rfl (by kernel_rfl) (fun K hK => ?_)
      go_simp
      refine hK.out _ _ (HY9.out _) (fun h2 => ?_)
      clear hK K hH h2
      try simp only [nrm]
      refine wpAnyH_done (by kernel_rfl) ?_ _
      clear c2 f1
      have HB9 : Hid (Below w.heap.size w (wr.drew.setCell ⟨w1.heap.size, k, none⟩ (.int .i64 (p + q)))) := HS.out.2.2.drew.setCell hx2 _
      by_cases g : 10000 < p + q
      · have g1 : decide (10000 < p + q) = true := decide_eq_true g
        have HR2 : Hid (R = ([], 8)) := HN.out (by omega)
        clear HN HP HT HK g ws
        go_wp2
        go_ret2
        exact ⟨none, 0, 0, by rw [HR2.out]; rfl, by rw [HR2.out]; exact Ml.zero _, HB9.out⟩
      · have g1 : decide (10000 < p + q) = false := decide_eq_false g
        have HG : Hid (0 ≤ p + q ∧ p + q ≤ 10000) := by show _ ∧ _; omega
        clear g
        go_wp2_with fail
        go_roundw
        case rel => exact ⟨k + 1, by omega, by omega, by go_num, fun u h2 h3 => HP.out u h2 h3 HG.out, ((show Row wr.drew w1.heap.size _ from HS.out.1).set k (by omega) (p + q)).congr HK.out, (show Row wr.drew by' _ from HS.out.2.1).far (by omega) _ _, HB9.out⟩
        case measure => simp [intOf]; omega
    · obtain rfl : k = 201 := by omega
      obtain ⟨G, hG⟩ : ∃ G : Int → Int, G = fun u => if 1 ≤ u ∧ u < ((201 : Nat) : Int) then expo xs u + expo ys u else expo xs u := ⟨_, rfl⟩
      have hG1 : ∀ v, 1 ≤ v → v ≤ 200 → G v = expo xs v + expo ys v := fun v h1 h2 => by rw [hG]; show (if _ then _ else _) = _; rw [if_pos ⟨h1, by omega⟩]
      have HQ : Hid (R = (ofE G, 0)) := by
        rw [Hid, ← HR.out]
        exact joinR_ok (f := (fun x y => x + y)) rfl HX.out HY.out (fun v h1 h2 => HT.out v h1 (by omega)) hG1
      have HI : Hid (∀ v, 1 ≤ v → v ≤ 200 → in64 (G v)) := fun v h1 h2 => by
        rw [hG1 v h1 h2]
        have := HT.out v h1 (by omega)
        unfold in64; omega
      have H1 : Hid (Row wr w1.heap.size G) := by rw [hG]; exact HS.out.1
      have HB5 := Lib.hid HS.out.2.2
      clear hG hG1 HT HS HX HY HR hk2
      go_wp2_with (refine wpList_loadRow rfl (.tmp 6) rfl _ rfl _ H1.out ?_)
      refine (of7_any G HI.out _).mono ?_
      rintro e w9 ⟨qo, n, cap, rfl, hM, hB⟩
      have HM := Lib.hid hM
      have HB6 := Lib.hid (Below.steps HB5.out hB)
      clear hM hB HB5
      go_wp2_with fail
      go_ret2
      exact ⟨_, _, _, by rw [HQ.out]; rfl, by rw [HQ.out]; exact HM.out, HB6.out⟩

theorem times7_any {a0 b0 : Option Addr} {la ca lc cc : Nat} {xs ys : List (Int × Int)} {w : World} (ha : Ml w a0 la ca xs) (hb : Ml w b0 lc cc ys) :
    Calls Try.prog 12 #[.slice a0 la ca, .slice b0 lc cc] w (NewME w (joinR (fun x y => x + y) 8 xs ys).1 (joinR (fun x y => x + y) 8 xs ys).2) := by
  cases hx : mayM 0 xs with
  | false => rw [show joinR (fun x y => x + y) 8 xs ys = ([], 2) from if_neg (by simp [hx])]; exact times7_bad1 ha hx
  | true =>
    cases hy : mayM 0 ys with
    | false => rw [show joinR (fun x y => x + y) 8 xs ys = ([], 2) from if_neg (by simp [hy])]; exact times7_bad2 ha hb hx hy
    | true => exact times7_some ha hb hx hy _ rfl

end Go.Proofs.Ytgalcdfleljliaa

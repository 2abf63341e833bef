/-
  The contracts of mono.Compare, Degree, Class.
-/
import Derived.Test.YtgalcdfleljliaaMOps
set_option maxRecDepth 8192
namespace Go.Proofs.Ytgalcdfleljliaa
open Go.RowKit

/-- -1, 0, 1 -/
def sgnC (x y : Int) : Int := if x < y then -1 else if y < x then 1 else 0

theorem nan_any (x : Int) (w : World) : Calls Try.prog 46 #[.int .i64 x] w (fun e w' => e = .returned (.bool false) ∧ w = w') := by
  go_enter Try.func46, Try.ntmps46
  go_wp2
  go_ret
  exact ⟨ret_bool (by simp), rfl⟩

theorem cmpInt_any (x y z : Int) (w : World) (hz : sgnC x y = z) : Calls Try.prog 38 #[.int .i64 x, .int .i64 y] w (fun e w' => e = .returned (.int .i64 z) ∧ w = w') := by
  have HZ := Lib.hid hz
  clear hz
  rcases Int.lt_trichotomy x y with g | g | g
  · have f1 : decide (x < y) = true := decide_eq_true g
    go_enter Try.func38, Try.ntmps38
    go_wp2_with ((with_reducible refine (nan_any _ _).mono ?_); rintro e w' ⟨rfl, rfl⟩)
    go_ret
    exact ⟨ret_int (by rw [← HZ.out]; unfold sgnC; rw [if_pos g]), rfl⟩
  · subst g
    go_enter Try.func38, Try.ntmps38
    go_wp2_with ((with_reducible refine (nan_any _ _).mono ?_); rintro e w' ⟨rfl, rfl⟩)
    go_ret
    exact ⟨ret_int (by rw [← HZ.out]; unfold sgnC; simp), rfl⟩
  · have f1 : decide (x < y) = false := decide_eq_false (by omega)
    have f2 : decide (y < x) = true := decide_eq_true g
    go_enter Try.func38, Try.ntmps38
    go_wp2_with ((with_reducible refine (nan_any _ _).mono ?_); rintro e w' ⟨rfl, rfl⟩)
    go_ret
    exact ⟨ret_int (by rw [← HZ.out]; unfold sgnC; rw [if_neg (by omega), if_pos g]), rfl⟩

/-- what the function that Compare hands on keeps: the order so far -/
structure CInv (w0 : World) (o : Nat) (done : List (Int × Int × Int)) (w : World) : Prop where
  at1 : At1 w o (.int .i64 (lastD 0 done)) 3
  below : Below w0.heap.size w0 w
  ho : w0.heap.size ≤ o
theorem CInv.stable {w0 : World} {o : Nat} {done : List (Int × Int × Int)} {w w' : World} (h : CInv w0 o done w) (hb : Below w.heap.size w w') : CInv w0 o done w' :=
  ⟨h.at1.below hb, Below.steps h.below hb, h.ho⟩

theorem cmpFn_any {w0 w : World} {o : Nat} {done : List (Int × Int × Int)} (t : Int × Int × Int) (h : CInv w0 o done w) :
    Calls Try.prog 37 #[.int .i64 t.1, .int .i64 t.2.1, .int .i64 t.2.2, .pointer (some ⟨o, 0, none⟩)] w (fun e w' => e = .returned (.tuple #[]) ∧ CInv w0 o (done ++ [t]) w') := by
  obtain ⟨v, x, y⟩ := t
  have cc := h.at1.cell
  have fc := h.at1.fz
  have lc := h.at1.lt
  have HI := Lib.hid h
  clear h
  obtain ⟨l, hl⟩ : ∃ l, l = lastD 0 done := ⟨_, rfl⟩
  rw [← hl] at cc
  have HL := Lib.hid hl
  clear hl
  by_cases g : x = y
  · subst g
    go_enter Try.func37, Try.ntmps37
    go_wp2
    go_end0
    refine ⟨rfl, ⟨?_, HI.out.below, HI.out.ho⟩⟩
    rw [lastD_append]
    simpa [lastD] using HI.out.at1
  · have g1 : (x == y) = false := by simpa using g
    have g2 : (x != y) = true := by simpa using g
    have HG := Lib.hid g
    clear g
    obtain ⟨z, hz⟩ : ∃ z, sgnC x y = z := ⟨_, rfl⟩
    have HZ := Lib.hid hz
    clear hz
    go_enter Try.func37, Try.ntmps37
    go_wp2_with ((with_reducible refine (cmpInt_any x y z _ HZ.out).mono ?_); rintro e w' ⟨rfl, rfl⟩)
    go_end0
    refine ⟨rfl, ⟨?_, HI.out.below.setCell HI.out.ho _, HI.out.ho⟩⟩
    have e1 : lastD 0 (done ++ [(v, x, y)]) = z := by
      rw [lastD_append, ← HZ.out]
      unfold sgnC
      simp only [lastD]
      have := HG.out
      by_cases h1 : x < y
      · rw [if_pos h1, if_pos h1]
      · rw [if_neg h1, if_neg h1, if_pos (by omega), if_pos (by omega)]
    rw [e1]
    exact HI.out.at1.set _

section
variable {a0 b0 : Option Addr} {la ca lc cc : Nat} {xs ys : List (Int × Int)} {w : World}

/-- the order, or an error -/
def cmpR (xs ys : List (Int × Int)) : Int × Int := if mayM 0 xs = true ∧ mayM 0 ys = true then (cmpM xs ys, 0) else (0, 2)

theorem compare_bad1 (ha : Ml w a0 la ca xs) (hx : mayM 0 xs = false) :
    Calls Try.prog 18 #[.slice a0 la ca, .slice b0 lc cc] w (RetB (.tuple #[.int .i64 0, .int .i64 2]) w) := by
  go_enter Try.func18, Try.ntmps18
  go_wp2_with fail
  refine (may_any false ha hx).mono ?_
  rintro e w1 ⟨rfl, hB⟩
  go_wp2_with fail
  go_ret2
  exact ⟨rfl, hB⟩
theorem compare_bad2 (ha : Ml w a0 la ca xs) (hb : Ml w b0 lc cc ys) (hx : mayM 0 xs = true) (hy : mayM 0 ys = false) :
    Calls Try.prog 18 #[.slice a0 la ca, .slice b0 lc cc] w (RetB (.tuple #[.int .i64 0, .int .i64 2]) w) := by
  have HBB := Lib.hid hb
  clear hb
  go_enter Try.func18, Try.ntmps18
  go_wp2_with fail
  refine (may_any true ha hx).mono ?_
  rintro e w1 ⟨rfl, hB⟩
  have HB := Lib.hid hB
  have HY := Lib.hid (HBB.out.below hB)
  clear hB ha hx HBB
  go_wp2_with fail
  refine (may_any false HY.out hy).mono ?_
  rintro e w2 ⟨rfl, hB⟩
  go_wp2_with fail
  go_ret2
  exact ⟨rfl, Below.steps HB.out hB⟩

set_option maxHeartbeats 600000 in
theorem compare_some (ha : Ml w a0 la ca xs) (hb : Ml w b0 lc cc ys) (hx : mayM 0 xs = true) (hy : mayM 0 ys = true) (z : Int) (hz : cmpM xs ys = z) :
    Calls Try.prog 18 #[.slice a0 la ca, .slice b0 lc cc] w (RetB (.tuple #[.int .i64 z, .int .i64 0]) w) := by
  have eg : ∀ args w, (callFunc 37 args).run Try.prog w = .ok (.enter 37 args) w := enters_of Try.func37 (by kernel_rfl) rfl
  have hF : ∀ (w0 : World) (o : Nat) done t rest W, tri xs ys = done ++ t :: rest → CInv w0 o done W → Calls Try.prog 37 (#[.int .i64 t.1, .int .i64 t.2.1, .int .i64 t.2.2] ++ #[.pointer (some ⟨o, 0, none⟩)]) W (fun e w' => e = .returned (.tuple #[]) ∧ CInv w0 o (done ++ [t]) w') :=
    fun w0 o done t rest W _ h => by exact cmpFn_any t h
  have h0 : ∀ W : World, CInv W W.heap.size [] (W.alloc (.cells #[.int .i64 0] 3)) := fun W => ⟨At1.new _ _ _, below_alloc _ _, Nat.le_refl _⟩
  have HF := Lib.hid hF
  have H0 := Lib.hid h0
  have HX := Lib.hid hx
  have HY := Lib.hid hy
  have HA := Lib.hid ha
  have HBB := Lib.hid hb
  have HZ := Lib.hid hz
  clear hx hy ha hb hz hF h0
  go_enter Try.func18, Try.ntmps18
  go_wp2_with fail
  refine (may_any true HA.out HX.out).mono ?_
  rintro e w1 ⟨rfl, hB⟩
  have HB1 := Lib.hid hB
  have HA1 := Lib.hid (HA.out.below hB)
  have HY1 := Lib.hid (HBB.out.below hB)
  clear hB HBB HA
  go_wp2_with fail
  refine (may_any true HY1.out HY.out).mono ?_
  rintro e w2 ⟨rfl, hB⟩
  have HB2 := Lib.hid (Below.steps HB1.out hB)
  have HA2 := Lib.hid (HA1.out.below hB)
  have HY2 := Lib.hid (HY1.out.below hB)
  clear hB HA1 HY1 HB1
  go_wp2_with fail
  refine (side_any eg (CInv w2 w2.heap.size) (w0 := w2) HA2.out HY2.out (fun _ _ _ h hb => h.stable hb) (fun _ _ h => h.below) (HF.out _ _) (H0.out _)).mono ?_
  rintro e w3 ⟨rfl, hI⟩
  have c3 := hI.at1.cell
  have HB3 := Lib.hid (Below.steps HB2.out hI.below)
  obtain ⟨l, hl⟩ : ∃ l, l = lastD 0 (tri xs ys) := ⟨_, rfl⟩
  rw [← hl] at c3
  have HL := Lib.hid hl
  clear hI hl HA2 HY2 HB2
  go_wp2_with fail
  go_ret2
  refine ⟨?_, HB3.out⟩
  have e1 : l = z := by rw [HL.out, lastD_zero]; exact HZ.out
  rw [e1]; rfl

theorem compare_any (ha : Ml w a0 la ca xs) (hb : Ml w b0 lc cc ys) :
    Calls Try.prog 18 #[.slice a0 la ca, .slice b0 lc cc] w (RetB (.tuple #[.int .i64 (cmpR xs ys).1, .int .i64 (cmpR xs ys).2]) w) := by
  unfold cmpR
  cases hx : mayM 0 xs with
  | false =>
    rw [if_neg (by simp)]
    exact compare_bad1 ha hx
  | true =>
    cases hy : mayM 0 ys with
    | false =>
      rw [if_neg (by simp)]
      exact compare_bad2 ha hb hx hy
    | true =>
      rw [if_pos ⟨rfl, rfl⟩]
      exact compare_some ha hb hx hy _ rfl
end

theorem expo_drop (ps : List (Int × Int)) (k : Nat) (v : Int) (h : k < ps.length) : expo (ps.drop k) v = if (ps.getD k (0, 0)).1 = v then (ps.getD k (0, 0)).2 else expo (ps.drop (k + 1)) v := by
  rw [List.drop_eq_getElem_cons h]
  simp only [expo, List.getD, List.getElem?_eq_getElem h, Option.getD_some]

set_option maxHeartbeats 1000000 in
theorem degree_any {ao : Option Addr} {n cap : Nat} {ps : List (Int × Int)} {w : World} (h : Ml w ao n cap ps) (v z : Int) (hz : exE ps v = z) :
    Calls Try.prog 19 #[.slice ao n cap, .int .i64 v] w (RetB (.int .i64 z) w) := by
  have HZ : Hid (expo (orM ps) v = z) := hz
  have HM := Lib.hid h
  clear h hz
  go_enter Try.func19, Try.ntmps19
  go_wp2_with fail
  refine (orOne_any HM.out).mono ?_
  rintro e w1 ⟨mo, m, cm, rfl, hM, hB⟩
  have hle := hM.le
  have hbig := hM.big
  obtain ⟨qs, hqs⟩ : ∃ qs, qs = orM ps := ⟨_, rfl⟩
  rw [← hqs] at HZ hM
  have HQ := Lib.hid hM
  have HB := Lib.hid hB
  clear hM hB hqs HM
  go_wp2
  go_loopw [10] (fun i wr => ∃ k : Nat, k ≤ m ∧ i = .int .i64 k ∧ Hid (expo (qs.drop k) v = z) ∧ Hid (Ml wr mo m cm qs ∧ Below w.heap.size w wr)) (fun i _ => m - (intOf i).toNat)
  case atStart => exact ⟨0, Nat.zero_le _, rfl, by rw [Hid, List.drop_zero]; exact HZ.out, HQ.out, HB.out⟩
  case round =>
    clear HQ HB HZ
    obtain ⟨k, hk, rfl, HZ, HS⟩ := hrel
    by_cases hkm : k < m
    · obtain ⟨b, off, rfl, hb, hc⟩ := HS.out.1.at (by omega)
      obtain ⟨c1, c2⟩ := hc k hkm
      have HZ2 := Lib.hid ((expo_drop qs k v (by rw [HS.out.1.len]; exact hkm)).symm.trans HZ.out)
      clear hc HZ
      obtain ⟨p, hp⟩ : ∃ p, p = qs.getD k (0, 0) := ⟨_, rfl⟩
      rw [← hp] at c1 c2 HZ2
      clear hp
      obtain ⟨u, x⟩ := p
      by_cases g : u = v
      · subst g
        go_wp2
        go_ret
        exact ⟨ret_int (by have := HZ2.out; simpa using this), Below.steps HS.out.2 (below_alloc _ _)⟩
      · have g1 : (u == v) = false := by simpa using g
        have HG := Lib.hid g
        clear g
        go_wp2
        go_roundw
        case rel => exact ⟨k + 1, by omega, by go_num, by have := HZ2.out; rw [if_neg HG.out] at this; exact this, HS.out.1.below (below_alloc _ _), Below.steps HS.out.2 (below_alloc _ _)⟩
        case measure => simp [intOf]; omega
    · obtain rfl : k = m := by omega
      go_wp2
      go_ret
      have e2 := HZ.out
      rw [List.drop_eq_nil_of_le (by rw [HS.out.1.len]; exact Nat.le_refl _)] at e2
      exact ⟨ret_int (by simpa [expo] using e2), HS.out.2⟩

theorem cls_last : ∀ (ps : List (Int × Int)), ps ≠ [] → clsM ps = (ps.getD (ps.length - 1) (0, 0)).1
  | [], h => absurd rfl h
  | [p], _ => rfl
  | p :: q :: r, _ => by
    have ih := cls_last (q :: r) (by simp)
    simp only [clsM] at ih ⊢
    rw [if_neg (by simp)]
    rw [ih]
    simp

theorem class_any {ao : Option Addr} {n cap : Nat} {ps : List (Int × Int)} {w : World} (h : Ml w ao n cap ps) (z : Int) (hz : clsM (orM ps) = z) :
    Calls Try.prog 21 #[.slice ao n cap] w (RetB (.int .i64 z) w) := by
  have HZ := Lib.hid hz
  have HM := Lib.hid h
  clear h hz
  go_enter Try.func21, Try.ntmps21
  go_wp2_with fail
  refine (orOne_any HM.out).mono ?_
  rintro e w1 ⟨mo, m, cm, rfl, hM, hB⟩
  have hle := hM.le
  have hbig := hM.big
  obtain ⟨qs, hqs⟩ : ∃ qs, qs = orM ps := ⟨_, rfl⟩
  rw [← hqs] at HZ hM
  have HQ := Lib.hid hM
  have HB := Lib.hid hB
  clear hM hB hqs HM
  by_cases hm : m = 0
  · subst hm
    have hq := HQ.out.empty rfl
    have HE : Hid (z = 0) := by rw [Hid, ← HZ.out, hq]; rfl
    clear hq HZ HQ
    go_wp2
    go_ret
    exact ⟨ret_int HE.out.symm, HB.out⟩
  · obtain ⟨m, rfl⟩ : ∃ k, m = k + 1 := ⟨m - 1, by omega⟩
    obtain ⟨b, off, rfl, hb, hc⟩ := HQ.out.at (by omega)
    obtain ⟨c1, _⟩ := hc m (by omega)
    have hl := HQ.out.len
    have HE : Hid (z = (qs.getD m (0, 0)).1) := by
      rw [Hid, ← HZ.out, cls_last qs (by intro h; rw [h] at hl; simp at hl), hl]
      simp
    obtain ⟨u, hu⟩ : ∃ u, u = (qs.getD m (0, 0)).1 := ⟨_, rfl⟩
    rw [← hu] at c1 HE
    have g1 : ((m + 1 : Nat) : Int) - 1 = (m : Int) := by omega
    have g2 : (((m + 1 : Nat) : Int) == 0) = false := by simp; omega
    clear hl hu hc HZ HQ hm
    go_wp2
    go_ret
    exact ⟨ret_int HE.out.symm, HB.out⟩

end Go.Proofs.Ytgalcdfleljliaa

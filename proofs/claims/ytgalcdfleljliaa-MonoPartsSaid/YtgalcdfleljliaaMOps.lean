/-
  The contracts of mono.joinedOr, Times, Over, Common, Least.
-/
import Derived.Test.YtgalcdfleljliaaMJoin
set_option maxRecDepth 8192
namespace Go.Proofs.Ytgalcdfleljliaa
open Go.RowKit

/-- what is joined, or an error -/
def joinR (f : Int → Int → Int) (er : Int) (xs ys : List (Int × Int)) : List (Int × Int) × Int :=
  if mayM 0 xs = true ∧ mayM 0 ys = true then (if mayM 0 (joinL f xs ys) = true then (joinL f xs ys, 0) else ([], er)) else ([], 2)

section
variable {J : Nat} {f : Int → Int → Int} {a0 b0 : Option Addr} {la ca lc cc : Nat} {xs ys : List (Int × Int)} {w : World}

theorem joinedOr_bad1 (er : Int) (ha : Ml w a0 la ca xs) (hx : mayM 0 xs = false) (F : Value) :
    Calls Try.prog 31 #[.int .i64 er, .slice a0 la ca, .slice b0 lc cc, F] w (NewME w [] 2) := by
  go_enter Try.func31, Try.ntmps31
  go_wp2_with fail
  refine (may_any false ha hx).mono ?_
  rintro e w1 ⟨rfl, hB⟩
  go_wp2_with fail
  go_ret2
  exact ⟨none, 0, 0, rfl, Ml.zero _, hB⟩
theorem joinedOr_bad2 (er : Int) (ha : Ml w a0 la ca xs) (hb : Ml w b0 lc cc ys) (hx : mayM 0 xs = true) (hy : mayM 0 ys = false) (F : Value) :
    Calls Try.prog 31 #[.int .i64 er, .slice a0 la ca, .slice b0 lc cc, F] w (NewME w [] 2) := by
  have HBB := Lib.hid hb
  clear hb
  go_enter Try.func31, Try.ntmps31
  go_wp2_with fail
  refine (may_any true ha hx).mono ?_
  rintro e w1 ⟨rfl, hB⟩
  have HB := Lib.hid hB
  have HY := Lib.hid (HBB.out.below hB)
  clear hB ha hx HBB
  go_wp2_with fail
  refine (may_any false HY.out hy).mono ?_
  rintro e w2 ⟨rfl, hB⟩
  go_wp2_with fail
  go_ret2
  exact ⟨none, 0, 0, rfl, Ml.zero _, Below.steps HB.out hB⟩

theorem joinedOr_some (er : Int) (r : Bool) (eJ : ∀ args w, (callFunc J args).run Try.prog w = .ok (.enter J args) w) (hJ : Fn2 J f) (hf : ∀ x y : Int, (0 ≤ x ∧ x ≤ 10000) → (0 ≤ y ∧ y ≤ 10000) → in64 (f x y))
    (ha : Ml w a0 la ca xs) (hb : Ml w b0 lc cc ys) (hx : mayM 0 xs = true) (hy : mayM 0 ys = true) (hr : mayM 0 (joinL f xs ys) = r) (qs : List (Int × Int)) (z : Int) (hq : qs = if r = true then joinL f xs ys else []) (hz : z = if r = true then 0 else er) :
    Calls Try.prog 31 #[.int .i64 er, .slice a0 la ca, .slice b0 lc cc, .func (.func J) #[] #[]] w (NewME w qs z) := by
  have HQ := Lib.hid hq
  have HZ := Lib.hid hz
  clear hq hz
  have HX := Lib.hid hx
  have HY := Lib.hid hy
  have HR := Lib.hid hr
  have HA := Lib.hid ha
  have HBB := Lib.hid hb
  have EJ := Lib.hid eJ
  have HJ := Lib.hid hJ
  have HF := Lib.hid hf
  clear hx hy hr ha hb eJ hJ hf
  go_enter Try.func31, Try.ntmps31
  go_wp2_with fail
  refine (may_any true HA.out HX.out).mono ?_
  rintro e w1 ⟨rfl, hB⟩
  have HB1 := Lib.hid hB
  have HA1 := Lib.hid (HA.out.below hB)
  have HY1 := Lib.hid (HBB.out.below hB)
  clear hB HBB HA
  go_wp2_with fail
  refine (may_any true HY1.out HY.out).mono ?_
  rintro e w2 ⟨rfl, hB⟩
  have HB2 := Lib.hid (Below.steps HB1.out hB)
  have HA2 := Lib.hid (HA1.out.below hB)
  have HY2 := Lib.hid (HY1.out.below hB)
  clear hB HA1 HY1 HB1
  go_wp2_with fail
  refine (joined_any EJ.out HJ.out HF.out HA2.out HY2.out HX.out HY.out).mono ?_
  rintro e w3 ⟨mo, n, cap, rfl, hM, hB⟩
  have HB3 := Lib.hid (Below.steps HB2.out hB)
  have HM := Lib.hid hM
  clear hB hM HA2 HY2 HB2
  go_wp2_with fail
  refine (may_any r HM.out HR.out).mono ?_
  rintro e w4 ⟨rfl, hB⟩
  have HB4 := Lib.hid (Below.steps HB3.out hB)
  have HM4 := Lib.hid (HM.out.below hB)
  clear hB HM HB3
  cases r
  · go_wp2_with fail
    go_ret2
    exact ⟨none, 0, 0, by rw [HZ.out]; rfl, by rw [HQ.out]; exact Ml.zero _, HB4.out⟩
  · go_wp2_with fail
    go_ret2
    exact ⟨mo, n, cap, by rw [HZ.out]; rfl, by rw [HQ.out]; exact HM4.out, HB4.out⟩

theorem joinedOr_any (er : Int) (eJ : ∀ args w, (callFunc J args).run Try.prog w = .ok (.enter J args) w) (hJ : Fn2 J f) (hf : ∀ x y : Int, (0 ≤ x ∧ x ≤ 10000) → (0 ≤ y ∧ y ≤ 10000) → in64 (f x y))
    (ha : Ml w a0 la ca xs) (hb : Ml w b0 lc cc ys) :
    Calls Try.prog 31 #[.int .i64 er, .slice a0 la ca, .slice b0 lc cc, .func (.func J) #[] #[]] w (NewME w (joinR f er xs ys).1 (joinR f er xs ys).2) := by
  unfold joinR
  cases hx : mayM 0 xs with
  | false =>
    rw [if_neg (by simp)]
    exact joinedOr_bad1 er ha hx _
  | true =>
    cases hy : mayM 0 ys with
    | false =>
      rw [if_neg (by simp)]
      exact joinedOr_bad2 er ha hb hx hy _
    | true =>
      rw [if_pos ⟨rfl, rfl⟩]
      refine (joinedOr_some er (mayM 0 (joinL f xs ys)) eJ hJ hf ha hb hx hy rfl _ _ rfl rfl).mono ?_
      intro e w' h
      cases hm : mayM 0 (joinL f xs ys) <;> simpa [hm] using h

end

theorem timesFn : Fn2 32 (fun x y => x + y) := by
  intro x y w hx hy
  have h1 := hx.1
  have h2 := hx.2
  have h3 := hy.1
  have h4 := hy.2
  clear hx hy
  go_enter Try.func32, Try.ntmps32
  go_wp2
  go_ret
  exact ⟨rfl, rfl⟩
theorem overFn : Fn2 35 (fun x y => x - y) := by
  intro x y w hx hy
  have h1 := hx.1
  have h2 := hx.2
  have h3 := hy.1
  have h4 := hy.2
  clear hx hy
  go_enter Try.func35, Try.ntmps35
  go_wp2
  go_ret
  exact ⟨rfl, rfl⟩
theorem commonFn : Fn2 41 (fun x y => min x y) := by
  intro x y w hx hy
  have h1 := hx.1
  have h2 := hx.2
  have h3 := hy.1
  have h4 := hy.2
  clear hx hy
  go_enter Try.func41, Try.ntmps41
  go_wp2
  all_goals (go_ret; exact ⟨ret_int (by omega), rfl⟩)
theorem leastFn : Fn2 42 (fun x y => max x y) := by
  intro x y w hx hy
  have h1 := hx.1
  have h2 := hx.2
  have h3 := hy.1
  have h4 := hy.2
  clear hx hy
  go_enter Try.func42, Try.ntmps42
  go_wp2
  all_goals (go_ret; exact ⟨ret_int (by omega), rfl⟩)

section
variable {a0 b0 : Option Addr} {la ca lc cc : Nat} {xs ys : List (Int × Int)} {w : World}

theorem times_any (ha : Ml w a0 la ca xs) (hb : Ml w b0 lc cc ys) :
    Calls Try.prog 11 #[.slice a0 la ca, .slice b0 lc cc] w (NewME w (joinR (fun x y => x + y) 8 xs ys).1 (joinR (fun x y => x + y) 8 xs ys).2) := by
  go_enter Try.func11, Try.ntmps11
  go_wp2_with fail
  refine (joinedOr_any 8 (enters_of Try.func32 (by kernel_rfl) rfl) timesFn (fun x y hx hy => by unfold in64; omega) ha hb).mono ?_
  rintro e w' ⟨ao, n, cap, rfl, hM, hB⟩
  have HM := Lib.hid hM
  have HB := Lib.hid hB
  clear hM hB ha hb
  go_wp2_with fail
  go_ret2
  exact ⟨_, _, _, rfl, HM.out, HB.out⟩
theorem over_any (ha : Ml w a0 la ca xs) (hb : Ml w b0 lc cc ys) :
    Calls Try.prog 13 #[.slice a0 la ca, .slice b0 lc cc] w (NewME w (joinR (fun x y => x - y) 5 xs ys).1 (joinR (fun x y => x - y) 5 xs ys).2) := by
  go_enter Try.func13, Try.ntmps13
  go_wp2_with fail
  refine (joinedOr_any 5 (enters_of Try.func35 (by kernel_rfl) rfl) overFn (fun x y hx hy => by unfold in64; omega) ha hb).mono ?_
  rintro e w' ⟨ao, n, cap, rfl, hM, hB⟩
  have HM := Lib.hid hM
  have HB := Lib.hid hB
  clear hM hB ha hb
  go_wp2_with fail
  go_ret2
  exact ⟨_, _, _, rfl, HM.out, HB.out⟩
theorem common_any (ha : Ml w a0 la ca xs) (hb : Ml w b0 lc cc ys) :
    Calls Try.prog 24 #[.slice a0 la ca, .slice b0 lc cc] w (NewM w (joinL (fun x y => min x y) (orM xs) (orM ys))) := by
  have HY := Lib.hid hb
  clear hb
  go_enter Try.func24, Try.ntmps24
  go_wp2_with fail
  refine (orOne_any ha).mono ?_
  rintro e w1 ⟨xo, n, cap, rfl, hM, hB⟩
  have HX := Lib.hid hM
  have HB1 := Lib.hid hB
  have HY1 := Lib.hid (HY.out.below hB)
  clear hM hB ha HY
  go_wp2_with fail
  refine (orOne_any HY1.out).mono ?_
  rintro e w2 ⟨yo, m, cb, rfl, hM, hB⟩
  have HX2 := Lib.hid (HX.out.below hB)
  have HY2 := Lib.hid hM
  have HB2 := Lib.hid (Below.steps HB1.out hB)
  clear hM hB HX HY1 HB1
  go_wp2_with fail
  refine (joined_any (enters_of Try.func41 (by kernel_rfl) rfl) commonFn (fun x y hx hy => by unfold in64; omega) HX2.out HY2.out (orM_may _) (orM_may _)).mono ?_
  rintro e w3 ⟨mo, k, c, rfl, hM, hB⟩
  have HM := Lib.hid hM
  have HB3 := Lib.hid (Below.steps HB2.out hB)
  clear hM hB HX2 HY2 HB2
  go_wp2_with fail
  go_ret
  exact ⟨_, _, _, rfl, HM.out, HB3.out⟩
theorem least_any (ha : Ml w a0 la ca xs) (hb : Ml w b0 lc cc ys) :
    Calls Try.prog 26 #[.slice a0 la ca, .slice b0 lc cc] w (NewM w (joinL (fun x y => max x y) (orM xs) (orM ys))) := by
  have HY := Lib.hid hb
  clear hb
  go_enter Try.func26, Try.ntmps26
  go_wp2_with fail
  refine (orOne_any ha).mono ?_
  rintro e w1 ⟨xo, n, cap, rfl, hM, hB⟩
  have HX := Lib.hid hM
  have HB1 := Lib.hid hB
  have HY1 := Lib.hid (HY.out.below hB)
  clear hM hB ha HY
  go_wp2_with fail
  refine (orOne_any HY1.out).mono ?_
  rintro e w2 ⟨yo, m, cb, rfl, hM, hB⟩
  have HX2 := Lib.hid (HX.out.below hB)
  have HY2 := Lib.hid hM
  have HB2 := Lib.hid (Below.steps HB1.out hB)
  clear hM hB HX HY1 HB1
  go_wp2_with fail
  refine (joined_any (enters_of Try.func42 (by kernel_rfl) rfl) leastFn (fun x y hx hy => by unfold in64; omega) HX2.out HY2.out (orM_may _) (orM_may _)).mono ?_
  rintro e w3 ⟨mo, k, c, rfl, hM, hB⟩
  have HM := Lib.hid hM
  have HB3 := Lib.hid (Below.steps HB2.out hB)
  clear hM hB HX2 HY2 HB2
  go_wp2_with fail
  go_ret
  exact ⟨_, _, _, rfl, HM.out, HB3.out⟩
end

end Go.Proofs.Ytgalcdfleljliaa

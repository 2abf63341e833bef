/-
  The law MonoParts.
-/
import Derived.Test.YtgalcdfleljliaaMLawP
set_option maxRecDepth 8192
namespace Go.Proofs.Ytgalcdfleljliaa
open Go.RowKit

set_option maxHeartbeats 2000000 in
set_option maxRecDepth 100000 in
theorem monoParts_great {a0 : Option Addr} {la ca : Nat} {xs : List (Int × Int)} {w : World} (ha : Ml w a0 la ca xs) (hg : ([(a0, la, ca)].any fun s => decide (300 < s.2.1)) = true) :
    Calls Try.prog 8 #[.slice a0 la ca] w (RetB (.bool true) w) := by
  have HG := Lib.hid hg
  clear hg
  have HL0 : Hid (AllM w _) := Lib.hid (AllM.mk1 ha)
  have HB0 := Lib.hid (Below.refl w.heap.size w)
  clear ha
  go_enter Try.func8, Try.ntmps8
  go_wp2_with fail
  refine (great7_any [(a0, la, ca)] true (Cells.new _ _ ([(a0, la, ca)].map sliceV) _ rfl) rfl (by simp) HG.out).mono ?_
  rintro e w1 ⟨rfl, hB⟩
  have HL1 := Lib.hid (HL0.out.below (step_alloc hB))
  have HB1 := Lib.hid (Below.steps HB0.out (step_alloc hB))
  clear hB HL0 HB0
  go_wp2_with fail
  refine (known7_any _).mono ?_
  rintro e w2 ⟨rfl, hB⟩
  have HL2 := Lib.hid (HL1.out.below hB)
  have HB2 := Lib.hid (Below.steps HB1.out hB)
  clear hB HL1 HB1
  go_wp2_with fail
  go_ret
  exact ⟨rfl, HB2.out⟩

set_option maxHeartbeats 2000000 in
set_option maxRecDepth 100000 in
theorem monoParts_bad0 {a0 : Option Addr} {la ca : Nat} {xs : List (Int × Int)} {w : World} (ha : Ml w a0 la ca xs) (hx : mayM 0 xs = false) (hg : ([(a0, la, ca)].any fun s => decide (300 < s.2.1)) = false) :
    Calls Try.prog 8 #[.slice a0 la ca] w (RetB (.bool true) w) := by
  have HG := Lib.hid hg
  have HX := Lib.hid hx
  clear hg hx
  have HL0 : Hid (AllM w _) := Lib.hid (AllM.mk1 ha)
  have HB0 := Lib.hid (Below.refl w.heap.size w)
  clear ha
  go_enter Try.func8, Try.ntmps8
  go_wp2_with fail
  refine (great7_any [(a0, la, ca)] false (Cells.new _ _ ([(a0, la, ca)].map sliceV) _ rfl) rfl (by simp) HG.out).mono ?_
  rintro e w1 ⟨rfl, hB⟩
  have HL1 := Lib.hid (HL0.out.below (step_alloc hB))
  have HB1 := Lib.hid (Below.steps HB0.out (step_alloc hB))
  clear hB HL0 HB0
  go_wp2_with fail
  refine (may_any false HL1.out.head HX.out).mono ?_
  rintro e w2 ⟨rfl, hB⟩
  have HL2 := Lib.hid (HL1.out.below hB)
  have HB2 := Lib.hid (Below.steps HB1.out hB)
  clear hB HL1 HB1
  go_wp2_with fail
  refine (known7_any _).mono ?_
  rintro e w3 ⟨rfl, hB⟩
  have HL3 := Lib.hid (HL2.out.below hB)
  have HB3 := Lib.hid (Below.steps HB2.out hB)
  clear hB HL2 HB2
  go_wp2_with fail
  go_ret
  exact ⟨rfl, HB3.out⟩

set_option maxHeartbeats 2000000 in
set_option maxRecDepth 100000 in
theorem monoParts_nil {a0 : Option Addr} {la ca : Nat} {xs : List (Int × Int)} {w : World} (ha : Ml w a0 la ca xs) (hx : mayM 0 xs = true) (hl : la = 0) (hg : ([(a0, la, ca)].any fun s => decide (300 < s.2.1)) = false) :
    Calls Try.prog 8 #[.slice a0 la ca] w (RetB (.bool true) w) := by
  have HG := Lib.hid hg
  have HX := Lib.hid hx
  clear hg hx
  subst hl
  have HL0 : Hid (AllM w _) := Lib.hid (AllM.mk1 ha)
  have HB0 := Lib.hid (Below.refl w.heap.size w)
  clear ha
  go_enter Try.func8, Try.ntmps8
  go_wp2_with fail
  refine (great7_any [(a0, 0, ca)] false (Cells.new _ _ ([(a0, 0, ca)].map sliceV) _ rfl) rfl (by simp) HG.out).mono ?_
  rintro e w1 ⟨rfl, hB⟩
  have HL1 := Lib.hid (HL0.out.below (step_alloc hB))
  have HB1 := Lib.hid (Below.steps HB0.out (step_alloc hB))
  clear hB HL0 HB0
  go_wp2_with fail
  refine (may_any true HL1.out.head HX.out).mono ?_
  rintro e w2 ⟨rfl, hB⟩
  have HL2 := Lib.hid (HL1.out.below hB)
  have HB2 := Lib.hid (Below.steps HB1.out hB)
  clear hB HL1 HB1
  go_wp2_with fail
  refine (known7_any _).mono ?_
  rintro e w3 ⟨rfl, hB⟩
  have HL3 := Lib.hid (HL2.out.below hB)
  have HB3 := Lib.hid (Below.steps HB2.out hB)
  clear hB HL2 HB2
  go_wp2_with fail
  go_ret
  exact ⟨rfl, HB3.out⟩

set_option maxHeartbeats 2000000 in
set_option maxRecDepth 100000 in
theorem monoParts_some {a0 : Option Addr} {la ca : Nat} {xs : List (Int × Int)} {w : World} (ha : Ml w a0 la ca xs) (hx : mayM 0 xs = true) (hl : 0 < la) (hg : ([(a0, la, ca)].any fun s => decide (300 < s.2.1)) = false) :
    Calls Try.prog 8 #[.slice a0 la ca] w (RetB (.bool true) w) := by
  obtain ⟨k, hk⟩ : ∃ k, clsM (orM xs) = k := ⟨_, rfl⟩
  obtain ⟨d, hd⟩ : ∃ d, exE xs k = d := ⟨_, rfl⟩
  have hne : xs ≠ [] := fun e => by have := ha.len; rw [e] at this; simp at this; omega
  obtain ⟨hk2, hd2, hp, hc, he⟩ := parts_plain hx hne k d hk hd
  obtain ⟨rs, hr⟩ : ∃ rs, outM k (orM xs) = rs := ⟨_, rfl⟩
  rw [hr] at hp hc he
  obtain ⟨j, hj⟩ : ∃ j, clsM (orM rs) = j := ⟨_, rfl⟩
  rw [hj] at hc
  have f1 : decide (j < k) = true := decide_eq_true hc
  have f2 : ((la : Int) == 0) = false := by simp; omega
  have hw : ∀ p ∈ [(k, d)], in64 p.1 ∧ in64 p.2 := by intro p hp; simp at hp; subst hp; unfold in64; simp; omega
  clear hne hc hk2 hd2 hl
  have HG := Lib.hid hg
  have HX := Lib.hid hx
  have HK := Lib.hid hk
  have HD := Lib.hid hd
  have HP := Lib.hid hp
  have HE := Lib.hid he
  have HR := Lib.hid hr
  have HJ := Lib.hid hj
  have HW := Lib.hid hw
  clear hg hx hk hd hp he hr hj hw
  have HL0 : Hid (AllM w _) := Lib.hid (AllM.mk1 ha)
  have HB0 := Lib.hid (Below.refl w.heap.size w)
  clear ha
  go_enter Try.func8, Try.ntmps8
  go_wp2_with fail
  refine (great7_any [(a0, la, ca)] false (Cells.new _ _ ([(a0, la, ca)].map sliceV) _ rfl) rfl (by simp) HG.out).mono ?_
  rintro e w1 ⟨rfl, hB⟩
  have HL1 := Lib.hid (HL0.out.below (step_alloc hB))
  have HB1 := Lib.hid (Below.steps HB0.out (step_alloc hB))
  clear hB HL0 HB0
  go_wp2_with fail
  refine (may_any true HL1.out.head HX.out).mono ?_
  rintro e w2 ⟨rfl, hB⟩
  have HL2 := Lib.hid (HL1.out.below hB)
  have HB2 := Lib.hid (Below.steps HB1.out hB)
  clear hB HL1 HB1
  go_wp2_with fail
  refine (class_any HL2.out.head k HK.out).mono ?_
  rintro e w3 ⟨rfl, hB⟩
  have HL3 := Lib.hid (HL2.out.below hB)
  have HB3 := Lib.hid (Below.steps HB2.out hB)
  clear hB HL2 HB2
  go_wp2_with fail
  refine (without_is rs k HL3.out.head HR.out).mono ?_
  rintro e w4 ⟨r0, rn, rc, rfl, hX, hB⟩
  have HL4 := Lib.hid (AllM.cons hX (HL3.out.below hB))
  have HB4 := Lib.hid (Below.steps HB3.out hB)
  clear hX hB HL3 HB3
  go_wp2_with fail
  refine (degree_any HL4.out.tail.head k d HD.out).mono ?_
  rintro e w5 ⟨rfl, hB⟩
  have HL5 := Lib.hid (HL4.out.below hB)
  have HB5 := Lib.hid (Below.steps HB4.out hB)
  clear hB HL4 HB4
  go_wp2_with fail
  refine (one_any (ps := [(k, d)]) (Cells.new _ _ (pcells [(k, d)]) _ rfl) rfl (by simp) HW.out).mono ?_
  rintro e w6 ⟨o0, on, oc, rfl, hX, hB⟩
  have HL6 := Lib.hid (AllM.cons hX (HL5.out.below (step_alloc hB)))
  have HB6 := Lib.hid (Below.steps HB5.out (step_alloc hB))
  clear hX hB HL5 HB5
  go_wp2_with fail
  refine (times_is xs 0 HL6.out.tail.head HL6.out.head HP.out).mono ?_
  rintro e w7 ⟨p0, pn, pc, rfl, hX, hB⟩
  have HL7 := Lib.hid (AllM.cons hX (HL6.out.below hB))
  have HB7 := Lib.hid (Below.steps HB6.out hB)
  clear hX hB HL6 HB6
  go_wp2_with fail
  refine (class_any HL7.out.tail.tail.head j HJ.out).mono ?_
  rintro e w8 ⟨rfl, hB⟩
  have HL8 := Lib.hid (HL7.out.below hB)
  have HB8 := Lib.hid (Below.steps HB7.out hB)
  clear hB HL7 HB7
  go_wp2_with fail
  refine (degree_any HL8.out.tail.tail.head k 0 HE.out).mono ?_
  rintro e w9 ⟨rfl, hB⟩
  have HL9 := Lib.hid (HL8.out.below hB)
  have HB9 := Lib.hid (Below.steps HB8.out hB)
  clear hB HL8 HB8
  go_wp2_with fail
  refine (same7_yes HL9.out.head HL9.out.tail.tail.tail.head rfl).mono ?_
  rintro e w10 ⟨rfl, hB⟩
  have HL10 := Lib.hid (HL9.out.below hB)
  have HB10 := Lib.hid (Below.steps HB9.out hB)
  clear hB HL9 HB9
  go_wp2_with fail
  refine (known7_any _).mono ?_
  rintro e w11 ⟨rfl, hB⟩
  have HL11 := Lib.hid (HL10.out.below hB)
  have HB11 := Lib.hid (Below.steps HB10.out hB)
  clear hB HL10 HB10
  go_wp2_with fail
  go_ret
  exact ⟨rfl, HB11.out⟩

set_option maxHeartbeats 2000000 in
set_option maxRecDepth 100000 in
theorem monoParts_small {a0 : Option Addr} {la ca : Nat} {xs : List (Int × Int)} {w : World} (ha : Ml w a0 la ca xs) (hg : ([(a0, la, ca)].any fun s => decide (300 < s.2.1)) = false) :
    Calls Try.prog 8 #[.slice a0 la ca] w (RetB (.bool true) w) := by
  cases hx : mayM 0 xs with
  | false => exact monoParts_bad0 ha hx hg
  | true =>
    rcases Nat.eq_zero_or_pos la with hl | hl
    · exact monoParts_nil ha hx hl hg
    · exact monoParts_some ha hx hl hg

set_option maxHeartbeats 2000000 in
set_option maxRecDepth 100000 in
theorem monoParts_row {a0 : Option Addr} {la ca : Nat} {xs : List (Int × Int)} {w : World} (ha : Ml w a0 la ca xs) :
    Calls Try.prog 8 #[.slice a0 la ca] w (RetB (.bool true) w) := by
  cases hg : ([(a0, la, ca)].any fun s => decide (300 < s.2.1)) with
  | true => exact monoParts_great ha hg
  | false => exact monoParts_small ha hg

end Go.Proofs.Ytgalcdfleljliaa

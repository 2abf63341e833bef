/-
  The contract of whole.Small.
-/
import Derived.Test.YtponiigpmjnffaaWInt
import Derived.Test.YtponiigpmjnffaaGNatB
import Derived.Deep.Cut
set_option maxRecDepth 8192
namespace Go.Proofs.Ytponiigpmjnffaa
open Go.RowKit

theorem sl_inj {w : World} {ao : Option Addr} {n cap : Nat} {xs ys : List Nat} (h : Sl w ao n cap xs) (h' : Sl w ao n cap ys) : xs = ys := by
  refine List.ext_getElem (by rw [h.len, h'.len]) fun t h1 h2 => ?_
  have ht : t < n := by rw [← h.len]; exact h1
  cases hao : ao with
  | none => have := h.nil hao; have := h.le; omega
  | some ad =>
    have e1 := h.cells ad hao t ht
    rw [h'.cells ad hao t ht] at e1
    simp only [Option.some.injEq, Value.int.injEq, true_and] at e1
    have e2 : ys.getD t 0 = xs.getD t 0 := by omega
    simpa [List.getD, h1, h2] using e2.symm

set_option maxHeartbeats 4000000 in
theorem wsmall_long {m : Bool} {ao : Option Addr} {n cap : Nat} {x : Int} {w : World} (hx : Nx w m ao n cap x) (h : ∀ xs, Sl w ao n cap xs → 2 < nl xs) :
    Calls Try.prog 29 #[.agg #[.bool m, .slice ao n cap]] w (RetB (.tuple #[.int .i64 0, .bool false]) w) := by
  obtain ⟨⟨xs, hs, hz⟩, hle⟩ := hx
  have hl := h xs hs
  go_enter Try.func29, Try.ntmps29
  go_upto_region 1 with (fail)
  refine wp_world (fun W hW => ?_)
  have HB0 : Hid (Below w.heap.size w W) := by rw [hW]; exact below_alloc _ _
  have hbx_bx : Box W (w.heap.size) m ao n cap := by rw [hW]; exact Box.new _ _ _ _ _ _ _ (by simp)
  have HK0 := Lib.hid (Live.add_sl (hs.below HB0.out) (Live.add_box hbx_bx (Live.nil W)))
  clear hW hbx_bx
  have bx_c0 := HK0.out.tail.box.c0
  have bx_c1 := HK0.out.tail.box.c1
  have bx_f0 := HK0.out.tail.box.f0
  have bx_f1 := HK0.out.tail.box.f1
  go_wp2_with fail
  refine (word_long _ _ _ _ _ HK0.out.sl hl).mono ?_
  rintro e w' ⟨rfl, rfl⟩
  go_wp2_with fail
  all_goals (go_ret2; exact ⟨rfl, HB0.out⟩)

set_option maxHeartbeats 4000000 in
theorem wsmall_p {ao : Option Addr} {n cap : Nat} {x : Int} {w : World} (hx : Nx w false ao n cap x) (h : x ≤ 9223372036854775807) (h64 : ∀ xs, Sl w ao n cap xs → val xs < 18446744073709551616) :
    Calls Try.prog 29 #[.agg #[.bool false, .slice ao n cap]] w (RetB (.tuple #[.int .i64 (x), .bool true]) w) := by
  obtain ⟨⟨xs, hs, hz⟩, hle⟩ := hx
  obtain ⟨v, hv⟩ : ∃ v, v = val xs := ⟨_, rfl⟩
  rw [← hv] at hz
  have HV := Lib.hid hv.symm
  have hv64 : v < 18446744073709551616 := by rw [hv]; exact h64 xs hs
  have HN : Hid (nl xs ≤ 2) := nl_short (h64 xs hs)
  unfold zOf at hz
  simp at hz
  clear hv h64
  subst hz
  have hv2 : v ≤ 9223372036854775807 := by omega
  have d : decide (9223372036854775807 < v) = false := by simp; omega
  have HZ : Hid True := trivial
  clear h
  go_enter Try.func29, Try.ntmps29
  go_upto_region 1 with (fail)
  refine wp_world (fun W hW => ?_)
  have HB0 : Hid (Below w.heap.size w W) := by rw [hW]; exact below_alloc _ _
  have hbx_bx : Box W (w.heap.size) false ao n cap := by rw [hW]; exact Box.new _ _ _ _ _ _ _ (by simp)
  have HK0 := Lib.hid (Live.add_sl (hs.below HB0.out) (Live.add_box hbx_bx (Live.nil W)))
  clear hW hbx_bx
  have bx_c0 := HK0.out.tail.box.c0
  have bx_c1 := HK0.out.tail.box.c1
  have bx_f0 := HK0.out.tail.box.f0
  have bx_f1 := HK0.out.tail.box.f1
  go_wp2_with fail
  refine (word_is v _ _ _ _ _ HK0.out.sl HN.out HV.out).mono ?_
  rintro e w' ⟨rfl, rfl⟩
  go_wp2_with fail
  all_goals (go_ret2; exact ⟨rfl, HB0.out⟩)

set_option maxHeartbeats 4000000 in
theorem wsmall_n {ao : Option Addr} {n cap : Nat} {x : Int} {w : World} (hx : Nx w true ao n cap x) (h : -9223372036854775808 ≤ x) (h64 : ∀ xs, Sl w ao n cap xs → val xs < 18446744073709551616) :
    Calls Try.prog 29 #[.agg #[.bool true, .slice ao n cap]] w (RetB (.tuple #[.int .i64 (x), .bool true]) w) := by
  obtain ⟨⟨xs, hs, hz⟩, hle⟩ := hx
  obtain ⟨v, hv⟩ : ∃ v, v = val xs := ⟨_, rfl⟩
  rw [← hv] at hz
  have HV := Lib.hid hv.symm
  have hv64 : v < 18446744073709551616 := by rw [hv]; exact h64 xs hs
  have HN : Hid (nl xs ≤ 2) := nl_short (h64 xs hs)
  unfold zOf at hz
  simp at hz
  clear hv h64
  subst hz
  have hv2 : v ≤ 9223372036854775808 := by omega
  have d : decide (9223372036854775808 < v) = false := by simp; omega
  obtain ⟨u, hu1, hu2⟩ : ∃ u, IntKind.u64.wrap (-((v : Nat) : Int)) = u ∧ IntKind.i64.wrap u = -((v : Nat) : Int) := ⟨_, rfl, by unfold IntKind.wrap; simp [IntKind.signed, IntKind.bits]; omega⟩
  clear h
  go_enter Try.func29, Try.ntmps29
  go_upto_region 1 with (fail)
  refine wp_world (fun W hW => ?_)
  have HB0 : Hid (Below w.heap.size w W) := by rw [hW]; exact below_alloc _ _
  have hbx_bx : Box W (w.heap.size) true ao n cap := by rw [hW]; exact Box.new _ _ _ _ _ _ _ (by simp)
  have HK0 := Lib.hid (Live.add_sl (hs.below HB0.out) (Live.add_box hbx_bx (Live.nil W)))
  clear hW hbx_bx
  have bx_c0 := HK0.out.tail.box.c0
  have bx_c1 := HK0.out.tail.box.c1
  have bx_f0 := HK0.out.tail.box.f0
  have bx_f1 := HK0.out.tail.box.f1
  go_wp2_with fail
  refine (word_is v _ _ _ _ _ HK0.out.sl HN.out HV.out).mono ?_
  rintro e w' ⟨rfl, rfl⟩
  go_wp2_with fail
  all_goals (go_ret2; exact ⟨rfl, HB0.out⟩)

set_option maxHeartbeats 4000000 in
theorem wsmall_bp {ao : Option Addr} {n cap : Nat} {x : Int} {w : World} (hx : Nx w false ao n cap x) (h : 9223372036854775807 < x) (h64 : ∀ xs, Sl w ao n cap xs → val xs < 18446744073709551616) :
    Calls Try.prog 29 #[.agg #[.bool false, .slice ao n cap]] w (RetB (.tuple #[.int .i64 0, .bool false]) w) := by
  obtain ⟨⟨xs, hs, hz⟩, hle⟩ := hx
  obtain ⟨v, hv⟩ : ∃ v, v = val xs := ⟨_, rfl⟩
  rw [← hv] at hz
  have HV := Lib.hid hv.symm
  have hv64 : v < 18446744073709551616 := by rw [hv]; exact h64 xs hs
  have HN : Hid (nl xs ≤ 2) := nl_short (h64 xs hs)
  unfold zOf at hz
  simp at hz
  clear hv h64
  subst hz
  have d : decide (9223372036854775807 < ((v : Nat) : Int)) = true := by simp; omega
  clear h
  go_enter Try.func29, Try.ntmps29
  go_upto_region 1 with (fail)
  refine wp_world (fun W hW => ?_)
  have HB0 : Hid (Below w.heap.size w W) := by rw [hW]; exact below_alloc _ _
  have hbx_bx : Box W (w.heap.size) false ao n cap := by rw [hW]; exact Box.new _ _ _ _ _ _ _ (by simp)
  have HK0 := Lib.hid (Live.add_sl (hs.below HB0.out) (Live.add_box hbx_bx (Live.nil W)))
  clear hW hbx_bx
  have bx_c0 := HK0.out.tail.box.c0
  have bx_c1 := HK0.out.tail.box.c1
  have bx_f0 := HK0.out.tail.box.f0
  have bx_f1 := HK0.out.tail.box.f1
  go_wp2_with fail
  refine (word_is v _ _ _ _ _ HK0.out.sl HN.out HV.out).mono ?_
  rintro e w' ⟨rfl, rfl⟩
  go_wp2_with fail
  all_goals (go_ret2; exact ⟨rfl, HB0.out⟩)

set_option maxHeartbeats 4000000 in
theorem wsmall_bn {ao : Option Addr} {n cap : Nat} {x : Int} {w : World} (hx : Nx w true ao n cap x) (h : x < -9223372036854775808) (h64 : ∀ xs, Sl w ao n cap xs → val xs < 18446744073709551616) :
    Calls Try.prog 29 #[.agg #[.bool true, .slice ao n cap]] w (RetB (.tuple #[.int .i64 0, .bool false]) w) := by
  obtain ⟨⟨xs, hs, hz⟩, hle⟩ := hx
  obtain ⟨v, hv⟩ : ∃ v, v = val xs := ⟨_, rfl⟩
  rw [← hv] at hz
  have HV := Lib.hid hv.symm
  have hv64 : v < 18446744073709551616 := by rw [hv]; exact h64 xs hs
  have HN : Hid (nl xs ≤ 2) := nl_short (h64 xs hs)
  unfold zOf at hz
  simp at hz
  clear hv h64
  subst hz
  have d : decide (9223372036854775808 < ((v : Nat) : Int)) = true := by simp; omega
  clear h
  go_enter Try.func29, Try.ntmps29
  go_upto_region 1 with (fail)
  refine wp_world (fun W hW => ?_)
  have HB0 : Hid (Below w.heap.size w W) := by rw [hW]; exact below_alloc _ _
  have hbx_bx : Box W (w.heap.size) true ao n cap := by rw [hW]; exact Box.new _ _ _ _ _ _ _ (by simp)
  have HK0 := Lib.hid (Live.add_sl (hs.below HB0.out) (Live.add_box hbx_bx (Live.nil W)))
  clear hW hbx_bx
  have bx_c0 := HK0.out.tail.box.c0
  have bx_c1 := HK0.out.tail.box.c1
  have bx_f0 := HK0.out.tail.box.f0
  have bx_f1 := HK0.out.tail.box.f1
  go_wp2_with fail
  refine (word_is v _ _ _ _ _ HK0.out.sl HN.out HV.out).mono ?_
  rintro e w' ⟨rfl, rfl⟩
  go_wp2_with fail
  all_goals (go_ret2; exact ⟨rfl, HB0.out⟩)

theorem wsmall_yes {m : Bool} {ao : Option Addr} {n cap : Nat} {x : Int} {w : World} (hx : Nx w m ao n cap x) (h : -9223372036854775808 ≤ x ∧ x ≤ 9223372036854775807) :
    Calls Try.prog 29 #[.agg #[.bool m, .slice ao n cap]] w (RetB (.tuple #[.int .i64 x, .bool true]) w) := by
  have h64 : ∀ xs, Sl w ao n cap xs → val xs < 18446744073709551616 := by
    intro ys hys
    obtain ⟨xs, hs, hz⟩ := hx.inn
    obtain rfl := sl_inj hs hys
    have := zOf_abs m (val xs)
    rw [hz] at this
    omega
  cases m
  · exact wsmall_p hx h.2 h64
  · exact wsmall_n hx h.1 h64

theorem wsmall_no {m : Bool} {ao : Option Addr} {n cap : Nat} {x : Int} {w : World} (hx : Nx w m ao n cap x) (h : ¬(-9223372036854775808 ≤ x ∧ x ≤ 9223372036854775807)) :
    Calls Try.prog 29 #[.agg #[.bool m, .slice ao n cap]] w (RetB (.tuple #[.int .i64 0, .bool false]) w) := by
  obtain ⟨xs, hs, hz⟩ := hx.inn
  by_cases h64 : val xs < 18446744073709551616
  · have h642 : ∀ xs, Sl w ao n cap xs → val xs < 18446744073709551616 := fun ys hys => by rw [← sl_inj hs hys]; exact h64
    cases m
    · refine wsmall_bp hx ?_ h642
      unfold zOf at hz; simp at hz; omega
    · refine wsmall_bn hx ?_ h642
      unfold zOf at hz; simp at hz; omega
  · exact wsmall_long hx fun ys hys => by rw [← sl_inj hs hys]; exact nl_long hs.wf (by omega)

end Go.Proofs.Ytponiigpmjnffaa

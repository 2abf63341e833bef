/-
  The contract of whole.May.
-/
import Derived.Test.YtponiigpmjnffaaWInt
import Derived.Deep.Cut
set_option maxRecDepth 8192
namespace Go.Proofs.Ytponiigpmjnffaa
open Go.RowKit

/-- is it canonical? -/
def mayB (m : Bool) (n : Nat) (xs : List Nat) : Bool := if n = 0 then !m else decide (xs.getD (n - 1) 0 ≠ 0)

set_option maxHeartbeats 4000000 in
theorem wmay_z {m : Bool} {ao : Option Addr} {cap : Nat} {xs : List Nat} {w : World} (r : Bool) (hs : Sl w ao 0 cap xs) (h : mayB m 0 xs = r) :
    Calls Try.prog 27 #[.agg #[.bool m, .slice ao 0 cap]] w (RetB (.bool r) w) := by
  have hbig := hs.big
  obtain rfl : r = !m := by rw [← h]; unfold mayB; rw [if_pos rfl]
  go_enter Try.func27, Try.ntmps27
  go_upto_region 1 with (fail)
  refine wp_world (fun W hW => ?_)
  have HB0 : Hid (Below w.heap.size w W) := by rw [hW]; exact below_alloc _ _
  have hbx_bx : Box W (w.heap.size) m ao 0 cap := by rw [hW]; exact Box.new _ _ _ _ _ _ _ (by simp)
  have HK0 := Lib.hid (Live.add_box hbx_bx (Live.nil W))
  clear hW hbx_bx
  have bx_c0 := HK0.out.box.c0
  have bx_c1 := HK0.out.box.c1
  have bx_f0 := HK0.out.box.f0
  have bx_f1 := HK0.out.box.f1
  go_wp2_with fail
  go_ret
  exact ⟨rfl, HB0.out⟩

set_option maxHeartbeats 4000000 in
theorem wmay_p {m : Bool} {ao : Option Addr} {n cap : Nat} {xs : List Nat} {w : World} (r : Bool) (hs : Sl w ao n cap xs) (h : mayB m n xs = r) (h0 : 0 < n) :
    Calls Try.prog 27 #[.agg #[.bool m, .slice ao n cap]] w (RetB (.bool r) w) := by
  have hbig := hs.big
  obtain ⟨b, off, rfl, hbb, hcell⟩ := hs.at (by omega)
  obtain ⟨j, rfl⟩ : ∃ j, n = j + 1 := ⟨n - 1, by omega⟩
  have hc := hcell j (by omega)
  obtain ⟨u, hu⟩ : ∃ u, u = xs.getD j 0 := ⟨_, rfl⟩
  rw [← hu] at hc
  have hr : (((u : Nat) : Int) != 0) = r := by
    rw [← h]; unfold mayB; rw [if_neg (by omega), Nat.add_sub_cancel, ← hu]
    rw [Bool.eq_iff_iff]; simp
  have hz : ((((j + 1 : Nat)) : Int) == 0) = false := by simp; omega
  have ej : (((j + 1 : Nat)) : Int) - 1 = (j : Int) := by omega
  clear hcell hu h
  go_enter Try.func27, Try.ntmps27
  go_upto_region 1 with (fail)
  refine wp_world (fun W hW => ?_)
  have HB0 : Hid (Below w.heap.size w W) := by rw [hW]; exact below_alloc _ _
  have hbx_bx : Box W (w.heap.size) m (some ⟨b, off, none⟩) (j + 1) cap := by rw [hW]; exact Box.new _ _ _ _ _ _ _ (by simp)
  have HK0 := Lib.hid (Live.add_box hbx_bx (Live.nil W))
  clear hW hbx_bx
  have bx_c0 := HK0.out.box.c0
  have bx_c1 := HK0.out.box.c1
  have bx_f0 := HK0.out.box.f0
  have bx_f1 := HK0.out.box.f1
  have hcW : W.cell? ⟨b, off + j, none⟩ = some (.int .u32 ((u : Nat) : Int)) := (HB0.out.cell (by exact hbb)).trans hc
  go_wp2_with fail
  go_ret
  exact ⟨rfl, HB0.out⟩

theorem wmay_is {m : Bool} {ao : Option Addr} {n cap : Nat} {xs : List Nat} {w : World} (r : Bool) (hs : Sl w ao n cap xs) (h : mayB m n xs = r) :
    Calls Try.prog 27 #[.agg #[.bool m, .slice ao n cap]] w (RetB (.bool r) w) := by
  rcases Nat.eq_zero_or_pos n with h0 | h0
  · subst h0; exact wmay_z r hs h
  · exact wmay_p r hs h h0

theorem last_pos (xs : List Nat) (k : Nat) (h : trimL xs = xs) (hk : xs.length = k + 1) : xs.getD k 0 ≠ 0 := by
  intro e
  have h1 := take_succ_getD xs k (by omega)
  rw [take_all xs (k + 1) hk, e] at h1
  have h2 := congrArg trimL h1
  rw [trimL_append_zero] at h2
  have h3 := nl_le (xs.take k)
  unfold nl at h3
  rw [← h2, h, List.length_take] at h3
  omega

theorem mayB_can {w : World} {m : Bool} {ao : Option Addr} {n cap : Nat} {x : Int} (h : Cn w m ao n cap x) : mayB m n (limbs x.natAbs) = true := by
  unfold mayB
  split
  · rename_i h0
    have h1 := h.sl.len
    rw [h0] at h1
    have h2 : limbs x.natAbs = [] := List.eq_nil_of_length_eq_zero h1
    have h3 := val_limbs x.natAbs
    rw [h2, val_nil] at h3
    rw [h.neg]
    simp
    omega
  · rename_i h0
    obtain ⟨j, rfl⟩ : ∃ j, n = j + 1 := ⟨n - 1, by omega⟩
    simpa using last_pos (limbs x.natAbs) j (canon_limbs _) h.sl.len

theorem wmay_can {m : Bool} {ao : Option Addr} {n cap : Nat} {x : Int} {w : World} (h : Cx w m ao n cap x) :
    Calls Try.prog 27 #[.agg #[.bool m, .slice ao n cap]] w (RetB (.bool true) w) := wmay_is true h.cn.sl (mayB_can h.cn)

end Go.Proofs.Ytponiigpmjnffaa

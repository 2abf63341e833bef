/-
  The contract of porismref04.Pow.
-/
import Derived.Test.YtponiigpmjnffaaWZOf
import Derived.Test.YtponiigpmjnffaaWZMul
import Derived.Deep.Cut
import Derived.Deep.LoopGhost
set_option maxRecDepth 8192
namespace Go.Proofs.Ytponiigpmjnffaa
open Go.RowKit

theorem Bd.pow {x : Int} {k : Nat} (h : Bd x k) (j : Nat) : Bd (x ^ j) (k * j + 1) := by
  unfold Bd at *
  rw [Int.natAbs_pow]
  rcases Nat.eq_zero_or_pos j with h0 | h0
  · subst h0
    rw [Nat.pow_zero]
    exact Nat.one_lt_pow (by omega) (by omega)
  · refine Nat.lt_of_lt_of_le (Nat.pow_lt_pow_left h (by omega)) ?_
    rw [← Nat.pow_mul]
    exact Nat.pow_le_pow_right (by omega) (by omega)

/-- What the loop of porismref04.Pow holds. -/
structure ZPowInv (x : Int) (w : World) (b : Nat) (m : Bool) (ao : Option Addr) (n cap : Nat) (j : Nat) (rm : Bool) (r0 : Option Addr) (rn rc : Nat) (wr : World) : Prop where
  arg : Zx wr m ao n cap x
  box : Box wr w.heap.size m ao n cap
  res : Box wr (w.heap.size + 1) false none 0 0
  out : Box wr b rm r0 rn rc
  val : Zx wr rm r0 rn rc (x ^ j)
  far : w.heap.size + 2 ≤ b
  below : Below w.heap.size w wr

set_option maxHeartbeats 4000000 in
theorem zpow_any (N : Nat) {k0 : Nat} {m : Bool} {ao : Option Addr} {n cap : Nat} {x : Int} {w : World} (hx : Zx w m ao n cap x) (hb : Bd x k0) (hk : k0 * N + 1 ≤ 100000) (hN : N ≤ 1000) :
    Calls Try.prog 37 #[.agg #[.bool m, .slice ao n cap], .int .i64 (N : Int)] w (NewZ w (x ^ N)) := by
  have HBD := Lib.hid hb
  clear hb
  go_enter Try.func37, Try.ntmps37
  go_upto_region 1 with (fail)
  refine wp_world (fun W hW => ?_)
  have HB0 : Hid (Below w.heap.size w W) := by rw [hW]; exact step_alloc (below_alloc _ _)
  have hbx_bx : Box W (w.heap.size) m ao n cap := by rw [hW]; exact (Box.new _ _ _ _ _ _ _ (by simp)).below (below_alloc _ _)
  have hbx_br : Box W (w.heap.size + 1) false none 0 0 := by rw [hW]; exact Box.new _ _ _ _ _ _ _ (by simp)
  have HK0 := Lib.hid (Live.add_zed (hx.below HB0.out) (Live.add_box hbx_bx (Live.add_box hbx_br (Live.nil W))))
  clear hW hbx_bx hbx_br
  have bx_c0 := HK0.out.tail.box.c0
  have bx_c1 := HK0.out.tail.box.c1
  have bx_f0 := HK0.out.tail.box.f0
  have bx_f1 := HK0.out.tail.box.f1
  have br_c0 := HK0.out.tail.tail.box.c0
  have br_c1 := HK0.out.tail.tail.box.c1
  have br_f0 := HK0.out.tail.tail.box.f0
  have br_f1 := HK0.out.tail.tail.box.f1
  go_wp2_with fail
  refine (zsmall_any 1 _ (by omega)).mono ?_
  rintro e w1 ⟨rm, r0, rn, rc, rfl, hX, hB⟩
  have hO : Box (w1.alloc (.cells #[.bool rm, .slice r0 rn rc] 31)) w1.heap.size rm r0 rn rc := Box.new _ _ _ _ _ _ _ rfl
  have hV : Zx w1 rm r0 rn rc (x ^ 0) := by
    have h1 : Bd (1 : Int) 1 := by unfold Bd; omega
    rw [Int.pow_zero]
    exact hX.zx h1 (by omega)
  have HI0 : Hid (ZPowInv x w w1.heap.size m ao n cap 0 rm r0 rn rc (w1.alloc (.cells #[.bool rm, .slice r0 rn rc] 31))) :=
    ⟨(HK0.out.zed.below hB).below (below_alloc _ _), (HK0.out.tail.box.below hB).below (below_alloc _ _), (HK0.out.tail.tail.box.below hB).below (below_alloc _ _), hO, hV.below (below_alloc _ _), by have := (HK0.out.tail.tail.box.below hB).lt; omega, Below.steps (Below.steps HB0.out hB) (below_alloc _ _)⟩
  clear bx_c0 bx_c1 bx_f0 bx_f1 br_c0 br_c1 br_f0 br_f1
  clear hO hV hX hB HK0 HB0
  go_wp2_with fail
  obtain ⟨b, hbe⟩ : ∃ b, b = w1.heap.size := ⟨_, rfl⟩
  go_loopg [6] N (fun g i wr => ∃ (j : Nat) (rm : Bool) (r0 : Option Addr) (rn rc : Nat), i = .int .i64 ((j : Nat) : Int) ∧ j ≤ N ∧ Hid (N - j = g) ∧ Hid (ZPowInv x w w1.heap.size m ao n cap j rm r0 rn rc wr))
  case atStart => exact ⟨0, _, _, _, _, rfl, Nat.zero_le _, Nat.sub_zero _, HI0⟩
  case round =>
    clear HI0
    obtain ⟨j, um, u0, un, uc, rfl, hj, HG, HI⟩ := hrel
    obtain ⟨wo, rfl⟩ : ∃ wo : World, wo = wr := ⟨_, rfl⟩
    have ob_c0 := HI.out.out.c0
    have ob_c1 := HI.out.out.c1
    have ob_f0 := HI.out.out.f0
    have ob_f1 := HI.out.out.f1
    have bx_c0 := HI.out.box.c0
    have bx_c1 := HI.out.box.c1
    have br_c0 := HI.out.res.c0
    have br_c1 := HI.out.res.c1
    have br_f0 := HI.out.res.f0
    have br_f1 := HI.out.res.f1
    by_cases hlt : j < N
    · have d1 : decide (j < N) = true := by simpa using hlt
      have HJB : Hid (Bd (x ^ (j + 1)) 100000) := (HBD.out.pow (j + 1)).mono (by have h8 := Nat.mul_le_mul_left k0 (show j + 1 ≤ N from hlt); omega)
      go_wp2_with fail
      refine (zmul_any HI.out.val HI.out.arg).mono ?_
      rintro e w2 ⟨vm, v0, vn, vc, rfl, hX, hB⟩
      rw [← Int.pow_succ] at hX
      have hV := hX.zx HJB.out (by omega)
      have ho2 := HI.out.out.below hB
      have hx2 := HI.out.box.below hB
      have hr2 := HI.out.res.below hB
      have hne1 : w1.heap.size ≠ w.heap.size := by have := HI.out.far; omega
      have hne2 : w1.heap.size ≠ w.heap.size + 1 := by have := HI.out.far; omega
      have HJ : Hid (ZPowInv x w w1.heap.size m ao n cap (j + 1) vm v0 vn vc ((w2.setCell ⟨w1.heap.size, 0, none⟩ (.bool vm)).setCell ⟨w1.heap.size, 1, none⟩ (.slice v0 vn vc))) :=
        ⟨⟨(HI.out.arg.below hB).zd.set2 ho2 _ _, HI.out.arg.le⟩, hx2.far hne1 _ _, hr2.far hne2 _ _, ho2.set _ _ _ _, ⟨hV.zd.set2 ho2 _ _, hV.le⟩, HI.out.far, below_set2 (Below.steps HI.out.below hB) (by have := HI.out.far; omega) _ _⟩
      clear ob_c0 ob_c1 ob_f0 ob_f1 bx_c0 bx_c1 br_c0 br_c1 br_f0 br_f1
      have ob_c0 := ho2.c0
      have ob_c1 := ho2.c1
      have ob_f0 := ho2.f0
      have ob_f1 := ho2.f1
      clear hX hV hx2 hr2 ho2 hB hne1 hne2
      go_wp2_with fail
      go_roundg (N - (j + 1))
      case measure => have := HG.out; omega
      case rel => exact ⟨j + 1, _, _, _, _, by go_num, hlt, rfl, HJ⟩
    · obtain rfl : j = N := by omega
      have d1 : decide (j < j) = false := by simp
      go_wp2_with fail
      refine bodyPost_ret (v := .agg #[.bool um, .slice u0 un uc]) (by simp [results, Try.results37, go_sem, br_c0, br_c1]) rfl ?_
      exact ⟨_, _, _, _, rfl, HI.out.val.zd.set2 HI.out.res _ _, below_set2 HI.out.below (by omega) _ _⟩

end Go.Proofs.Ytponiigpmjnffaa

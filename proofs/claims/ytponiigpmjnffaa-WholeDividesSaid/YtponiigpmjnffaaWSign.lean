/-
  The contracts of whole.signed, of the function that it answers, of whole.Neg and whole.Sign.
-/
import Derived.Test.YtponiigpmjnffaaWInt
import Derived.Test.YtponiigpmjnffaaGNatA
import Derived.Test.YtponiigpmjnffaaGNatB
import Derived.Deep.Cut
set_option maxRecDepth 8192
namespace Go.Proofs.Ytponiigpmjnffaa
open Go.RowKit

/-- what whole.signed leaves: a function bound to a variable that holds the sign -/
def NewF (w : World) (neg : Bool) (e : Ending) (w' : World) : Prop :=
  ∃ b, e = .returned (.func (.func 63) #[] #[.pointer (some ⟨b, 0, none⟩)]) ∧ w.heap.size ≤ b ∧ b < w'.heap.size ∧ w'.cell? ⟨b, 0, none⟩ = some (.bool neg) ∧ Below w.heap.size w w'

theorem signed_any (neg : Bool) (w : World) : Calls Try.prog 41 #[.bool neg] w (NewF w neg) := by
  have hmf : ∀ (fn : Fn) (first cap : Array Value) (w : World), (Instr.makeFunc fn first cap).run Try.prog w = .ok (.func fn first cap) w := fun _ _ _ _ => rfl
  go_enter Try.func41, Try.ntmps41
  go_wp2_with fail
  go_ret
  exact ⟨_, rfl, Nat.le_refl _, by simp, by simp [go_sem], below_alloc _ _⟩

set_option maxHeartbeats 1000000 in
theorem close_any (neg : Bool) (b : Nat) (ao : Option Addr) (n cap v : Nat) (w : World) (hb : w.cell? ⟨b, 0, none⟩ = some (.bool neg)) (ha : Sl w ao n cap (limbs v)) :
    Calls Try.prog 63 #[.slice ao n cap, .pointer (some ⟨b, 0, none⟩)] w (NewI w (zOf neg v)) := by
  have hbig := ha.big
  have hlt : b < w.heap.size := by simpa using World.block_lt_of_cell? w _ hb
  have HA := Lib.hid ha
  clear ha
  cases neg
  · go_enter Try.func63, Try.ntmps63
    go_wp2_with fail
    refine bodyPost_ret (v := .agg #[.bool false, .slice ao n cap]) (by simp [results, Try.results63, go_sem]) rfl ?_
    exact ⟨_, _, _, _, rfl, Cn.of (HA.out.alloc _) rfl, below_alloc _ _⟩
  · go_enter Try.func63, Try.ntmps63
    go_wp2_with fail
    refine bodyPost_ret (v := .agg #[.bool (decide (0 < n)), .slice ao n cap]) (by simp [results, Try.results63, go_sem]) rfl ?_
    exact ⟨_, _, _, _, rfl, Cn.of (HA.out.alloc _) (by simp), below_alloc _ _⟩

set_option maxHeartbeats 4000000 in
theorem wneg_any {m : Bool} {ao : Option Addr} {n cap : Nat} {x : Int} {w : World} (hx : Nx w m ao n cap x) :
    Calls Try.prog 21 #[.agg #[.bool m, .slice ao n cap]] w (NewI w (-x)) := by
  obtain ⟨⟨xs, hs, hz⟩, hle⟩ := hx
  have HZ : Hid (zOf (!m) (val xs) = -x) := by rw [Hid, zOf_not, hz]
  clear hz
  go_enter Try.func21, Try.ntmps21
  go_upto_region 1 with (fail)
  refine wp_world (fun W hW => ?_)
  have HB0 : Hid (Below w.heap.size w W) := by rw [hW]; exact step_alloc (below_alloc _ _)
  have hbx_bx : Box W (w.heap.size) m ao n cap := by rw [hW]; exact (Box.new _ _ _ _ _ _ _ (by simp)).below (below_alloc _ _)
  have hbx_br : Box W (w.heap.size + 1) false none 0 0 := by rw [hW]; exact Box.new _ _ _ _ _ _ _ (by simp)
  have HK0 := Lib.hid (Live.add_sl (hs.below HB0.out) (Live.add_box hbx_bx (Live.add_box hbx_br (Live.nil W))))
  clear hW hbx_bx hbx_br
  have bx_c0 := HK0.out.tail.box.c0
  have bx_c1 := HK0.out.tail.box.c1
  have bx_f0 := HK0.out.tail.box.f0
  have bx_f1 := HK0.out.tail.box.f1
  have br_c0 := HK0.out.tail.tail.box.c0
  have br_c1 := HK0.out.tail.tail.box.c1
  have br_f0 := HK0.out.tail.tail.box.f0
  have br_f1 := HK0.out.tail.tail.box.f1
  have HK0d := Lib.hid (HK0.out.below ((Below.refl _ _).drew))
  have HB0d := Lib.hid HB0.out.drew
  clear bx_c0 bx_c1 bx_f0 bx_f1 br_c0 br_c1 br_f0 br_f1
  clear HK0 HB0
  have HK0 := Lib.hid HK0d.out
  have HB0 := Lib.hid HB0d.out
  clear HK0d HB0d
  have bx_c0 := HK0.out.tail.box.c0
  have bx_c1 := HK0.out.tail.box.c1
  have bx_f0 := HK0.out.tail.box.f0
  have bx_f1 := HK0.out.tail.box.f1
  have br_c0 := HK0.out.tail.tail.box.c0
  have br_c1 := HK0.out.tail.tail.box.c1
  have br_f0 := HK0.out.tail.tail.box.f0
  have br_f1 := HK0.out.tail.tail.box.f1
  have tok0 : True := trivial
  have KS0 := Lib.hid (And.intro HK0.out.tail.box.c0 (HK0.out.tail.box.c1))
  go_region_held3 (fun w' => w'.cell? ⟨w.heap.size, 0, none⟩ = some (.bool m) ∧ w'.cell? ⟨w.heap.size, 1, none⟩ = some (.slice ao n cap))
    (first | exact KS3.out | exact KS2.out | exact KS1.out | exact KS0.out | exact (And.intro ((cell_set2 (fun e => by have e2 : w.heap.size = w.heap.size + 1 := e; omega) _ _).trans bx_c0) ((cell_set2 (fun e => by have e2 : w.heap.size = w.heap.size + 1 := e; omega) _ _).trans bx_c1)) | go_keep)
    (first
      | (have _t := tok0; clear _t tok0; go_at_call 41; go_must (with_reducible refine (signed_any _ _).mono ?_); rintro e w1 ⟨b, rfl, hb1, hb2, hbc, hB⟩; have HK1 := Lib.hid (Live.add_fn hb2 hbc (HK0.out.below hB)); have HB1 := Lib.hid (Below.steps HB0.out hB); clear bx_c0 bx_c1 bx_f0 bx_f1 br_c0 br_c1 br_f0 br_f1; clear HK0 HB0 hb1 hbc hB; have bx_c0 := HK1.out.tail.tail.box.c0; have bx_c1 := HK1.out.tail.tail.box.c1; have bx_f0 := HK1.out.tail.tail.box.f0; have bx_f1 := HK1.out.tail.tail.box.f1; have br_c0 := HK1.out.tail.tail.tail.box.c0; have br_c1 := HK1.out.tail.tail.tail.box.c1; have br_f0 := HK1.out.tail.tail.tail.box.f0; have br_f1 := HK1.out.tail.tail.tail.box.f1; have KS1 := Lib.hid (And.intro HK1.out.tail.tail.box.c0 (HK1.out.tail.tail.box.c1)); have tok1 : True := trivial)
      | (have _t := tok1; clear _t tok1; go_at_call 51; go_must (with_reducible refine (trim_new _ _ _ _ _ HK1.out.tail.sl).mono ?_); rintro e w2 ⟨t0, tn, tc, rfl, hT, hB⟩; have HK2 := Lib.hid (Live.add_sl hT.sl (HK1.out.below hB)); have HB2 := Lib.hid (Below.steps HB1.out hB); clear bx_c0 bx_c1 bx_f0 bx_f1 br_c0 br_c1 br_f0 br_f1; clear HK1 HB1 hT hB; have bx_c0 := HK2.out.tail.tail.tail.box.c0; have bx_c1 := HK2.out.tail.tail.tail.box.c1; have bx_f0 := HK2.out.tail.tail.tail.box.f0; have bx_f1 := HK2.out.tail.tail.tail.box.f1; have br_c0 := HK2.out.tail.tail.tail.tail.box.c0; have br_c1 := HK2.out.tail.tail.tail.tail.box.c1; have br_f0 := HK2.out.tail.tail.tail.tail.box.f0; have br_f1 := HK2.out.tail.tail.tail.tail.box.f1; have KS2 := Lib.hid (And.intro HK2.out.tail.tail.tail.box.c0 (HK2.out.tail.tail.tail.box.c1)); have tok2 : True := trivial)
      | (have _t := tok2; clear _t tok2; go_at_call 63; go_must (with_reducible refine (close_any _ _ _ _ _ _ _ HK2.out.tail.fn HK2.out.sl).mono ?_); rintro e w3 ⟨rm, r0, rn, rc, rfl, hX, hB⟩; have HK3 := Lib.hid (HK2.out.below hB); have HB3 := Lib.hid (Below.steps HB2.out hB); clear bx_c0 bx_c1 bx_f0 bx_f1 br_c0 br_c1 br_f0 br_f1; clear HK2 HB2 hB; have bx_c0 := HK3.out.tail.tail.tail.box.c0; have bx_c1 := HK3.out.tail.tail.tail.box.c1; have bx_f0 := HK3.out.tail.tail.tail.box.f0; have bx_f1 := HK3.out.tail.tail.tail.box.f1; have br_c0 := HK3.out.tail.tail.tail.tail.box.c0; have br_c1 := HK3.out.tail.tail.tail.tail.box.c1; have br_f0 := HK3.out.tail.tail.tail.tail.box.f0; have br_f1 := HK3.out.tail.tail.tail.tail.box.f1; have KS3 := Lib.hid (And.intro HK3.out.tail.tail.tail.box.c0 (HK3.out.tail.tail.tail.box.c1)); have tok3 : True := trivial))
  clear KS0 KS1 KS2 KS3
  go_wp2_with fail
  refine bodyPost_ret (v := .agg #[.bool rm, .slice r0 rn rc]) (by simp [results, Try.results21, go_sem, br_c0, br_c1]) rfl ?_
  exact ⟨_, _, _, _, rfl, HZ.out ▸ hX.set2 HK3.out.tail.tail.tail.tail.box _ _, below_set2 HB3.out (by omega) _ _⟩

set_option maxHeartbeats 1000000 in
theorem wsign_z {m : Bool} {ao : Option Addr} {n cap : Nat} {x : Int} {w : World} (hx : Nx w m ao n cap x) (h0 : x = 0) :
    Calls Try.prog 23 #[.agg #[.bool m, .slice ao n cap]] w (RetB (.int .i64 0) w) := by
  obtain ⟨⟨xs, hs, hz⟩, hle⟩ := hx
  have HV : Hid (val xs = 0) := by rw [Hid, ← zOf_abs m (val xs), hz, h0]; rfl
  clear h0 hz
  go_enter Try.func23, Try.ntmps23
  go_upto_region 1 with (fail)
  refine wp_world (fun W hW => ?_)
  have HB0 : Hid (Below w.heap.size w W) := by rw [hW]; exact below_alloc _ _
  have hbx_bx : Box W (w.heap.size) m ao n cap := by rw [hW]; exact Box.new _ _ _ _ _ _ _ (by simp)
  have HK0 := Lib.hid (Live.add_sl (hs.below HB0.out) (Live.add_box hbx_bx (Live.nil W)))
  clear hW hbx_bx
  have bx_c0 := HK0.out.tail.box.c0
  have bx_c1 := HK0.out.tail.box.c1
  have bx_f0 := HK0.out.tail.box.f0
  have bx_f1 := HK0.out.tail.box.f1
  go_wp2_with fail
  refine (bits_is 0 _ _ _ _ _ HK0.out.sl (by rw [HV.out]; rfl)).mono ?_
  rintro e w' ⟨rfl, rfl⟩
  go_wp2_with fail
  go_ret
  exact ⟨rfl, HB0.out⟩

set_option maxHeartbeats 1000000 in
theorem wsign_n {m : Bool} {ao : Option Addr} {n cap : Nat} {x : Int} {w : World} (hx : Nx w m ao n cap x) (h0 : x < 0) :
    Calls Try.prog 23 #[.agg #[.bool m, .slice ao n cap]] w (RetB (.int .i64 (-1)) w) := by
  obtain ⟨⟨xs, hs, hz⟩, hle⟩ := hx
  have hv : val xs ≠ 0 := fun h => by rw [h, zOf_zero] at hz; omega
  obtain ⟨k, hk⟩ : ∃ k, k = nbits (val xs) := ⟨_, rfl⟩
  have hq : (((k : Nat) : Int) == 0) = false := by
    have : k ≠ 0 := by rw [hk]; exact fun e => hv (nbits_eq_zero.1 e)
    simp; omega
  have HV := Lib.hid hk.symm
  obtain rfl : m = true := by
    cases m
    · unfold zOf at hz; simp at hz; omega
    · rfl
  clear h0 hz hv hk
  go_enter Try.func23, Try.ntmps23
  go_upto_region 1 with (fail)
  refine wp_world (fun W hW => ?_)
  have HB0 : Hid (Below w.heap.size w W) := by rw [hW]; exact below_alloc _ _
  have hbx_bx : Box W (w.heap.size) true ao n cap := by rw [hW]; exact Box.new _ _ _ _ _ _ _ (by simp)
  have HK0 := Lib.hid (Live.add_sl (hs.below HB0.out) (Live.add_box hbx_bx (Live.nil W)))
  clear hW hbx_bx
  have bx_c0 := HK0.out.tail.box.c0
  have bx_c1 := HK0.out.tail.box.c1
  have bx_f0 := HK0.out.tail.box.f0
  have bx_f1 := HK0.out.tail.box.f1
  go_wp2_with fail
  refine (bits_is k _ _ _ _ _ HK0.out.sl HV.out).mono ?_
  rintro e w' ⟨rfl, rfl⟩
  go_wp2_with fail
  go_ret
  exact ⟨rfl, HB0.out⟩

set_option maxHeartbeats 1000000 in
theorem wsign_p {m : Bool} {ao : Option Addr} {n cap : Nat} {x : Int} {w : World} (hx : Nx w m ao n cap x) (h0 : 0 < x) :
    Calls Try.prog 23 #[.agg #[.bool m, .slice ao n cap]] w (RetB (.int .i64 1) w) := by
  obtain ⟨⟨xs, hs, hz⟩, hle⟩ := hx
  have hv : val xs ≠ 0 := fun h => by rw [h, zOf_zero] at hz; omega
  obtain ⟨k, hk⟩ : ∃ k, k = nbits (val xs) := ⟨_, rfl⟩
  have hq : (((k : Nat) : Int) == 0) = false := by
    have : k ≠ 0 := by rw [hk]; exact fun e => hv (nbits_eq_zero.1 e)
    simp; omega
  have HV := Lib.hid hk.symm
  obtain rfl : m = false := by
    cases m
    · rfl
    · unfold zOf at hz; simp at hz; omega
  clear h0 hz hv hk
  go_enter Try.func23, Try.ntmps23
  go_upto_region 1 with (fail)
  refine wp_world (fun W hW => ?_)
  have HB0 : Hid (Below w.heap.size w W) := by rw [hW]; exact below_alloc _ _
  have hbx_bx : Box W (w.heap.size) false ao n cap := by rw [hW]; exact Box.new _ _ _ _ _ _ _ (by simp)
  have HK0 := Lib.hid (Live.add_sl (hs.below HB0.out) (Live.add_box hbx_bx (Live.nil W)))
  clear hW hbx_bx
  have bx_c0 := HK0.out.tail.box.c0
  have bx_c1 := HK0.out.tail.box.c1
  have bx_f0 := HK0.out.tail.box.f0
  have bx_f1 := HK0.out.tail.box.f1
  go_wp2_with fail
  refine (bits_is k _ _ _ _ _ HK0.out.sl HV.out).mono ?_
  rintro e w' ⟨rfl, rfl⟩
  go_wp2_with fail
  go_ret
  exact ⟨rfl, HB0.out⟩

theorem wsign_is (s : Int) {m : Bool} {ao : Option Addr} {n cap : Nat} {x : Int} {w : World} (hx : Nx w m ao n cap x) (h : x.sign = s) :
    Calls Try.prog 23 #[.agg #[.bool m, .slice ao n cap]] w (RetB (.int .i64 s) w) := by
  rcases Int.lt_trichotomy x 0 with h0 | h0 | h0
  · rw [Int.sign_eq_neg_one_of_neg h0] at h; rw [← h]; exact wsign_n hx h0
  · rw [h0, Int.sign_zero] at h; rw [← h]; exact wsign_z hx h0
  · rw [Int.sign_eq_one_of_pos h0] at h; rw [← h]; exact wsign_p hx h0

end Go.Proofs.Ytponiigpmjnffaa

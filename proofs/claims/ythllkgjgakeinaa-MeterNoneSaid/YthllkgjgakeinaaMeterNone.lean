/-
  MeterNone: a meter that is not there, a zero one.
-/
import Derived.Test.YthllkgjgakeinaaMtSt
set_option maxRecDepth 8192
namespace Go.Proofs.Ythllkgjgakeinaa
open Go.RowKit
def s0 : MS := MS.new 0 0 0 0
def s1 : MS := ⟨0, 0, 0, 0, 0, 0, 9, 1⟩
theorem s1_keep (ps : List (List Nat)) : s1.keep ps = s1 := by
  unfold MS.keep MS.refuse s1
  split
  · rfl
  · split <;> rfl
theorem s1_keepE (ps : List (List Nat)) : (s1.keepE ps == 0) = ((ps.length : Int) == 0) := by
  unfold MS.keepE s1
  simp only
  cases ps with
  | nil => simp [needL]
  | cons a r =>
    have h1 : (0 : Int) < ((a :: r).length : Nat) := by simp
    rw [show (((a :: r).length : Int) == 0) = false by simp; omega]
    split
    · rfl
    · first | rfl | (split <;> first | rfl | (rename_i h2; exact absurd h1 h2))
set_option maxHeartbeats 8000000 in
set_option maxRecDepth 100000 in
theorem meterNone_any (x : Int) {ao : Option Addr} {n cap : Nat} {ps : List (List Nat)} {w : World} (h : Lp w ao n cap ps) : Calls Try.prog 5 #[.slice ao n cap, .int .i64 x] w (RetB (.bool true) w) := by
  have HP := Lib.hid h
  have HL := Lib.hid h.len
  have HKE : Hid (∃ z q, z = s1.keepE ps ∧ (z == 0) = q ∧ ((n : Int) == 0) = q) := ⟨_, _, rfl, rfl, by rw [s1_keepE, h.len]⟩
  clear h
  go_enter Try.func5, Try.ntmps5
  go_upto_region 1 with (fail)
  refine wp_world (fun W hW => ?_)
  have H1 : Hid (Below w.heap.size w W) := by rw [hW]; exact Below.refl _ _
  clear hW
  go_wp2_with fail
  have k1 := Cells.new W W.heap.size [.int .i64 0, .slice ao n cap, .int .i64 0] 41 rfl
  refine (mgreat_any (lo_lit ((HP.out.below H1.out).below (below_alloc W _)) k1)).mono ?_
  rintro e w1 ⟨r, rfl, rfl⟩
  have H2 := Lib.hid (Below.steps H1.out (below_alloc W (.cells #[.int .i64 0, .slice ao n cap, .int .i64 0] 41)))
  clear k1 H1
  cases r with
  | true =>
    go_wp2_with fail
    refine (mknown_any _).mono ?_
    rintro e w2 ⟨rfl, hB⟩
    have H3 := Lib.hid (Below.steps H2.out hB)
    clear hB
    go_wp2_with fail
    go_ret
    exact ⟨rfl, H3.out⟩
  | false =>
    go_upto_region 5 with (fail)
    refine wp_world (fun V1 hV => ?_)
    obtain ⟨b, hb⟩ : ∃ b, b = (W.alloc (.cells #[.int .i64 0, .slice ao n cap, .int .i64 0] 41)).heap.size := ⟨_, rfl⟩
    have hb2 : b = W.heap.size + 1 := by rw [hb]; simp
    have S1 : Hid (Sx w V1 [⟨b, mc s0⟩] []) := by
      rw [hV]
      have k := Sx.var ((Sx.start (N := []) trivial : Sx w w [] []).step H2.out) b (mc s0) 66 hb
      exact k
    rw [← hb2]
    clear hV hb hb2 H2
    obtain ⟨z, q, hz1, hz2, hz3⟩ := HKE.out
    have HZ := Lib.hid hz1
    have HLP : Hid (∀ V, Below w.heap.size w V → Lp V ao n cap ps) := fun V hB => HP.out.below hB
    have c1 : Hid (∀ V, Cells V b (mc s0) → Calls Try.prog 12 #[.pointer (some ⟨b, 0, none⟩)] V (RetM b (mc s1) (.int .i64 9) V)) := fun V h => mstep_any h (mayL_ok (by decide))
    have c2 : Hid (∀ V, Cells V b (mc s1) → Calls Try.prog 14 #[.pointer (some ⟨b, 0, none⟩)] V (RetM b (mc s1) (.int .i64 12) V)) := fun V h => mpiece_any h (mayL_ok (by decide) : s0.Ok).step
    have c3 : Hid (∀ V, Cells V b (mc s1) → Lp V ao n cap ps → Calls Try.prog 16 #[.pointer (some ⟨b, 0, none⟩), .slice ao n cap] V (RetM b (mc s1) (.int .i64 z) V)) := fun V h hp => by
      have := mkeep_any h hp
      rwa [s1_keep, ← HZ.out] at this
    have c4 : Hid (∀ V, Cells V b (mc s1) → Calls Try.prog 22 #[.pointer (some ⟨b, 0, none⟩)] V (RetB (.agg #[.int .i64 9, .int .i64 1]) V)) := fun V h => mneed_any h
    clear hz1 HKE HP
    cases q with
    | true =>
      go_wp2_with fail
      refine (mstep_nil).mono ?_
      rintro e V10 ⟨rfl, rfl⟩
      go_wp2_with fail
      refine (mpiece_nil).mono ?_
      rintro e V10 ⟨rfl, rfl⟩
      go_wp2_with fail
      refine (mkeep_nil).mono ?_
      rintro e V2 ⟨rfl, hB⟩
      have S2 : Hid (Sx w V2 [⟨b, mc s0⟩] []) := S1.out.step hB
      clear hB S1
      go_wp2_with fail
      refine (mrefer_nil).mono ?_
      rintro e V20 ⟨rfl, rfl⟩
      go_wp2_with fail
      refine (mfuel_nil).mono ?_
      rintro e V20 ⟨rfl, rfl⟩
      go_wp2_with fail
      refine (mpieces_nil).mono ?_
      rintro e V20 ⟨rfl, rfl⟩
      go_wp2_with fail
      refine (mneed_nil).mono ?_
      rintro e V3 ⟨rfl, hB⟩
      have S3 : Hid (Sx w V3 [⟨b, mc s0⟩] []) := S2.out.step hB
      clear hB S2
      go_wp2_with fail
      refine (mlimits_nil).mono ?_
      rintro e V4 ⟨rfl, hB⟩
      have S4 : Hid (Sx w V4 [⟨b, mc s0⟩] []) := S3.out.step hB
      clear hB S3
      go_wp2_with fail
      refine (c1.out _ S4.out.b.1).mono ?_
      intro e V5 h
      obtain ⟨rfl, hS⟩ := S4.out.ret [] [] h
      have S5 : Hid (Sx w V5 [⟨b, mc s1⟩] []) := hS
      clear hS h S4
      go_wp2_with fail
      refine (c2.out _ S5.out.b.1).mono ?_
      intro e V6 h
      obtain ⟨rfl, hS⟩ := S5.out.ret [] [] h
      have S6 : Hid (Sx w V6 [⟨b, mc s1⟩] []) := hS
      clear hS h S5
      go_wp2_with fail
      refine (c3.out _ S6.out.b.1 (HLP.out _ S6.out.h)).mono ?_
      intro e V7 h
      obtain ⟨rfl, hS⟩ := S6.out.ret [] [] h
      have S7 : Hid (Sx w V7 [⟨b, mc s1⟩] []) := hS
      clear hS h S6
      go_wp2_with fail
      refine (c4.out _ S7.out.b.1).mono ?_
      rintro e V8 ⟨rfl, hB⟩
      have S8 : Hid (Sx w V8 [⟨b, mc s1⟩] []) := S7.out.step hB
      clear hB S7
      go_wp2_with fail
      refine (mknown_any _).mono ?_
      rintro e V9 ⟨rfl, hB⟩
      have S9 : Hid (Sx w V9 [⟨b, mc s1⟩] []) := S8.out.step hB
      clear hB S8
      go_wp2_with fail
      go_ret
      exact ⟨rfl, S9.out.h⟩
    | false =>
      go_wp2_with fail
      refine (mstep_nil).mono ?_
      rintro e V10 ⟨rfl, rfl⟩
      go_wp2_with fail
      refine (mpiece_nil).mono ?_
      rintro e V10 ⟨rfl, rfl⟩
      go_wp2_with fail
      refine (mkeep_nil).mono ?_
      rintro e V2 ⟨rfl, hB⟩
      have S2 : Hid (Sx w V2 [⟨b, mc s0⟩] []) := S1.out.step hB
      clear hB S1
      go_wp2_with fail
      refine (mrefer_nil).mono ?_
      rintro e V20 ⟨rfl, rfl⟩
      go_wp2_with fail
      refine (mfuel_nil).mono ?_
      rintro e V20 ⟨rfl, rfl⟩
      go_wp2_with fail
      refine (mpieces_nil).mono ?_
      rintro e V20 ⟨rfl, rfl⟩
      go_wp2_with fail
      refine (mneed_nil).mono ?_
      rintro e V3 ⟨rfl, hB⟩
      have S3 : Hid (Sx w V3 [⟨b, mc s0⟩] []) := S2.out.step hB
      clear hB S2
      go_wp2_with fail
      refine (mlimits_nil).mono ?_
      rintro e V4 ⟨rfl, hB⟩
      have S4 : Hid (Sx w V4 [⟨b, mc s0⟩] []) := S3.out.step hB
      clear hB S3
      go_wp2_with fail
      refine (c1.out _ S4.out.b.1).mono ?_
      intro e V5 h
      obtain ⟨rfl, hS⟩ := S4.out.ret [] [] h
      have S5 : Hid (Sx w V5 [⟨b, mc s1⟩] []) := hS
      clear hS h S4
      go_wp2_with fail
      refine (c2.out _ S5.out.b.1).mono ?_
      intro e V6 h
      obtain ⟨rfl, hS⟩ := S5.out.ret [] [] h
      have S6 : Hid (Sx w V6 [⟨b, mc s1⟩] []) := hS
      clear hS h S5
      go_wp2_with fail
      refine (c3.out _ S6.out.b.1 (HLP.out _ S6.out.h)).mono ?_
      intro e V7 h
      obtain ⟨rfl, hS⟩ := S6.out.ret [] [] h
      have S7 : Hid (Sx w V7 [⟨b, mc s1⟩] []) := hS
      clear hS h S6
      go_wp2_with fail
      refine (c4.out _ S7.out.b.1).mono ?_
      rintro e V8 ⟨rfl, hB⟩
      have S8 : Hid (Sx w V8 [⟨b, mc s1⟩] []) := S7.out.step hB
      clear hB S7
      go_wp2_with fail
      refine (mknown_any _).mono ?_
      rintro e V9 ⟨rfl, hB⟩
      have S9 : Hid (Sx w V9 [⟨b, mc s1⟩] []) := S8.out.step hB
      clear hB S8
      go_wp2_with fail
      go_ret
      exact ⟨rfl, S9.out.h⟩
end Go.Proofs.Ythllkgjgakeinaa
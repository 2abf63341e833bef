/-
  The contracts of cmp.Compare, cmp.Or, rank.compare, rank.Of, rank.Compare.
-/
import Derived.Test.YtmmgipcacceakaaRkP
set_option maxHeartbeats 40000000
set_option maxRecDepth 100000
namespace Go.Proofs.Ytmmgipcacceakaa
open Lib (hid)
open Go.RowKit
theorem cnan_any (a : Int) (w : World) : Calls Try.prog 67 #[.int .i64 a] w fun e w' => e = .returned (.bool false) ∧ w = w' := by
 have hd : (a != a) = false := by simp
 go_enter Try.func67, Try.ntmps67
 go_wp2
 go_ret
 exact ⟨rfl, rfl⟩
theorem ccmp_any (a b z : Int) (w : World) (hz : cmpI a b = z) : Calls Try.prog 39 #[.int .i64 a, .int .i64 b] w fun e w' => e = .returned (.int .i64 z) ∧ w = w' := by
 rcases cmpI_is a b with ⟨h, e⟩ | ⟨h, e⟩ | ⟨h, e⟩
 ·rw [e] at hz
  have hd : decide (a < b) = true := decide_eq_true h
  subst hz
  go_enter Try.func39, Try.ntmps39
  go_wp2_with fail; refine (cnan_any a _).mono ?_
  rintro e w1 ⟨rfl, rfl⟩; go_wp2_with fail; refine (cnan_any b _).mono ?_; rintro e w1 ⟨rfl, rfl⟩; go_wp2_with fail
  go_ret
  exact ⟨rfl, rfl⟩
 ·rw [e] at hz
  have hd : decide (a < b) = false := decide_eq_false (by omega)
  have hd2 : decide (b < a) = true := decide_eq_true h
  have hd3 : decide (a > b) = true := decide_eq_true h
  subst hz
  go_enter Try.func39, Try.ntmps39
  go_wp2_with fail; refine (cnan_any a _).mono ?_
  rintro e w1 ⟨rfl, rfl⟩; go_wp2_with fail; refine (cnan_any b _).mono ?_; rintro e w1 ⟨rfl, rfl⟩; go_wp2_with fail
  go_ret
  exact ⟨rfl, rfl⟩
 ·rw [e] at hz
  subst h
  have hd : decide (a < a) = false := decide_eq_false (by omega)
  have hd3 : decide (a > a) = false := decide_eq_false (by omega)
  subst hz
  go_enter Try.func39, Try.ntmps39
  go_wp2_with fail; refine (cnan_any a _).mono ?_
  rintro e w1 ⟨rfl, rfl⟩; go_wp2_with fail; refine (cnan_any a _).mono ?_; rintro e w1 ⟨rfl, rfl⟩; go_wp2_with fail
  go_ret
  exact ⟨rfl, rfl⟩
theorem cor_any (f : Nat → Int) (z : Int) {b : Nat} {w : World} (hc : ∀ k, k < 2 → w.cell? ⟨b, k, none⟩ = some (.int .i64 (f k))) (hz : (if f 0 = 0 then f 1 else f 0) = z) :
  Calls Try.prog 37 #[.slice (some ⟨b, 0, none⟩) 2 2] w fun e w' => e = .returned (.int .i64 z) ∧ w = w' := by
 have HC := hid hc; have HZ := hid hz; clear hc hz
 go_enter Try.func37, Try.ntmps37
 go_wp2
 go_loopw [8] (fun i wr => ∃ k : Nat, i = .int .i64 k ∧ k ≤ 2 ∧ Hid (∀ j, j < k → f j = 0) ∧ w = wr) (fun i _ => 2 - (intOf i).toNat)
 case atStart => exact ⟨0, rfl, by omega, (fun j h => by omega), rfl⟩
 case round =>
  obtain ⟨k, rfl, hk, HF, rfl⟩ := hrel
  by_cases hkn : k < 2
  ·have c0 := HC.out k hkn
   obtain ⟨v, hv⟩ : ∃ v, f k = v := ⟨_, rfl⟩; rw [hv] at c0; have HV := hid hv; clear hv
   have hki : (k : Int) < 2 := by omega
   by_cases hv0 : v = 0
   ·have hd : (v != 0) = false := by simp [hv0]
    have HN : Hid (∀ j, j < k + 1 → f j = 0) := fun j hj => by
     by_cases h : j < k
     ·exact HF.out j h
     ·obtain rfl : j = k := by omega
      rw [HV.out, hv0]
    clear hv0
    go_wp2
    go_roundw
    case rel => exact ⟨k + 1, by go_num, by omega, HN, trivial⟩
    case measure => simp [intOf]; omega
   ·have hd : (v != 0) = true := by simpa using hv0
    have HR : Hid (v = z) := by
     rw [Hid, ← HZ.out, ← HV.out]; have h2 := HV.out
     obtain h | h : k = 0 ∨ k = 1 := by omega
     ·subst h; rw [if_neg (by rw [h2]; exact hv0)]
     ·subst h; rw [if_pos (HF.out 0 (by omega))]
    clear hv0
    go_wp2
    go_ret
    have h := HR.out; subst h
    exact ⟨rfl, rfl⟩
  ·obtain rfl : k = 2 := by omega
   have HR : Hid (z = 0) := by rw [Hid, ← HZ.out, if_pos (HF.out 0 (by omega)), HF.out 1 (by omega)]
   go_wp2
   go_ret
   have h := HR.out; subst h
   exact ⟨rfl, rfl⟩
theorem rcmp_any (a1 a2 b1 b2 z : Int) (w : World) (hz : cmpRk (a1, a2) (b1, b2) = z) :
  Calls Try.prog 33 #[.agg #[.int .i64 a1, .int .i64 a2], .agg #[.int .i64 b1, .int .i64 b2]] w (RetB (.int .i64 z) w) := by
 obtain ⟨x, hx⟩ : ∃ x, cmpI a1 b1 = x := ⟨_, rfl⟩; obtain ⟨y, hy⟩ : ∃ y, cmpI a2 b2 = y := ⟨_, rfl⟩
 have HZ : Hid ((if x = 0 then y else x) = z) := by
  rw [Hid, ← hx, ← hy]
  exact hz
 have HX := hid hx; have HY := hid hy; clear hx hy hz
 go_enter Try.func33, Try.ntmps33
 go_upto_region 1 with (fail)
 refine wp_world (fun W hW => ?_)
 obtain ⟨q1, q2, hB⟩ := box2 w [.int .i64 a1, .int .i64 a2] [.int .i64 b1, .int .i64 b2] 30 30; rw [← hW] at q1 q2 hB; clear hW; have A0 := hid q1; have B0 := hid q2; have HB0 := hid hB; clear q1 q2 hB
 refine wp_region_held_drew (S := fun w' => (w'.cell? ⟨w.heap.size, 0, none⟩ = some (.int .i64 a1) ∧ w'.cell? ⟨w.heap.size, 1, none⟩ = some (.int .i64 a2)) ∧ (w'.cell? ⟨w.heap.size + 1, 0, none⟩ = some (.int .i64 b1) ∧ w'.cell? ⟨w.heap.size + 1, 1, none⟩ = some (.int .i64 b2))) (by kernel_rfl) ⟨A0.out.c2, B0.out.c2⟩ (fun hH => ?_)
 refine anyH_world (fun w1 hW => ?_)
 have HB1 : Hid (Below w.heap.size w w1) := by rw [hW]; exact HB0.out.drew
 have A1 : Hid (AtN w1 w.heap.size [.int .i64 a1, .int .i64 a2] 30) := by rw [hW]; exact A0.out.below (Below.refl _ _).drew
 have B1 : Hid (AtN w1 (w.heap.size + 1) [.int .i64 b1, .int .i64 b2] 30) := by rw [hW]; exact B0.out.below (Below.refl _ _).drew
 rw [← hW] at hH; clear HB0 A0 B0
 clear hW
 refine son 0 hH ?_; try simp only [nrm]
 refine son 1 hH ?_; try simp only [nrm]
 refine son 2 hH ?_; try simp only [nrm]
 refine son 3 hH ?_; try simp only [nrm]
 refine son 5 hH ?_; try simp only [nrm]
 refine son 6 hH ?_; try simp only [nrm]
 refine son 7 hH ?_; try simp only [nrm]
 refine son 8 hH ?_; try simp only [nrm]
 refine step_one 4 rfl (by kernel_rfl) (fun KK hK => ?_)
 go_simp; refine (ccmp_any a1 b1 x _ HX.out).mono ?_
 rintro e w2 ⟨rfl, rfl⟩; go_wp2_with fail
 clear hH; refine hK.out _ _ ⟨A1.out.c2, B1.out.c2⟩ fun hH => ?_; clear hK KK
 try simp only [nrm]
 refine step_one 9 rfl (by kernel_rfl) (fun KK hK => ?_)
 go_simp; refine (ccmp_any a2 b2 y _ HY.out).mono ?_
 rintro e w2 ⟨rfl, rfl⟩; go_wp2_with fail
 clear hH; refine hK.out _ _ ⟨A1.out.c2, B1.out.c2⟩ fun hH => ?_; clear hK KK
 try simp only [nrm]
 refine step_one 10 rfl (by kernel_rfl) (fun KK hK => ?_)
 go_simp
 clear hH; refine hK.out _ _ ⟨(A1.out.below (below_alloc _ _)).c2, (B1.out.below (below_alloc _ _)).c2⟩ fun hH => ?_; clear hK KK
 try simp only [nrm]
 refine anyH_world (fun w3 hW => ?_)
 have HB3 : Hid (Below w.heap.size w w3) := by rw [hW]; exact HB1.out.alloc HB1.out.size _
 have A3 : Hid (AtN w3 w.heap.size [.int .i64 a1, .int .i64 a2] 30) := by rw [hW]; exact A1.out.below (below_alloc _ _)
 have B3 : Hid (AtN w3 (w.heap.size + 1) [.int .i64 b1, .int .i64 b2] 30) := by rw [hW]; exact B1.out.below (below_alloc _ _)
 have HC : Hid (∀ k, k < 2 → w3.cell? ⟨w1.heap.size, k, none⟩ = some (.int .i64 ([x, y].getD k 0))) := fun k hk => by
  rw [hW]
  obtain h | h : k = 0 ∨ k = 1 := by omega
  ·subst h; simp
  ·subst h; simp
 rw [← hW] at hH; clear hW
 refine step_one 11 rfl (by kernel_rfl) (fun KK hK => ?_)
 go_simp
 refine (cor_any (fun k => [x, y].getD k 0) z HC.out HZ.out).mono ?_
 rintro e w4 ⟨rfl, rfl⟩; go_wp2_with fail
 clear hH; refine hK.out _ _ ⟨A3.out.c2, B3.out.c2⟩ fun hH => ?_; clear hK KK
 try simp only [nrm]
 refine son 12 hH ?_; try simp only [nrm]
 refine wpAnyH_done (by kernel_rfl) ?_ _
 go_wp2_with fail
 go_ret
 exact ⟨rfl, HB3.out⟩
end Go.Proofs.Ytmmgipcacceakaa

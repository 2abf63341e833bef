/-
  The contracts of porismref08.Pow.
-/
import Derived.Test.YtmbgljjfmbhelaaGreatGP1
set_option maxHeartbeats 40000000
set_option maxRecDepth 100000
namespace Go.Proofs.YtmbgljjfmbhelaaGreat
open Lib (hid)
open Go.RowKit
theorem pow_any8 {Kp : Nat} {bo : Option Addr} {l cb : Nat} {p : List Term} {w : World} (n : Nat) (hp : Pz Kp w bo l cb p) (hm : mays p) (hn : n ≤ 1000) (hK : ∀ k, k ≤ n → kbT l Kp k ≤ 9000) :
  Calls Tryz.prog 47 #[.slice bo l cb, .int .i64 n] w (NewPB (kbT l Kp n) w (powT p n).1 (powT p n).2) := by
 have HP := hid hp; have HL := hid hp.len; have HM := hid hm; have HK := hid hK; obtain ⟨R, hR⟩ : ∃ R, R = powT p n := ⟨_, rfl⟩; rw [← hR]; have HR := hid hR; clear hp hm hK hR
 go_enter Tryz.func47, Tryz.ntmps47
 go_wp2_with fail
 refine (zz173 1 w (by omega)).mono ?_
 rintro e w1 ⟨so, sn, sc, rfl, hX, hB⟩
 have HS0 : Hid (Pz (kbT l Kp 0) w1 so sn sc (powT p 0).1 ∧ Below w.heap.size w w1) := ⟨hX, hB⟩
 clear hX hB
 go_wp2
 go_loopw [6, 7, 8] (fun o b i wr => ∃ (k n2 c2 : Nat) (oo : Option Addr) (r : Bool), i = .int .i64 k ∧ b = .bool r ∧ o = .slice oo n2 c2 ∧ k ≤ n ∧ Hid ((powT p k).2 = r ∧ (r = false → (powT p k).1 = [])) ∧ Hid (∃ j, j ≤ k ∧ Pz (kbT l Kp j) wr oo n2 c2 (powT p k).1 ∧ (r = true → j = k)) ∧ Hid (Below w.heap.size w wr)) (fun _ _ i _ => n - (intOf i).toNat)
 case atStart => exact ⟨0, sn, sc, so, true, rfl, rfl, rfl, Nat.zero_le _, ⟨rfl, fun h => by cases h⟩, ⟨0, Nat.le_refl _, HS0.out.1, fun _ => rfl⟩, HS0.out.2⟩
 case round =>
  clear HS0; obtain ⟨k, n2, c2, oo, r, rfl, rfl, rfl, hk, HE, HS, HB⟩ := hrel
  by_cases hkn : k < n
  ·have hd : decide ((k : Int) < n) = true := decide_eq_true (by omega)
   cases r with
   | true =>
    obtain ⟨j, _, hS, hj⟩ := HS.out; obtain rfl : j = k := hj rfl; have HS1 := hid hS; have HE1 := hid HE.out.1; clear hS HS HE
    have ht := zz186 HS1.out (HP.out.below HB.out) (zz59 (zz142 HM.out j)) HM.out (Nat.le_trans (Nat.add_le_add_left (Nat.mul_le_mul_right l (by rw [← HS1.out.len, ← HL.out]; exact zz143 p j)) _) (HK.out (j + 1) (by omega)))
    have HT := hid ht; clear ht
    have HW : Hid (powT p (j + 1) = tryT (powT p j).1 p) := if_pos HE1.out
    have HKB : Hid (kbT l Kp j + Kp + n2 * l ≤ kbT l Kp (j + 1)) := Nat.add_le_add_left (Nat.mul_le_mul_right l (by rw [← HS1.out.len, ← HL.out]; exact zz143 p j)) _
    have HTF : Hid ((tryT (powT p j).1 p).2 = false → (tryT (powT p j).1 p).1 = []) := by
     intro h
     by_cases hf : fitT (powT p j).1 p
     ·rw [zz205 hf] at h; cases h
     ·rw [tryT_no hf]
    go_wp2_with fail
    refine HT.out.mono ?_
    rintro e w2 ⟨ro, rn, rc, rfl, hX, hB⟩
    have HS2 : Hid (Pz (kbT l Kp (j + 1)) w2 ro rn rc (powT p (j + 1)).1) := by rw [HW.out]; exact hX.mono HKB.out
    have HB2 := hid (Below.steps HB.out hB)
    have HE2 : Hid ((powT p (j + 1)).2 = (tryT (powT p j).1 p).2 ∧ ((tryT (powT p j).1 p).2 = false → (powT p (j + 1)).1 = [])) := ⟨by rw [HW.out], fun h => by rw [HW.out]; exact HTF.out h⟩
    clear hX hB HT HS1 HB HW HKB HE1 HTF; obtain ⟨b, hb⟩ : ∃ b, b = (tryT (powT p j).1 p).2 := ⟨_, rfl⟩; rw [← hb] at HE2 ⊢; clear hb; go_wp2_with fail
    go_roundw
    case rel => exact ⟨j + 1, rn, rc, ro, b, by go_num, rfl, rfl, by omega, HE2, ⟨j + 1, Nat.le_refl _, HS2.out, fun _ => rfl⟩, HB2⟩
    case measure => simp [intOf]; omega
   | false =>
    obtain ⟨j, hjk, hS, _⟩ := HS.out
    have HS9 : Hid (Pz (kbT l Kp n) wr oo n2 c2 []) := by rw [Hid, ← HE.out.2 rfl]; exact hS.mono (kbT_mono l Kp (by omega))
    have HR2 : Hid (R = ([], false)) := HR.out.trans (zz144 hk (Prod.ext (HE.out.2 rfl) HE.out.1))
    clear hS HS HE
    go_wp2
    refine bodyPost_ret (v := .tuple #[.slice oo n2 c2, .bool false]) (by simp [results, Tryz.results47, go_sem]) rfl ?_
    exact ⟨_, _, _, by rw [HR2.out], by rw [HR2.out]; exact HS9.out, HB.out⟩
  ·obtain rfl : k = n := by omega
   have hd : decide ((k : Int) < k) = false := decide_eq_false (by omega)
   obtain ⟨j, hjk, hS, hj⟩ := HS.out; have HS1 := hid hS; have HE1 := hid HE.out; have HJ := hid hj; clear hS HS HE hj
   go_wp2
   refine bodyPost_ret (v := .tuple #[.slice oo n2 c2, .bool r]) (by simp [results, Tryz.results47, go_sem]) rfl ?_
   refine ⟨_, _, _, by rw [HR.out, HE1.out.1], ?_, HB.out⟩
   rw [HR.out]
   exact HS1.out.mono (kbT_mono l Kp hjk)
end Go.Proofs.YtmbgljjfmbhelaaGreat

/-
  The walk of the law DigitsShifts.
-/
import Derived.Test.YtocdlaakcecieaaDoorTxtKnown
import Derived.Test.YtocdlaakcecieaaDoorTxtParse
import Derived.Test.YtocdlaakcecieaaDoorTxtRep
import Derived.Test.YtocdlaakcecieaaDoorDigitsText
import Derived.Test.YtocdlaakcecieaaDoorGWZ
import Derived.Test.YtocdlaakcecieaaDoorWZAdd
import Derived.Deep.Cut
import Derived.Deep.CutRange
set_option maxRecDepth 8192
namespace Go.Proofs.YtocdlaakcecieaaDoor
open Go.RowKit

theorem rep_any (p : Nat) (hp : p ≤ 30) (rp : ByteArray) (hr : rp = ⟨(List.replicate p (48 : UInt8)).toArray⟩) (w : World) :
    Calls Tryd.prog 17 #[.string ⟨#[48]⟩, .int .i64 (p : Int)] w (RetB (.string rp) w) := by
  subst hr
  have h := Any.strings_Repeat Tryd.lays105 Tryd.lays105_extra ⟨#[48]⟩ p w (by omega) (by show 1 * p ≤ _; omega)
  have e : Lib.repeatL (⟨#[48]⟩ : ByteArray).data.toList p = List.replicate p 48 := by
    have := Lib.repeatL_replicate 48 1 p
    rw [Nat.mul_one] at this
    exact this
  rw [e] at h
  exact h

theorem zpow_w (N : Nat) {k0 : Nat} {m : Bool} {ao : Option Addr} {n cap : Nat} {x : Int} {w : World} (hx : Zx w m ao n cap x) (hb : Bd x k0) (hk : k0 * N + 1 ≤ 100000) (hN : N ≤ 1000) :
    Calls Tryd.prog 19 #[.agg #[.bool m, .slice ao n cap], .int .i64 (IntKind.i64.wrap (N : Int))] w (NewZ w (x ^ N)) := by
  have e : IntKind.i64.wrap (N : Int) = (N : Int) := by rw [IntKind.wrap_i64]; omega
  rw [e]
  exact zpow_any N hx hb hk hN

theorem txt_eq {x y : Int} {u v : ByteArray} (hu : u = ⟨(Lib.itoa x).toArray⟩) (hv : v = ⟨(Lib.itoa y).toArray⟩) : (u.toList == v.toList) = decide (x = y) := by
  subst hu hv
  rw [ByteArray.toList_eq, ByteArray.toList_eq, ← itoa_ne_iff]
  rw [Bool.eq_iff_iff]
  simp

theorem cmp_eq (x y : Int) : (cmpZ x y == 0) = decide (x = y) := by
  rw [Bool.eq_iff_iff]
  unfold cmpZ
  simp [Int.sign_eq_zero_iff_zero]
  omega

theorem add_txt {x : Int} (hx : x ≠ 0) (hb : Bd x 20) {p : Nat} (hp : p ≤ 30) {u rp s1 : ByteArray} (hu : u = ⟨(Lib.itoa x).toArray⟩) (hr : rp = ⟨(List.replicate p (48 : UInt8)).toArray⟩) (h1 : s1 = ⟨(Lib.itoa (x * 10 ^ p)).toArray⟩) (W : World) :
    (Op.stringOp .add u rp).run Tryd.prog W = .ok (.string s1) W := by
  have := itoa_len hb
  subst hu hr h1
  rw [itoa_times hx]
  exact str_add W _ _ (by rw [List.length_replicate]; omega)

theorem minus_txt {x : Int} (hx : x ≠ 0) (hb : Bd x 20) {t s2 : ByteArray} (ht : t = ⟨(Lib.itoa (x.natAbs : Int)).toArray⟩) (h2 : s2 = ⟨(Lib.itoa (-(x.natAbs : Int))).toArray⟩) (W : World) :
    (Op.stringOp .add ⟨#[45]⟩ t).run Tryd.prog W = .ok (.string s2) W := by
  have h3 := itoa_len (z := (x.natAbs : Int)) (k := 20) (by unfold Bd at hb ⊢; simpa using hb)
  have e : Lib.itoa (-(x.natAbs : Int)) = 45 :: Lib.itoa (x.natAbs : Int) := by
    rw [itoa_neg' (by omega), itoa_pos' (show (0 : Int) ≤ (x.natAbs : Int) by omega), Int.natAbs_neg]
  subst ht h2
  rw [e]
  exact str_add W [45] _ (by simp; omega)

theorem cut5 {x : Int} {u t : ByteArray} {q : Bool} (hu : u = ⟨(Lib.itoa x).toArray⟩) (ht : t = ⟨(Lib.itoa (x.natAbs : Int)).toArray⟩) (hq : decide (x < 0) = q) (w : World) :
    Calls Tryd.prog 21 #[.string u, .string ⟨#[45]⟩] w (RetB (.tuple #[.string t, .bool q]) w) := by
  have h := cut_sign u w
  have e : u.data.toList = Lib.itoa x := by subst hu; simp
  rw [e, (itoa_sign x).1, (itoa_sign x).2, hq] at h
  have e2 : Lib.itoa (x.natAbs : Int) = Lib.decDigits x.natAbs := by
    rw [itoa_pos' (show (0 : Int) ≤ (x.natAbs : Int) by omega)]; simp
  rw [e2] at ht
  rw [← ht] at h
  exact h.mono (fun e w' h => ⟨h.1, h.2 ▸ Below.refl _ _⟩)

set_option maxHeartbeats 1000000 in
set_option maxRecDepth 100000 in
theorem dshifts_long0 (p : Nat) {m0 : Bool} {a0 : Option Addr} {n0 c0 : Nat} {m1 : Bool} {a1 : Option Addr} {n1 c1 : Nat} {w : World} (z0 : n0 ≤ 35184372088832) (h0 : 20 < n0) (ht : Tab w) :
    Calls Tryd.prog 6 #[.agg #[.bool m0, .slice a0 n0 c0], .agg #[.bool m1, .slice a1 n1 c1], .int .u8 (p : Int)] w (RetB (.bool true) w) := by
  have HT := Lib.hid ht
  clear ht
  have e0 : decide (20 < n0) = true := by simp; omega
  go_enter Tryd.func6, Tryd.ntmps6
  go_upto_region 1 with (fail)
  refine wp_world (fun W hW => ?_)
  have HB0 : Hid (Below w.heap.size w W) := by rw [hW]; exact step_alloc (below_alloc _ _)
  have S0 : Hid (St w W _ _) := Lib.hid (St.mk (Live.add_box (show Box W (w.heap.size) m0 a0 n0 c0 from by rw [hW]; exact (Box.new _ _ _ _ _ _ _ (by simp)).below (below_alloc _ _)) (Live.add_box (show Box W (w.heap.size + 1) m1 a1 n1 c1 from by rw [hW]; exact Box.new _ _ _ _ _ _ _ (by simp)) (Live.nil W))) (Live.nil W) HB0.out)
  clear hW HB0
  obtain ⟨bx_0, bx_1⟩ := S0.out.b.c
  obtain ⟨by_0, by_1⟩ := S0.out.b.t.c
  go_wp2_with fail
  refine (tknown5 _ (HT.out.below S0.out.h)).mono ?_
  rintro e w1 ⟨rfl, hB⟩
  have S1 := Lib.hid (S0.out.step hB)
  clear bx_0 bx_1 by_0 by_1
  clear S0 hB
  obtain ⟨bx_0, bx_1⟩ := S1.out.b.c
  obtain ⟨by_0, by_1⟩ := S1.out.b.t.c
  go_wp2_with fail
  go_ret
  exact ⟨rfl, S1.out.h⟩

set_option maxHeartbeats 1000000 in
set_option maxRecDepth 100000 in
theorem dshifts_long1 (p : Nat) {m0 : Bool} {a0 : Option Addr} {n0 c0 : Nat} {m1 : Bool} {a1 : Option Addr} {n1 c1 : Nat} {w : World} (z1 : n1 ≤ 35184372088832) (h0 : ¬ 20 < n0) (h1 : 20 < n1) (ht : Tab w) :
    Calls Tryd.prog 6 #[.agg #[.bool m0, .slice a0 n0 c0], .agg #[.bool m1, .slice a1 n1 c1], .int .u8 (p : Int)] w (RetB (.bool true) w) := by
  have HT := Lib.hid ht
  clear ht
  have e0 : decide (20 < n0) = false := by simp; omega
  have e1 : decide (20 < n1) = true := by simp; omega
  go_enter Tryd.func6, Tryd.ntmps6
  go_upto_region 1 with (fail)
  refine wp_world (fun W hW => ?_)
  have HB0 : Hid (Below w.heap.size w W) := by rw [hW]; exact step_alloc (below_alloc _ _)
  have S0 : Hid (St w W _ _) := Lib.hid (St.mk (Live.add_box (show Box W (w.heap.size) m0 a0 n0 c0 from by rw [hW]; exact (Box.new _ _ _ _ _ _ _ (by simp)).below (below_alloc _ _)) (Live.add_box (show Box W (w.heap.size + 1) m1 a1 n1 c1 from by rw [hW]; exact Box.new _ _ _ _ _ _ _ (by simp)) (Live.nil W))) (Live.nil W) HB0.out)
  clear hW HB0
  obtain ⟨bx_0, bx_1⟩ := S0.out.b.c
  obtain ⟨by_0, by_1⟩ := S0.out.b.t.c
  go_wp2_with fail
  refine (tknown5 _ (HT.out.below S0.out.h)).mono ?_
  rintro e w1 ⟨rfl, hB⟩
  have S1 := Lib.hid (S0.out.step hB)
  clear bx_0 bx_1 by_0 by_1
  clear S0 hB
  obtain ⟨bx_0, bx_1⟩ := S1.out.b.c
  obtain ⟨by_0, by_1⟩ := S1.out.b.t.c
  go_wp2_with fail
  go_ret
  exact ⟨rfl, S1.out.h⟩

set_option maxHeartbeats 1000000 in
set_option maxRecDepth 100000 in
theorem dshifts_long2 (p : Nat) {m0 : Bool} {a0 : Option Addr} {n0 c0 : Nat} {m1 : Bool} {a1 : Option Addr} {n1 c1 : Nat} {w : World} (zp : p < 256) (h0 : ¬ 20 < n0) (h1 : ¬ 20 < n1) (h2 : 30 < p) (ht : Tab w) :
    Calls Tryd.prog 6 #[.agg #[.bool m0, .slice a0 n0 c0], .agg #[.bool m1, .slice a1 n1 c1], .int .u8 (p : Int)] w (RetB (.bool true) w) := by
  have HT := Lib.hid ht
  clear ht
  have e0 : decide (20 < n0) = false := by simp; omega
  have e1 : decide (20 < n1) = false := by simp; omega
  have e2 : decide (30 < ((p : Nat) : Int)) = true := by simp; omega
  go_enter Tryd.func6, Tryd.ntmps6
  go_upto_region 1 with (fail)
  refine wp_world (fun W hW => ?_)
  have HB0 : Hid (Below w.heap.size w W) := by rw [hW]; exact step_alloc (below_alloc _ _)
  have S0 : Hid (St w W _ _) := Lib.hid (St.mk (Live.add_box (show Box W (w.heap.size) m0 a0 n0 c0 from by rw [hW]; exact (Box.new _ _ _ _ _ _ _ (by simp)).below (below_alloc _ _)) (Live.add_box (show Box W (w.heap.size + 1) m1 a1 n1 c1 from by rw [hW]; exact Box.new _ _ _ _ _ _ _ (by simp)) (Live.nil W))) (Live.nil W) HB0.out)
  clear hW HB0
  obtain ⟨bx_0, bx_1⟩ := S0.out.b.c
  obtain ⟨by_0, by_1⟩ := S0.out.b.t.c
  go_wp2_with fail
  refine (tknown5 _ (HT.out.below S0.out.h)).mono ?_
  rintro e w1 ⟨rfl, hB⟩
  have S1 := Lib.hid (S0.out.step hB)
  clear bx_0 bx_1 by_0 by_1
  clear S0 hB
  obtain ⟨bx_0, bx_1⟩ := S1.out.b.c
  obtain ⟨by_0, by_1⟩ := S1.out.b.t.c
  go_wp2_with fail
  go_ret
  exact ⟨rfl, S1.out.h⟩

set_option maxHeartbeats 1000000 in
set_option maxRecDepth 100000 in
theorem dshifts_zero (p : Nat) {m0 : Bool} {a0 : Option Addr} {n0 c0 : Nat} {m1 : Bool} {a1 : Option Addr} {n1 c1 : Nat} {x y : Int} {w : World} (h0 : Nx w m0 a0 n0 c0 x) (h1 : Nx w m1 a1 n1 c1 y) (l0 : n0 ≤ 20) (l1 : n1 ≤ 20) (hp : p ≤ 30) (ht : Tab w) (hx0 : x = 0) :
    Calls Tryd.prog 6 #[.agg #[.bool m0, .slice a0 n0 c0], .agg #[.bool m1, .slice a1 n1 c1], .int .u8 (p : Int)] w (RetB (.bool true) w) := by
  have HT := Lib.hid ht
  have HX0 := Lib.hid hx0
  have bd_x : Bd (x) 20 := h0.inn.bd l0
  have bd_y : Bd (y) 20 := h1.inn.bd l1
  have hq1 : decide (20 < n0) = false := by simp; omega
  have hq2 : decide (20 < n1) = false := by simp; omega
  have hq3 : decide (30 < ((p : Nat) : Int)) = false := by simp; omega
  obtain ⟨u, hu⟩ : ∃ u : ByteArray, u = ⟨(Lib.itoa x).toArray⟩ := ⟨_, rfl⟩
  obtain ⟨v, hv⟩ : ∃ v : ByteArray, v = ⟨(Lib.itoa y).toArray⟩ := ⟨_, rfl⟩
  obtain ⟨r, hr⟩ : ∃ r : Bool, decide (x = y) = r := ⟨_, rfl⟩
  obtain ⟨c, hc⟩ : ∃ c, cmpZ x y = c := ⟨_, rfl⟩
  have e1 : (u.toList == v.toList) = r := by rw [← hr]; exact txt_eq hu hv
  have e2 : (c == 0) = r := by rw [← hr, ← hc]; exact cmp_eq x y
  have HU := Lib.hid hu
  have HV := Lib.hid hv
  have HC := Lib.hid hc
  have e3 : (u.toList == [48]) = true := by
    rw [hu, hx0, itoa_zero, ByteArray.toList_eq]; rfl
  clear hu hv hr hc ht hx0
  go_enter Tryd.func6, Tryd.ntmps6
  go_upto_region 1 with (fail)
  refine wp_world (fun W hW => ?_)
  have HB0 : Hid (Below w.heap.size w W) := by rw [hW]; exact step_alloc (below_alloc _ _)
  have S0 : Hid (St w W _ _) := Lib.hid (St.mk (Live.add_box (show Box W (w.heap.size) m0 a0 n0 c0 from by rw [hW]; exact (Box.new _ _ _ _ _ _ _ (by simp)).below (below_alloc _ _)) (Live.add_box (show Box W (w.heap.size + 1) m1 a1 n1 c1 from by rw [hW]; exact Box.new _ _ _ _ _ _ _ (by simp)) (Live.nil W))) (Live.add_num (h0.below HB0.out) (Live.add_num (h1.below HB0.out) (Live.nil W))) HB0.out)
  clear hW HB0
  obtain ⟨bx_0, bx_1⟩ := S0.out.b.c
  obtain ⟨by_0, by_1⟩ := S0.out.b.t.c
  clear h0 h1
  go_wp2_with fail
  refine (text_any S0.out.n.num (HT.out.below S0.out.h)).mono ?_
  rintro e w1 ⟨rfl, hB⟩
  rw [← HU.out]
  have S1 := Lib.hid (S0.out.step hB)
  clear bx_0 bx_1 by_0 by_1
  clear S0 hB
  obtain ⟨bx_0, bx_1⟩ := S1.out.b.c
  obtain ⟨by_0, by_1⟩ := S1.out.b.t.c
  go_wp2_with fail
  have bd_a : Bd (x) 20 := bd_x
  refine (zof_any S1.out.n.num).mono ?_
  rintro e w2 ⟨a_m, a_0, a_n, a_c, rfl, hX, hB⟩
  have S2 := Lib.hid ((S1.out.step hB).zed (hX.zx bd_a (by omega)))
  clear bx_0 bx_1 by_0 by_1
  clear S1 hX hB
  obtain ⟨bx_0, bx_1⟩ := S2.out.b.c
  obtain ⟨by_0, by_1⟩ := S2.out.b.t.c
  go_upto_region 5 with (fail)
  refine wp_world (fun w3 hW => ?_)
  clear bx_0 bx_1 by_0 by_1
  have S3 := Lib.hid (S2.out.alloc (w2.heap.size) a_m a_0 a_n a_c 34 (by simp))
  rw [← hW] at S3
  clear hW S2
  obtain ⟨bx_0, bx_1⟩ := S3.out.b.t.c
  obtain ⟨by_0, by_1⟩ := S3.out.b.t.t.c
  obtain ⟨b_a_0, b_a_1⟩ := S3.out.b.c
  have bd_b : Bd (y) 20 := bd_y
  have EQ1 := Lib.hid (show cmpZ x y = c from HC.out)
  clear bx_0 bx_1 by_0 by_1 b_a_0 b_a_1
  have S4 := Lib.hid S3.out.drew
  clear S3
  refine wp_region_held_drew (S := fun w' => (w'.cell? ⟨(w.heap.size + 1), 0, none⟩ = some (.bool m1) ∧ w'.cell? ⟨(w.heap.size + 1), 1, none⟩ = some (.slice a1 n1 c1)) ∧ (w'.cell? ⟨(w2.heap.size), 0, none⟩ = some (.bool a_m) ∧ w'.cell? ⟨(w2.heap.size), 1, none⟩ = some (.slice a_0 a_n a_c))) (by kernel_rfl) (⟨S4.out.b.t.t.c, S4.out.b.c⟩) (fun hH => ?_)
  refine anyH_world (fun w4 hW => ?_)
  rw [← hW] at S4 hH
  clear hW
  refine step_on 0 rfl (by kernel_rfl) (fun _ _ _ h => h) (by rfl) hH (by intro w hS; go_simp <;> with_reducible rfl) ?_
  try simp only [nrm]
  refine step_on 1 rfl (by kernel_rfl) (fun _ _ _ h => h) (by rfl) hH (by intro w hS; go_simp <;> with_reducible rfl) ?_
  try simp only [nrm]
  refine step_on 4 rfl (by kernel_rfl) (fun _ _ _ h => h) (by rfl) hH (by intro w hS; go_simp <;> with_reducible rfl) ?_
  try simp only [nrm]
  refine step_on 5 rfl (by kernel_rfl) (fun _ _ _ h => h) (by rfl) hH (by intro w hS; go_simp <;> with_reducible rfl) ?_
  try simp only [nrm]
  refine step_one 2 rfl (by kernel_rfl) (fun K hK => ?_)
  go_simp
  refine (text_any S4.out.n.t.t.num (HT.out.below S4.out.h)).mono ?_
  rintro e w5 ⟨rfl, hB⟩
  rw [← HV.out]
  have S5 := Lib.hid (S4.out.step hB)
  clear S4 hB
  go_wp2_with fail
  refine hK.out _ _ ⟨S5.out.b.t.t.c, S5.out.b.c⟩ (fun h2 => ?_)
  clear hK K hH
  have hH := h2
  clear h2
  try simp only [nrm]
  refine step_on 3 rfl (by kernel_rfl) (fun _ _ _ h => h) (by rfl) hH (by intro w hS; go_simp <;> with_reducible rfl) ?_
  try simp only [nrm]
  refine step_one 6 rfl (by kernel_rfl) (fun K hK => ?_)
  go_simp
  refine (zof_any S5.out.n.t.t.num).mono ?_
  rintro e w6 ⟨b_m, b_0, b_n, b_c, rfl, hX, hB⟩
  have S6 := Lib.hid ((S5.out.step hB).zed (hX.zx bd_b (by omega)))
  clear S5 hX hB
  go_wp2_with fail
  refine hK.out _ _ ⟨S6.out.b.t.t.c, S6.out.b.c⟩ (fun h2 => ?_)
  clear hK K hH
  have hH := h2
  clear h2
  try simp only [nrm]
  refine step_one 7 rfl (by kernel_rfl) (fun K hK => ?_)
  go_simp
  refine (zcmp_is (c) S6.out.n.t.zed S6.out.n.zed (bd_a.mono (show 20 ≤ 20 by omega)) (bd_b.mono (show 20 ≤ 20 by omega)) (by omega) EQ1.out).mono ?_
  rintro e w7 ⟨rfl, hB⟩
  have S7 := Lib.hid (S6.out.step hB)
  clear S6 hB
  go_wp2_with fail
  refine hK.out _ _ ⟨S7.out.b.t.t.c, S7.out.b.c⟩ (fun h2 => ?_)
  clear hK K hH
  have hH := h2
  clear h2
  try simp only [nrm]
  refine step_on 8 rfl (by kernel_rfl) (fun _ _ _ h => h) (by rfl) hH (by intro w hS; go_simp <;> with_reducible rfl) ?_
  try simp only [nrm]
  refine step_on 9 rfl (by kernel_rfl) (fun _ _ _ h => h) (by rfl) hH (by intro w hS; go_simp <;> with_reducible rfl) ?_
  try simp only [nrm]
  refine wpAnyH_done (by kernel_rfl) ?_ _
  clear hH
  obtain ⟨bx_0, bx_1⟩ := S7.out.b.t.c
  obtain ⟨by_0, by_1⟩ := S7.out.b.t.t.c
  obtain ⟨b_a_0, b_a_1⟩ := S7.out.b.c
  go_wp2_with fail
  have EQ2 := Lib.hid (show (x : Int).sign = 0 from by rw [HX0.out]; rfl)
  refine (zsign_is (0) S7.out.n.t.zed EQ2.out).mono ?_
  rintro e w8 ⟨rfl, hB⟩
  have S8 := Lib.hid (S7.out.step hB)
  clear bx_0 bx_1 by_0 by_1 b_a_0 b_a_1
  clear S7 hB
  obtain ⟨bx_0, bx_1⟩ := S8.out.b.t.c
  obtain ⟨by_0, by_1⟩ := S8.out.b.t.t.c
  obtain ⟨b_a_0, b_a_1⟩ := S8.out.b.c
  go_wp2_with fail
  refine (tknown5 _ (HT.out.below S8.out.h)).mono ?_
  rintro e w9 ⟨rfl, hB⟩
  have S9 := Lib.hid (S8.out.step hB)
  clear bx_0 bx_1 by_0 by_1 b_a_0 b_a_1
  clear S8 hB
  obtain ⟨bx_0, bx_1⟩ := S9.out.b.t.c
  obtain ⟨by_0, by_1⟩ := S9.out.b.t.t.c
  obtain ⟨b_a_0, b_a_1⟩ := S9.out.b.c
  go_wp2_with fail
  go_ret
  exact ⟨rfl, S9.out.h⟩

set_option maxHeartbeats 1000000 in
set_option maxRecDepth 100000 in
theorem dshifts_some (p : Nat) {m0 : Bool} {a0 : Option Addr} {n0 c0 : Nat} {m1 : Bool} {a1 : Option Addr} {n1 c1 : Nat} {x y : Int} {w : World} (h0 : Nx w m0 a0 n0 c0 x) (h1 : Nx w m1 a1 n1 c1 y) (l0 : n0 ≤ 20) (l1 : n1 ≤ 20) (hp : p ≤ 30) (ht : Tab w) (hx0 : x ≠ 0) :
    Calls Tryd.prog 6 #[.agg #[.bool m0, .slice a0 n0 c0], .agg #[.bool m1, .slice a1 n1 c1], .int .u8 (p : Int)] w (RetB (.bool true) w) := by
  have HT := Lib.hid ht
  have HX0 := Lib.hid hx0
  have bd_x : Bd (x) 20 := h0.inn.bd l0
  have bd_y : Bd (y) 20 := h1.inn.bd l1
  have hq1 : decide (20 < n0) = false := by simp; omega
  have hq2 : decide (20 < n1) = false := by simp; omega
  have hq3 : decide (30 < ((p : Nat) : Int)) = false := by simp; omega
  obtain ⟨u, hu⟩ : ∃ u : ByteArray, u = ⟨(Lib.itoa x).toArray⟩ := ⟨_, rfl⟩
  obtain ⟨v, hv⟩ : ∃ v : ByteArray, v = ⟨(Lib.itoa y).toArray⟩ := ⟨_, rfl⟩
  obtain ⟨r, hr⟩ : ∃ r : Bool, decide (x = y) = r := ⟨_, rfl⟩
  obtain ⟨c, hc⟩ : ∃ c, cmpZ x y = c := ⟨_, rfl⟩
  have e1 : (u.toList == v.toList) = r := by rw [← hr]; exact txt_eq hu hv
  have e2 : (c == 0) = r := by rw [← hr, ← hc]; exact cmp_eq x y
  have HU := Lib.hid hu
  have HV := Lib.hid hv
  have HC := Lib.hid hc
  have bd_ten : Bd ((10 : Int)) 2 := by unfold Bd; decide
  have bd_tw : Bd (((10 : Int) ^ p)) 61 := (bd_ten.pow p).mono (by omega)
  have bd_pp : Bd ((x * ((10 : Int) ^ p))) 81 := bd_x.mul bd_tw
  have bd_vv : Bd (((x.natAbs : Nat) : Int)) 20 := by have h := bd_x; unfold Bd at h ⊢; simpa using h
  have bd_mm : Bd ((-((x.natAbs : Nat) : Int))) 20 := bd_vv.neg
  obtain ⟨rp, hrp⟩ : ∃ rp : ByteArray, rp = ⟨(List.replicate p (48 : UInt8)).toArray⟩ := ⟨_, rfl⟩
  obtain ⟨s1, hs1⟩ : ∃ s1 : ByteArray, s1 = ⟨(Lib.itoa (x * 10 ^ p)).toArray⟩ := ⟨_, rfl⟩
  obtain ⟨t, ht2⟩ : ∃ t : ByteArray, t = ⟨(Lib.itoa (x.natAbs : Int)).toArray⟩ := ⟨_, rfl⟩
  obtain ⟨s2, hs2⟩ : ∃ s2 : ByteArray, s2 = ⟨(Lib.itoa (-(x.natAbs : Int))).toArray⟩ := ⟨_, rfl⟩
  obtain ⟨sx, hsx⟩ : ∃ sx, x.sign = sx := ⟨_, rfl⟩
  obtain ⟨q, hq⟩ : ∃ q : Bool, decide (x < 0) = q := ⟨_, rfl⟩
  have hadd : ∀ W : World, (Op.stringOp .add u rp).run Tryd.prog W = .ok (.string s1) W := add_txt hx0 bd_x hp hu hrp hs1
  have hmin : ∀ W : World, (Op.stringOp .add ⟨#[45]⟩ t).run Tryd.prog W = .ok (.string s2) W := minus_txt hx0 bd_x ht2 hs2
  have e3 : (sx == 0) = false := by rw [← hsx]; simp; exact hx0
  have e4 : decide (sx < 0) = q := by
    rw [← hsx, ← hq, Bool.eq_iff_iff]; simp
  have HRP := Lib.hid hrp
  have HS1 := Lib.hid hs1
  have HT2 := Lib.hid ht2
  have HS2 := Lib.hid hs2
  have HSX := Lib.hid hsx
  have HQ := Lib.hid hq
  clear hrp hs1 ht2 hs2 hsx hq
  clear hu hv hr hc ht hx0
  go_enter Tryd.func6, Tryd.ntmps6
  go_upto_region 1 with (fail)
  refine wp_world (fun W hW => ?_)
  have HB0 : Hid (Below w.heap.size w W) := by rw [hW]; exact step_alloc (below_alloc _ _)
  have S0 : Hid (St w W _ _) := Lib.hid (St.mk (Live.add_box (show Box W (w.heap.size) m0 a0 n0 c0 from by rw [hW]; exact (Box.new _ _ _ _ _ _ _ (by simp)).below (below_alloc _ _)) (Live.add_box (show Box W (w.heap.size + 1) m1 a1 n1 c1 from by rw [hW]; exact Box.new _ _ _ _ _ _ _ (by simp)) (Live.nil W))) (Live.add_num (h0.below HB0.out) (Live.add_num (h1.below HB0.out) (Live.nil W))) HB0.out)
  clear hW HB0
  obtain ⟨bx_0, bx_1⟩ := S0.out.b.c
  obtain ⟨by_0, by_1⟩ := S0.out.b.t.c
  clear h0 h1
  go_wp2_with fail
  refine (text_any S0.out.n.num (HT.out.below S0.out.h)).mono ?_
  rintro e w1 ⟨rfl, hB⟩
  rw [← HU.out]
  have S1 := Lib.hid (S0.out.step hB)
  clear bx_0 bx_1 by_0 by_1
  clear S0 hB
  obtain ⟨bx_0, bx_1⟩ := S1.out.b.c
  obtain ⟨by_0, by_1⟩ := S1.out.b.t.c
  go_wp2_with fail
  have bd_a : Bd (x) 20 := bd_x
  refine (zof_any S1.out.n.num).mono ?_
  rintro e w2 ⟨a_m, a_0, a_n, a_c, rfl, hX, hB⟩
  have S2 := Lib.hid ((S1.out.step hB).zed (hX.zx bd_a (by omega)))
  clear bx_0 bx_1 by_0 by_1
  clear S1 hX hB
  obtain ⟨bx_0, bx_1⟩ := S2.out.b.c
  obtain ⟨by_0, by_1⟩ := S2.out.b.t.c
  go_upto_region 5 with (fail)
  refine wp_world (fun w3 hW => ?_)
  clear bx_0 bx_1 by_0 by_1
  have S3 := Lib.hid (S2.out.alloc (w2.heap.size) a_m a_0 a_n a_c 34 (by simp))
  rw [← hW] at S3
  clear hW S2
  obtain ⟨bx_0, bx_1⟩ := S3.out.b.t.c
  obtain ⟨by_0, by_1⟩ := S3.out.b.t.t.c
  obtain ⟨b_a_0, b_a_1⟩ := S3.out.b.c
  have bd_b : Bd (y) 20 := bd_y
  have EQ1 := Lib.hid (show cmpZ x y = c from HC.out)
  clear bx_0 bx_1 by_0 by_1 b_a_0 b_a_1
  have S4 := Lib.hid S3.out.drew
  clear S3
  refine wp_region_held_drew (S := fun w' => (w'.cell? ⟨(w.heap.size + 1), 0, none⟩ = some (.bool m1) ∧ w'.cell? ⟨(w.heap.size + 1), 1, none⟩ = some (.slice a1 n1 c1)) ∧ (w'.cell? ⟨(w2.heap.size), 0, none⟩ = some (.bool a_m) ∧ w'.cell? ⟨(w2.heap.size), 1, none⟩ = some (.slice a_0 a_n a_c))) (by kernel_rfl) (⟨S4.out.b.t.t.c, S4.out.b.c⟩) (fun hH => ?_)
  refine anyH_world (fun w4 hW => ?_)
  rw [← hW] at S4 hH
  clear hW
  refine step_on 0 rfl (by kernel_rfl) (fun _ _ _ h => h) (by rfl) hH (by intro w hS; go_simp <;> with_reducible rfl) ?_
  try simp only [nrm]
  refine step_on 1 rfl (by kernel_rfl) (fun _ _ _ h => h) (by rfl) hH (by intro w hS; go_simp <;> with_reducible rfl) ?_
  try simp only [nrm]
  refine step_on 4 rfl (by kernel_rfl) (fun _ _ _ h => h) (by rfl) hH (by intro w hS; go_simp <;> with_reducible rfl) ?_
  try simp only [nrm]
  refine step_on 5 rfl (by kernel_rfl) (fun _ _ _ h => h) (by rfl) hH (by intro w hS; go_simp <;> with_reducible rfl) ?_
  try simp only [nrm]
  refine step_one 2 rfl (by kernel_rfl) (fun K hK => ?_)
  go_simp
  refine (text_any S4.out.n.t.t.num (HT.out.below S4.out.h)).mono ?_
  rintro e w5 ⟨rfl, hB⟩
  rw [← HV.out]
  have S5 := Lib.hid (S4.out.step hB)
  clear S4 hB
  go_wp2_with fail
  refine hK.out _ _ ⟨S5.out.b.t.t.c, S5.out.b.c⟩ (fun h2 => ?_)
  clear hK K hH
  have hH := h2
  clear h2
  try simp only [nrm]
  refine step_on 3 rfl (by kernel_rfl) (fun _ _ _ h => h) (by rfl) hH (by intro w hS; go_simp <;> with_reducible rfl) ?_
  try simp only [nrm]
  refine step_one 6 rfl (by kernel_rfl) (fun K hK => ?_)
  go_simp
  refine (zof_any S5.out.n.t.t.num).mono ?_
  rintro e w6 ⟨b_m, b_0, b_n, b_c, rfl, hX, hB⟩
  have S6 := Lib.hid ((S5.out.step hB).zed (hX.zx bd_b (by omega)))
  clear S5 hX hB
  go_wp2_with fail
  refine hK.out _ _ ⟨S6.out.b.t.t.c, S6.out.b.c⟩ (fun h2 => ?_)
  clear hK K hH
  have hH := h2
  clear h2
  try simp only [nrm]
  refine step_one 7 rfl (by kernel_rfl) (fun K hK => ?_)
  go_simp
  refine (zcmp_is (c) S6.out.n.t.zed S6.out.n.zed (bd_a.mono (show 20 ≤ 20 by omega)) (bd_b.mono (show 20 ≤ 20 by omega)) (by omega) EQ1.out).mono ?_
  rintro e w7 ⟨rfl, hB⟩
  have S7 := Lib.hid (S6.out.step hB)
  clear S6 hB
  go_wp2_with fail
  refine hK.out _ _ ⟨S7.out.b.t.t.c, S7.out.b.c⟩ (fun h2 => ?_)
  clear hK K hH
  have hH := h2
  clear h2
  try simp only [nrm]
  refine step_on 8 rfl (by kernel_rfl) (fun _ _ _ h => h) (by rfl) hH (by intro w hS; go_simp <;> with_reducible rfl) ?_
  try simp only [nrm]
  refine step_on 9 rfl (by kernel_rfl) (fun _ _ _ h => h) (by rfl) hH (by intro w hS; go_simp <;> with_reducible rfl) ?_
  try simp only [nrm]
  refine wpAnyH_done (by kernel_rfl) ?_ _
  clear hH
  obtain ⟨bx_0, bx_1⟩ := S7.out.b.t.c
  obtain ⟨by_0, by_1⟩ := S7.out.b.t.t.c
  obtain ⟨b_a_0, b_a_1⟩ := S7.out.b.c
  go_wp2_with fail
  have EQ2 := Lib.hid (show (x : Int).sign = sx from HSX.out)
  refine (zsign_is (sx) S7.out.n.t.zed EQ2.out).mono ?_
  rintro e w8 ⟨rfl, hB⟩
  have S8 := Lib.hid (S7.out.step hB)
  clear bx_0 bx_1 by_0 by_1 b_a_0 b_a_1
  clear S7 hB
  obtain ⟨bx_0, bx_1⟩ := S8.out.b.t.c
  obtain ⟨by_0, by_1⟩ := S8.out.b.t.t.c
  obtain ⟨b_a_0, b_a_1⟩ := S8.out.b.c
  go_wp2_with fail
  refine (rep_any p (by omega) rp HRP.out _).mono ?_
  rintro e w9 ⟨rfl, hB⟩
  have S9 := Lib.hid (S8.out.step hB)
  clear bx_0 bx_1 by_0 by_1 b_a_0 b_a_1
  clear S8 hB
  obtain ⟨bx_0, bx_1⟩ := S9.out.b.t.c
  obtain ⟨by_0, by_1⟩ := S9.out.b.t.t.c
  obtain ⟨b_a_0, b_a_1⟩ := S9.out.b.c
  go_wp2_with fail
  have bd_t := bd_pp
  refine (parse_itoa bd_pp (by omega) s1 HS1.out _).mono ?_
  rintro e w10 ⟨t_m, t_0, t_n, t_c, rfl, hX, hB⟩
  have S10 := Lib.hid ((S9.out.step hB).can (hX.cx bd_t (by omega)))
  clear bx_0 bx_1 by_0 by_1 b_a_0 b_a_1
  clear S9 hX hB
  obtain ⟨bx_0, bx_1⟩ := S10.out.b.t.c
  obtain ⟨by_0, by_1⟩ := S10.out.b.t.t.c
  obtain ⟨b_a_0, b_a_1⟩ := S10.out.b.c
  go_upto_region 10 with (fail)
  refine wp_world (fun w11 hW => ?_)
  clear bx_0 bx_1 by_0 by_1 b_a_0 b_a_1
  have S11 := Lib.hid (S10.out.alloc (w10.heap.size) t_m t_0 t_n t_c 24 (by simp))
  rw [← hW] at S11
  clear hW S10
  obtain ⟨bx_0, bx_1⟩ := S11.out.b.t.t.c
  obtain ⟨by_0, by_1⟩ := S11.out.b.t.t.t.c
  obtain ⟨b_a_0, b_a_1⟩ := S11.out.b.t.c
  obtain ⟨b_t_0, b_t_1⟩ := S11.out.b.c
  go_cut [11] from 64 to 69 (fun sl0 w9 => ∃ (bb0 : Nat) (qm0 : Bool) (q0 : Option Addr) (qn0 : Nat) (qc0 : Nat), sl0 = .pointer (some ⟨bb0, 0, none⟩) ∧ Hid (St w w9 [.box bb0 qm0 q0 qn0 qc0, .box (w10.heap.size) t_m t_0 t_n t_c, .box (w2.heap.size) a_m a_0 a_n a_c, .box (w.heap.size) m0 a0 n0 c0, .box (w.heap.size + 1) m1 a1 n1 c1] [.zed qm0 q0 qn0 qc0 (x * ((10 : Int) ^ p)), .can t_m t_0 t_n t_c (x * ((10 : Int) ^ p)), .zed b_m b_0 b_n b_c y, .zed a_m a_0 a_n a_c x, .num m0 a0 n0 c0 x, .num m1 a1 n1 c1 y]))
  case first =>
    clear bx_0 bx_1 by_0 by_1 b_a_0 b_a_1 b_t_0 b_t_1
    have S12 := Lib.hid S11.out.drew
    clear S11
    refine wp_region_held_drew (S := fun w' => (w'.cell? ⟨(w2.heap.size), 0, none⟩ = some (.bool a_m) ∧ w'.cell? ⟨(w2.heap.size), 1, none⟩ = some (.slice a_0 a_n a_c))) (by kernel_rfl) (S12.out.b.t.c) (fun hH => ?_)
    refine anyH_world (fun w12 hW => ?_)
    rw [← hW] at S12 hH
    clear hW
    refine step_on 0 rfl (by kernel_rfl) (fun _ _ _ h => h) (by rfl) hH (by intro w hS; go_simp <;> with_reducible rfl) ?_
    try simp only [nrm]
    refine step_on 2 rfl (by kernel_rfl) (fun _ _ _ h => h) (by rfl) hH (by intro w hS; go_simp <;> with_reducible rfl) ?_
    try simp only [nrm]
    refine step_on 3 rfl (by kernel_rfl) (fun _ _ _ h => h) (by rfl) hH (by intro w hS; go_simp <;> with_reducible rfl) ?_
    try simp only [nrm]
    refine wpAnyH_ready (rs := [1, 6]) (by kernel_rfl) (by simp) (ready_cons rfl (fun K hK => ?_) (ready_cons rfl (fun K hK => ?_) (AllReadyH.nil)))
    · go_simp
      refine (zsmall_any (10 : Int) _ ⟨by omega, by omega⟩).mono ?_
      rintro e w13 ⟨ten_m, ten_0, ten_n, ten_c, rfl, hX, hB⟩
      have S13 := Lib.hid ((S12.out.step hB).zed (hX.zx bd_ten (by omega)))
      clear S12 hX
      clear hB
      go_wp2_with fail
      refine hK.out _ _ (S13.out.b.t.c) (fun h2 => ?_)
      clear hK K hH
      have hH := h2
      clear h2
      try simp only [nrm]
      refine wpAnyH_ready (rs := [4, 6]) (by kernel_rfl) (by simp) (ready_cons rfl (fun K hK => ?_) (ready_cons rfl (fun K hK => ?_) (AllReadyH.nil)))
      · go_simp
        refine (zpow_w p S13.out.n.zed bd_ten (by omega) (by omega)).mono ?_
        rintro e w14 ⟨tw_m, tw_0, tw_n, tw_c, rfl, hX, hB⟩
        have S14 := Lib.hid ((S13.out.step hB).zed (hX.zx bd_tw (by omega)))
        clear S13 hX
        clear hB
        go_wp2_with fail
        refine hK.out _ _ (S14.out.b.t.c) (fun h2 => ?_)
        clear hK K hH
        have hH := h2
        clear h2
        try simp only [nrm]
        refine wpAnyH_ready (rs := [5, 6]) (by kernel_rfl) (by simp) (ready_cons rfl (fun K hK => ?_) (ready_cons rfl (fun K hK => ?_) (AllReadyH.nil)))
        · go_simp
          refine (zmul_any S14.out.n.t.t.t.t.zed S14.out.n.zed).mono ?_
          rintro e w15 ⟨pp_m, pp_0, pp_n, pp_c, rfl, hX, hB⟩
          have S15 := Lib.hid ((S14.out.step hB).zed (hX.zx bd_pp (by omega)))
          clear S14 hX
          clear hB
          go_wp2_with fail
          refine hK.out _ _ (S15.out.b.t.c) (fun h2 => ?_)
          clear hK K hH
          have hH := h2
          clear h2
          try simp only [nrm]
          refine wpAnyH_ready (rs := [6]) (by kernel_rfl) (by simp) (ready_cons rfl (fun K hK => ?_) (AllReadyH.nil))
          · go_simp
            have U6 := under_of S15.out.b
            have z6 := S15.out.h.size
            have S16 := Lib.hid (S15.out.step (below_alloc w15 (.cells #[.bool false, .slice none 0 0] 34)))
            have V6_16 := Lib.hid (Box.new w15 w15.heap.size false none 0 0 34 rfl)
            clear S15
            refine hK.out _ _ (S16.out.b.t.c) (fun h2 => ?_)
            clear hK K hH
            have hH := h2
            clear h2
            try simp only [nrm]
            refine anyH_world (fun w16 hW => ?_)
            rw [← hW] at S16 hH V6_16
            clear hW
            have sb0 := V6_16.out.c0
            have sb1 := V6_16.out.c1
            have sb2 := V6_16.out.f0
            have sb3 := V6_16.out.f1
            refine step_one 7 rfl (by kernel_rfl) (fun K hK => ?_)
            go_simp
            have S17 := Lib.hid (S16.out.put V6_16.out (.bool pp_m) (.slice pp_0 pp_n pp_c) z6 (under_apart U6) (nums_apart rfl))
            have V6_17 := Lib.hid (V6_16.out.set pp_m pp_0 pp_n pp_c)
            clear S16 V6_16 sb0 sb1 sb2 sb3
            refine hK.out _ _ (S17.out.b.t.c) (fun h2 => ?_)
            clear hK K hH
            have hH := h2
            clear h2
            try simp only [nrm]
            refine anyH_world (fun w17 hW => ?_)
            rw [← hW] at S17 hH V6_17
            clear hW
            refine wpAnyH_done (by kernel_rfl) ?_ _
            go_wp2_with fail
            go_meet
            case rel => exact ⟨_, _, _, _, _, rfl, (Live.add_box V6_17.out S17.out.b), (Live.add_zed S17.out.n.zed S17.out.n.t.t.t), S17.out.h⟩
        · go_simp
          have U6 := under_of S14.out.b
          have z6 := S14.out.h.size
          have S15 := Lib.hid (S14.out.step (below_alloc w14 (.cells #[.bool false, .slice none 0 0] 34)))
          have V6_15 := Lib.hid (Box.new w14 w14.heap.size false none 0 0 34 rfl)
          clear S14
          refine hK.out _ _ (S15.out.b.t.c) (fun h2 => ?_)
          clear hK K hH
          have hH := h2
          clear h2
          try simp only [nrm]
          refine anyH_world (fun w15 hW => ?_)
          rw [← hW] at S15 hH V6_15
          clear hW
          refine wpAnyH_ready (rs := [5]) (by kernel_rfl) (by simp) (ready_cons rfl (fun K hK => ?_) (AllReadyH.nil))
          · go_simp
            refine (zmul_any S15.out.n.t.t.t.t.zed S15.out.n.zed).mono ?_
            rintro e w16 ⟨pp_m, pp_0, pp_n, pp_c, rfl, hX, hB⟩
            have S16 := Lib.hid ((S15.out.step hB).zed (hX.zx bd_pp (by omega)))
            clear S15 hX
            have V6_16 := Lib.hid (V6_15.out.below hB)
            clear V6_15
            clear hB
            go_wp2_with fail
            refine hK.out _ _ (S16.out.b.t.c) (fun h2 => ?_)
            clear hK K hH
            have hH := h2
            clear h2
            try simp only [nrm]
            have sb0 := V6_16.out.c0
            have sb1 := V6_16.out.c1
            have sb2 := V6_16.out.f0
            have sb3 := V6_16.out.f1
            refine step_one 7 rfl (by kernel_rfl) (fun K hK => ?_)
            go_simp
            have S17 := Lib.hid (S16.out.put V6_16.out (.bool pp_m) (.slice pp_0 pp_n pp_c) z6 (under_apart U6) (nums_apart rfl))
            have V6_17 := Lib.hid (V6_16.out.set pp_m pp_0 pp_n pp_c)
            clear S16 V6_16 sb0 sb1 sb2 sb3
            refine hK.out _ _ (S17.out.b.t.c) (fun h2 => ?_)
            clear hK K hH
            have hH := h2
            clear h2
            try simp only [nrm]
            refine anyH_world (fun w17 hW => ?_)
            rw [← hW] at S17 hH V6_17
            clear hW
            refine wpAnyH_done (by kernel_rfl) ?_ _
            go_wp2_with fail
            go_meet
            case rel => exact ⟨_, _, _, _, _, rfl, (Live.add_box V6_17.out S17.out.b), (Live.add_zed S17.out.n.zed S17.out.n.t.t.t), S17.out.h⟩
      · go_simp
        have U6 := under_of S13.out.b
        have z6 := S13.out.h.size
        have S14 := Lib.hid (S13.out.step (below_alloc w13 (.cells #[.bool false, .slice none 0 0] 34)))
        have V6_14 := Lib.hid (Box.new w13 w13.heap.size false none 0 0 34 rfl)
        clear S13
        refine hK.out _ _ (S14.out.b.t.c) (fun h2 => ?_)
        clear hK K hH
        have hH := h2
        clear h2
        try simp only [nrm]
        refine anyH_world (fun w14 hW => ?_)
        rw [← hW] at S14 hH V6_14
        clear hW
        refine wpAnyH_ready (rs := [4]) (by kernel_rfl) (by simp) (ready_cons rfl (fun K hK => ?_) (AllReadyH.nil))
        · go_simp
          refine (zpow_w p S14.out.n.zed bd_ten (by omega) (by omega)).mono ?_
          rintro e w15 ⟨tw_m, tw_0, tw_n, tw_c, rfl, hX, hB⟩
          have S15 := Lib.hid ((S14.out.step hB).zed (hX.zx bd_tw (by omega)))
          clear S14 hX
          have V6_15 := Lib.hid (V6_14.out.below hB)
          clear V6_14
          clear hB
          go_wp2_with fail
          refine hK.out _ _ (S15.out.b.t.c) (fun h2 => ?_)
          clear hK K hH
          have hH := h2
          clear h2
          try simp only [nrm]
          refine wpAnyH_ready (rs := [5]) (by kernel_rfl) (by simp) (ready_cons rfl (fun K hK => ?_) (AllReadyH.nil))
          · go_simp
            refine (zmul_any S15.out.n.t.t.t.t.zed S15.out.n.zed).mono ?_
            rintro e w16 ⟨pp_m, pp_0, pp_n, pp_c, rfl, hX, hB⟩
            have S16 := Lib.hid ((S15.out.step hB).zed (hX.zx bd_pp (by omega)))
            clear S15 hX
            have V6_16 := Lib.hid (V6_15.out.below hB)
            clear V6_15
            clear hB
            go_wp2_with fail
            refine hK.out _ _ (S16.out.b.t.c) (fun h2 => ?_)
            clear hK K hH
            have hH := h2
            clear h2
            try simp only [nrm]
            have sb0 := V6_16.out.c0
            have sb1 := V6_16.out.c1
            have sb2 := V6_16.out.f0
            have sb3 := V6_16.out.f1
            refine step_one 7 rfl (by kernel_rfl) (fun K hK => ?_)
            go_simp
            have S17 := Lib.hid (S16.out.put V6_16.out (.bool pp_m) (.slice pp_0 pp_n pp_c) z6 (under_apart U6) (nums_apart rfl))
            have V6_17 := Lib.hid (V6_16.out.set pp_m pp_0 pp_n pp_c)
            clear S16 V6_16 sb0 sb1 sb2 sb3
            refine hK.out _ _ (S17.out.b.t.c) (fun h2 => ?_)
            clear hK K hH
            have hH := h2
            clear h2
            try simp only [nrm]
            refine anyH_world (fun w17 hW => ?_)
            rw [← hW] at S17 hH V6_17
            clear hW
            refine wpAnyH_done (by kernel_rfl) ?_ _
            go_wp2_with fail
            go_meet
            case rel => exact ⟨_, _, _, _, _, rfl, (Live.add_box V6_17.out S17.out.b), (Live.add_zed S17.out.n.zed S17.out.n.t.t.t), S17.out.h⟩
    · go_simp
      have U6 := under_of S12.out.b
      have z6 := S12.out.h.size
      have S13 := Lib.hid (S12.out.step (below_alloc w12 (.cells #[.bool false, .slice none 0 0] 34)))
      have V6_13 := Lib.hid (Box.new w12 w12.heap.size false none 0 0 34 rfl)
      clear S12
      refine hK.out _ _ (S13.out.b.t.c) (fun h2 => ?_)
      clear hK K hH
      have hH := h2
      clear h2
      try simp only [nrm]
      refine anyH_world (fun w13 hW => ?_)
      rw [← hW] at S13 hH V6_13
      clear hW
      refine wpAnyH_ready (rs := [1]) (by kernel_rfl) (by simp) (ready_cons rfl (fun K hK => ?_) (AllReadyH.nil))
      · go_simp
        refine (zsmall_any (10 : Int) _ ⟨by omega, by omega⟩).mono ?_
        rintro e w14 ⟨ten_m, ten_0, ten_n, ten_c, rfl, hX, hB⟩
        have S14 := Lib.hid ((S13.out.step hB).zed (hX.zx bd_ten (by omega)))
        clear S13 hX
        have V6_14 := Lib.hid (V6_13.out.below hB)
        clear V6_13
        clear hB
        go_wp2_with fail
        refine hK.out _ _ (S14.out.b.t.c) (fun h2 => ?_)
        clear hK K hH
        have hH := h2
        clear h2
        try simp only [nrm]
        refine wpAnyH_ready (rs := [4]) (by kernel_rfl) (by simp) (ready_cons rfl (fun K hK => ?_) (AllReadyH.nil))
        · go_simp
          refine (zpow_w p S14.out.n.zed bd_ten (by omega) (by omega)).mono ?_
          rintro e w15 ⟨tw_m, tw_0, tw_n, tw_c, rfl, hX, hB⟩
          have S15 := Lib.hid ((S14.out.step hB).zed (hX.zx bd_tw (by omega)))
          clear S14 hX
          have V6_15 := Lib.hid (V6_14.out.below hB)
          clear V6_14
          clear hB
          go_wp2_with fail
          refine hK.out _ _ (S15.out.b.t.c) (fun h2 => ?_)
          clear hK K hH
          have hH := h2
          clear h2
          try simp only [nrm]
          refine wpAnyH_ready (rs := [5]) (by kernel_rfl) (by simp) (ready_cons rfl (fun K hK => ?_) (AllReadyH.nil))
          · go_simp
            refine (zmul_any S15.out.n.t.t.t.t.zed S15.out.n.zed).mono ?_
            rintro e w16 ⟨pp_m, pp_0, pp_n, pp_c, rfl, hX, hB⟩
            have S16 := Lib.hid ((S15.out.step hB).zed (hX.zx bd_pp (by omega)))
            clear S15 hX
            have V6_16 := Lib.hid (V6_15.out.below hB)
            clear V6_15
            clear hB
            go_wp2_with fail
            refine hK.out _ _ (S16.out.b.t.c) (fun h2 => ?_)
            clear hK K hH
            have hH := h2
            clear h2
            try simp only [nrm]
            have sb0 := V6_16.out.c0
            have sb1 := V6_16.out.c1
            have sb2 := V6_16.out.f0
            have sb3 := V6_16.out.f1
            refine step_one 7 rfl (by kernel_rfl) (fun K hK => ?_)
            go_simp
            have S17 := Lib.hid (S16.out.put V6_16.out (.bool pp_m) (.slice pp_0 pp_n pp_c) z6 (under_apart U6) (nums_apart rfl))
            have V6_17 := Lib.hid (V6_16.out.set pp_m pp_0 pp_n pp_c)
            clear S16 V6_16 sb0 sb1 sb2 sb3
            refine hK.out _ _ (S17.out.b.t.c) (fun h2 => ?_)
            clear hK K hH
            have hH := h2
            clear h2
            try simp only [nrm]
            refine anyH_world (fun w17 hW => ?_)
            rw [← hW] at S17 hH V6_17
            clear hW
            refine wpAnyH_done (by kernel_rfl) ?_ _
            go_wp2_with fail
            go_meet
            case rel => exact ⟨_, _, _, _, _, rfl, (Live.add_box V6_17.out S17.out.b), (Live.add_zed S17.out.n.zed S17.out.n.t.t.t), S17.out.h⟩
  case rest =>
  clear bx_0 bx_1 by_0 by_1 b_a_0 b_a_1 b_t_0 b_t_1
  clear S11
  obtain ⟨b_pp, pp_m, pp_0, pp_n, pp_c, rfl, S12⟩ := hcut
  obtain ⟨w12, hW⟩ : ∃ w12, w12 = wc := ⟨_, rfl⟩
  rw [← hW] at S12 ⊢
  clear hW
  obtain ⟨bx_0, bx_1⟩ := S12.out.b.t.t.t.c
  obtain ⟨by_0, by_1⟩ := S12.out.b.t.t.t.t.c
  obtain ⟨b_a_0, b_a_1⟩ := S12.out.b.t.t.c
  obtain ⟨b_t_0, b_t_1⟩ := S12.out.b.t.c
  obtain ⟨b_pp_0, b_pp_1⟩ := S12.out.b.c
  go_wp2_with fail
  have bd_pi : Bd ((x * ((10 : Int) ^ p))) 81 := bd_pp
  clear bx_0 bx_1 by_0 by_1 b_a_0 b_a_1 b_t_0 b_t_1 b_pp_0 b_pp_1
  have S13 := Lib.hid S12.out.drew
  clear S12
  refine wp_region_held_drew (S := fun w' => (w'.cell? ⟨(w10.heap.size), 0, none⟩ = some (.bool t_m) ∧ w'.cell? ⟨(w10.heap.size), 1, none⟩ = some (.slice t_0 t_n t_c)) ∧ (w'.cell? ⟨b_pp, 0, none⟩ = some (.bool pp_m) ∧ w'.cell? ⟨b_pp, 1, none⟩ = some (.slice pp_0 pp_n pp_c))) (by kernel_rfl) (⟨S13.out.b.t.c, S13.out.b.c⟩) (fun hH => ?_)
  refine anyH_world (fun w13 hW => ?_)
  rw [← hW] at S13 hH
  clear hW
  refine step_on 0 rfl (by kernel_rfl) (fun _ _ _ h => h) (by rfl) hH (by intro w hS; go_simp <;> with_reducible rfl) ?_
  try simp only [nrm]
  refine step_on 1 rfl (by kernel_rfl) (fun _ _ _ h => h) (by rfl) hH (by intro w hS; go_simp <;> with_reducible rfl) ?_
  try simp only [nrm]
  refine step_on 2 rfl (by kernel_rfl) (fun _ _ _ h => h) (by rfl) hH (by intro w hS; go_simp <;> with_reducible rfl) ?_
  try simp only [nrm]
  refine step_on 3 rfl (by kernel_rfl) (fun _ _ _ h => h) (by rfl) hH (by intro w hS; go_simp <;> with_reducible rfl) ?_
  try simp only [nrm]
  refine step_on 4 rfl (by kernel_rfl) (fun _ _ _ h => h) (by rfl) hH (by intro w hS; go_simp <;> with_reducible rfl) ?_
  try simp only [nrm]
  refine step_one 5 rfl (by kernel_rfl) (fun K hK => ?_)
  go_simp
  refine (zint_any S13.out.n.zed).mono ?_
  rintro e w14 ⟨pi_m, pi_0, pi_n, pi_c, rfl, hX, hB⟩
  have S14 := Lib.hid ((S13.out.step hB).can (hX.cx bd_pi (by omega)))
  clear S13 hX hB
  go_wp2_with fail
  refine hK.out _ _ ⟨S14.out.b.t.c, S14.out.b.c⟩ (fun h2 => ?_)
  clear hK K hH
  have hH := h2
  clear h2
  try simp only [nrm]
  refine step_one 6 rfl (by kernel_rfl) (fun K hK => ?_)
  go_simp
  refine (zsame S14.out.n.t.t.can S14.out.n.can rfl).mono ?_
  rintro e w15 ⟨rfl, hB⟩
  have S15 := Lib.hid (S14.out.step hB)
  clear S14 hB
  go_wp2_with fail
  refine hK.out _ _ ⟨S15.out.b.t.c, S15.out.b.c⟩ (fun h2 => ?_)
  clear hK K hH
  have hH := h2
  clear h2
  try simp only [nrm]
  refine step_on 7 rfl (by kernel_rfl) (fun _ _ _ h => h) (by rfl) hH (by intro w hS; go_simp <;> with_reducible rfl) ?_
  try simp only [nrm]
  refine step_on 8 rfl (by kernel_rfl) (fun _ _ _ h => h) (by rfl) hH (by intro w hS; go_simp <;> with_reducible rfl) ?_
  try simp only [nrm]
  refine wpAnyH_done (by kernel_rfl) ?_ _
  clear hH
  obtain ⟨bx_0, bx_1⟩ := S15.out.b.t.t.t.c
  obtain ⟨by_0, by_1⟩ := S15.out.b.t.t.t.t.c
  obtain ⟨b_a_0, b_a_1⟩ := S15.out.b.t.t.c
  obtain ⟨b_t_0, b_t_1⟩ := S15.out.b.t.c
  obtain ⟨b_pp_0, b_pp_1⟩ := S15.out.b.c
  go_wp2_with fail
  refine (cut5 HU.out HT2.out HQ.out _).mono ?_
  rintro e w16 ⟨rfl, hB⟩
  have S16 := Lib.hid (S15.out.step hB)
  clear bx_0 bx_1 by_0 by_1 b_a_0 b_a_1 b_t_0 b_t_1 b_pp_0 b_pp_1
  clear S15 hB
  obtain ⟨bx_0, bx_1⟩ := S16.out.b.t.t.t.c
  obtain ⟨by_0, by_1⟩ := S16.out.b.t.t.t.t.c
  obtain ⟨b_a_0, b_a_1⟩ := S16.out.b.t.t.c
  obtain ⟨b_t_0, b_t_1⟩ := S16.out.b.t.c
  obtain ⟨b_pp_0, b_pp_1⟩ := S16.out.b.c
  go_wp2_with fail
  refine (parse_itoa bd_mm (by omega) s2 HS2.out _).mono ?_
  rintro e w17 ⟨mm_m, mm_0, mm_n, mm_c, rfl, hX, hB⟩
  have S17 := Lib.hid ((S16.out.step hB).can (hX.cx bd_mm (by omega)))
  clear bx_0 bx_1 by_0 by_1 b_a_0 b_a_1 b_t_0 b_t_1 b_pp_0 b_pp_1
  clear S16 hX hB
  obtain ⟨bx_0, bx_1⟩ := S17.out.b.t.t.t.c
  obtain ⟨by_0, by_1⟩ := S17.out.b.t.t.t.t.c
  obtain ⟨b_a_0, b_a_1⟩ := S17.out.b.t.t.c
  obtain ⟨b_t_0, b_t_1⟩ := S17.out.b.t.c
  obtain ⟨b_pp_0, b_pp_1⟩ := S17.out.b.c
  go_upto_region 15 with (fail)
  refine wp_world (fun w18 hW => ?_)
  clear bx_0 bx_1 by_0 by_1 b_a_0 b_a_1 b_t_0 b_t_1 b_pp_0 b_pp_1
  have S18 := Lib.hid (S17.out.alloc (w17.heap.size) mm_m mm_0 mm_n mm_c 24 (by simp))
  rw [← hW] at S18
  clear hW S17
  obtain ⟨bx_0, bx_1⟩ := S18.out.b.t.t.t.t.c
  obtain ⟨by_0, by_1⟩ := S18.out.b.t.t.t.t.t.c
  obtain ⟨b_a_0, b_a_1⟩ := S18.out.b.t.t.t.c
  obtain ⟨b_t_0, b_t_1⟩ := S18.out.b.t.t.c
  obtain ⟨b_pp_0, b_pp_1⟩ := S18.out.b.t.c
  obtain ⟨b_mm_0, b_mm_1⟩ := S18.out.b.c
  go_wp2_with fail
  refine (parse_itoa bd_vv (by omega) t HT2.out _).mono ?_
  rintro e w19 ⟨vv_m, vv_0, vv_n, vv_c, rfl, hX, hB⟩
  have S19 := Lib.hid ((S18.out.step hB).can (hX.cx bd_vv (by omega)))
  clear bx_0 bx_1 by_0 by_1 b_a_0 b_a_1 b_t_0 b_t_1 b_pp_0 b_pp_1 b_mm_0 b_mm_1
  clear S18 hX hB
  obtain ⟨bx_0, bx_1⟩ := S19.out.b.t.t.t.t.c
  obtain ⟨by_0, by_1⟩ := S19.out.b.t.t.t.t.t.c
  obtain ⟨b_a_0, b_a_1⟩ := S19.out.b.t.t.t.c
  obtain ⟨b_t_0, b_t_1⟩ := S19.out.b.t.t.c
  obtain ⟨b_pp_0, b_pp_1⟩ := S19.out.b.t.c
  obtain ⟨b_mm_0, b_mm_1⟩ := S19.out.b.c
  go_upto_region 16 with (fail)
  refine wp_world (fun w20 hW => ?_)
  clear bx_0 bx_1 by_0 by_1 b_a_0 b_a_1 b_t_0 b_t_1 b_pp_0 b_pp_1 b_mm_0 b_mm_1
  have S20 := Lib.hid (S19.out.alloc (w19.heap.size) vv_m vv_0 vv_n vv_c 24 (by simp))
  rw [← hW] at S20
  clear hW S19
  obtain ⟨bx_0, bx_1⟩ := S20.out.b.t.t.t.t.t.c
  obtain ⟨by_0, by_1⟩ := S20.out.b.t.t.t.t.t.t.c
  obtain ⟨b_a_0, b_a_1⟩ := S20.out.b.t.t.t.t.c
  obtain ⟨b_t_0, b_t_1⟩ := S20.out.b.t.t.t.c
  obtain ⟨b_pp_0, b_pp_1⟩ := S20.out.b.t.t.c
  obtain ⟨b_mm_0, b_mm_1⟩ := S20.out.b.t.c
  obtain ⟨b_vv_0, b_vv_1⟩ := S20.out.b.c
  have EQ3 := Lib.hid (show (x : Int).sign = sx from HSX.out)
  have bd_zv : Bd (((x.natAbs : Nat) : Int)) 20 := bd_vv
  have bd_nv : Bd ((-((x.natAbs : Nat) : Int))) 20 := bd_zv.neg
  have bd_ni : Bd ((-((x.natAbs : Nat) : Int))) 20 := bd_nv
  clear bx_0 bx_1 by_0 by_1 b_a_0 b_a_1 b_t_0 b_t_1 b_pp_0 b_pp_1 b_mm_0 b_mm_1 b_vv_0 b_vv_1
  have S21 := Lib.hid S20.out.drew
  clear S20
  refine wp_region_held_drew (S := fun w' => (w'.cell? ⟨(w2.heap.size), 0, none⟩ = some (.bool a_m) ∧ w'.cell? ⟨(w2.heap.size), 1, none⟩ = some (.slice a_0 a_n a_c)) ∧ (w'.cell? ⟨(w17.heap.size), 0, none⟩ = some (.bool mm_m) ∧ w'.cell? ⟨(w17.heap.size), 1, none⟩ = some (.slice mm_0 mm_n mm_c)) ∧ (w'.cell? ⟨(w19.heap.size), 0, none⟩ = some (.bool vv_m) ∧ w'.cell? ⟨(w19.heap.size), 1, none⟩ = some (.slice vv_0 vv_n vv_c))) (by kernel_rfl) (⟨S21.out.b.t.t.t.t.c, S21.out.b.t.c, S21.out.b.c⟩) (fun hH => ?_)
  refine anyH_world (fun w21 hW => ?_)
  rw [← hW] at S21 hH
  clear hW
  refine step_on 0 rfl (by kernel_rfl) (fun _ _ _ h => h) (by rfl) hH (by intro w hS; go_simp <;> with_reducible rfl) ?_
  try simp only [nrm]
  refine step_on 1 rfl (by kernel_rfl) (fun _ _ _ h => h) (by rfl) hH (by intro w hS; go_simp <;> with_reducible rfl) ?_
  try simp only [nrm]
  refine step_one 2 rfl (by kernel_rfl) (fun K hK => ?_)
  go_simp
  refine (zsign_is (sx) S21.out.n.t.t.t.t.t.t.zed EQ3.out).mono ?_
  rintro e w22 ⟨rfl, hB⟩
  have S22 := Lib.hid (S21.out.step hB)
  clear S21 hB
  go_wp2_with fail
  refine hK.out _ _ ⟨S22.out.b.t.t.t.t.c, S22.out.b.t.c, S22.out.b.c⟩ (fun h2 => ?_)
  clear hK K hH
  have hH := h2
  clear h2
  try simp only [nrm]
  refine step_on 3 rfl (by kernel_rfl) (fun _ _ _ h => h) (by rfl) hH (by intro w hS; go_simp <;> with_reducible rfl) ?_
  try simp only [nrm]
  refine step_on 4 rfl (by kernel_rfl) (fun _ _ _ h => h) (by rfl) hH (by intro w hS; go_simp <;> with_reducible rfl) ?_
  try simp only [nrm]
  refine step_on 5 rfl (by kernel_rfl) (fun _ _ _ h => h) (by rfl) hH (by intro w hS; go_simp <;> with_reducible rfl) ?_
  try simp only [nrm]
  refine step_on 6 rfl (by kernel_rfl) (fun _ _ _ h => h) (by rfl) hH (by intro w hS; go_simp <;> with_reducible rfl) ?_
  try simp only [nrm]
  refine step_on 7 rfl (by kernel_rfl) (fun _ _ _ h => h) (by rfl) hH (by intro w hS; go_simp <;> with_reducible rfl) ?_
  try simp only [nrm]
  refine step_on 8 rfl (by kernel_rfl) (fun _ _ _ h => h) (by rfl) hH (by intro w hS; go_simp <;> with_reducible rfl) ?_
  try simp only [nrm]
  refine step_on 9 rfl (by kernel_rfl) (fun _ _ _ h => h) (by rfl) hH (by intro w hS; go_simp <;> with_reducible rfl) ?_
  try simp only [nrm]
  refine step_on 10 rfl (by kernel_rfl) (fun _ _ _ h => h) (by rfl) hH (by intro w hS; go_simp <;> with_reducible rfl) ?_
  try simp only [nrm]
  refine step_on 11 rfl (by kernel_rfl) (fun _ _ _ h => h) (by rfl) hH (by intro w hS; go_simp <;> with_reducible rfl) ?_
  try simp only [nrm]
  refine step_on 12 rfl (by kernel_rfl) (fun _ _ _ h => h) (by rfl) hH (by intro w hS; go_simp <;> with_reducible rfl) ?_
  try simp only [nrm]
  refine step_on 13 rfl (by kernel_rfl) (fun _ _ _ h => h) (by rfl) hH (by intro w hS; go_simp <;> with_reducible rfl) ?_
  try simp only [nrm]
  refine step_on 14 rfl (by kernel_rfl) (fun _ _ _ h => h) (by rfl) hH (by intro w hS; go_simp <;> with_reducible rfl) ?_
  try simp only [nrm]
  refine step_on 15 rfl (by kernel_rfl) (fun _ _ _ h => h) (by rfl) hH (by intro w hS; go_simp <;> with_reducible rfl) ?_
  try simp only [nrm]
  refine step_one 16 rfl (by kernel_rfl) (fun K hK => ?_)
  go_simp
  refine (zof_any S22.out.n.can.nx).mono ?_
  rintro e w23 ⟨zv_m, zv_0, zv_n, zv_c, rfl, hX, hB⟩
  have S23 := Lib.hid ((S22.out.step hB).zed (hX.zx bd_zv (by omega)))
  clear S22 hX hB
  go_wp2_with fail
  refine hK.out _ _ ⟨S23.out.b.t.t.t.t.c, S23.out.b.t.c, S23.out.b.c⟩ (fun h2 => ?_)
  clear hK K hH
  have hH := h2
  clear h2
  try simp only [nrm]
  refine step_one 17 rfl (by kernel_rfl) (fun K hK => ?_)
  go_simp
  refine (zneg_any S23.out.n.zed).mono ?_
  rintro e w24 ⟨nv_m, nv_0, nv_n, nv_c, rfl, hX, hB⟩
  have S24 := Lib.hid ((S23.out.step hB).zed (hX.zx bd_nv (by omega)))
  clear S23 hX hB
  go_wp2_with fail
  refine hK.out _ _ ⟨S24.out.b.t.t.t.t.c, S24.out.b.t.c, S24.out.b.c⟩ (fun h2 => ?_)
  clear hK K hH
  have hH := h2
  clear h2
  try simp only [nrm]
  refine step_one 18 rfl (by kernel_rfl) (fun K hK => ?_)
  go_simp
  refine (zint_any S24.out.n.zed).mono ?_
  rintro e w25 ⟨ni_m, ni_0, ni_n, ni_c, rfl, hX, hB⟩
  have S25 := Lib.hid ((S24.out.step hB).can (hX.cx bd_ni (by omega)))
  clear S24 hX hB
  go_wp2_with fail
  refine hK.out _ _ ⟨S25.out.b.t.t.t.t.c, S25.out.b.t.c, S25.out.b.c⟩ (fun h2 => ?_)
  clear hK K hH
  have hH := h2
  clear h2
  try simp only [nrm]
  refine step_one 19 rfl (by kernel_rfl) (fun K hK => ?_)
  go_simp
  refine (zsame S25.out.n.t.t.t.t.can S25.out.n.can rfl).mono ?_
  rintro e w26 ⟨rfl, hB⟩
  have S26 := Lib.hid (S25.out.step hB)
  clear S25 hB
  go_wp2_with fail
  refine hK.out _ _ ⟨S26.out.b.t.t.t.t.c, S26.out.b.t.c, S26.out.b.c⟩ (fun h2 => ?_)
  clear hK K hH
  have hH := h2
  clear h2
  try simp only [nrm]
  refine step_on 20 rfl (by kernel_rfl) (fun _ _ _ h => h) (by rfl) hH (by intro w hS; go_simp <;> with_reducible rfl) ?_
  try simp only [nrm]
  refine step_on 21 rfl (by kernel_rfl) (fun _ _ _ h => h) (by rfl) hH (by intro w hS; go_simp <;> with_reducible rfl) ?_
  try simp only [nrm]
  refine step_one 22 rfl (by kernel_rfl) (fun K hK => ?_)
  go_simp
  refine (tknown5 _ (HT.out.below S26.out.h)).mono ?_
  rintro e w27 ⟨rfl, hB⟩
  have S27 := Lib.hid (S26.out.step hB)
  clear S26 hB
  go_wp2_with fail
  refine hK.out _ _ ⟨S27.out.b.t.t.t.t.c, S27.out.b.t.c, S27.out.b.c⟩ (fun h2 => ?_)
  clear hK K hH
  have hH := h2
  clear h2
  try simp only [nrm]
  refine step_on 23 rfl (by kernel_rfl) (fun _ _ _ h => h) (by rfl) hH (by intro w hS; go_simp <;> with_reducible rfl) ?_
  try simp only [nrm]
  refine step_on 24 rfl (by kernel_rfl) (fun _ _ _ h => h) (by rfl) hH (by intro w hS; go_simp <;> with_reducible rfl) ?_
  try simp only [nrm]
  refine wpAnyH_done (by kernel_rfl) ?_ _
  clear hH
  obtain ⟨bx_0, bx_1⟩ := S27.out.b.t.t.t.t.t.c
  obtain ⟨by_0, by_1⟩ := S27.out.b.t.t.t.t.t.t.c
  obtain ⟨b_a_0, b_a_1⟩ := S27.out.b.t.t.t.t.c
  obtain ⟨b_t_0, b_t_1⟩ := S27.out.b.t.t.t.c
  obtain ⟨b_pp_0, b_pp_1⟩ := S27.out.b.t.t.c
  obtain ⟨b_mm_0, b_mm_1⟩ := S27.out.b.t.c
  obtain ⟨b_vv_0, b_vv_1⟩ := S27.out.b.c
  go_wp2_with fail
  go_ret
  exact ⟨rfl, S27.out.h⟩

theorem digitsShifts_row {p : Int} {m0 : Bool} {a0 : Option Addr} {n0 c0 : Nat} {m1 : Bool} {a1 : Option Addr} {n1 c1 : Nat} {xs ys : List Nat} {w : World} (s0 : Sl w a0 n0 c0 xs) (s1 : Sl w a1 n1 c1 ys) (hp : 0 ≤ p ∧ p < 256) (ht : Tab w) :
    Calls Tryd.prog 6 #[.agg #[.bool m0, .slice a0 n0 c0], .agg #[.bool m1, .slice a1 n1 c1], .int .u8 p] w (RetB (.bool true) w) := by
  obtain ⟨p, rfl⟩ := Int.eq_ofNat_of_zero_le hp.1
  by_cases k1 : 20 < n0
  · exact dshifts_long0 p s0.big k1 ht
  by_cases k2 : 20 < n1
  · exact dshifts_long1 p s1.big k1 k2 ht
  by_cases k3 : 30 < p
  · exact dshifts_long2 p (by omega) k1 k2 k3 ht
  by_cases hx : zOf m0 (val xs) = 0
  · exact dshifts_zero p ⟨⟨xs, s0, rfl⟩, by omega⟩ ⟨⟨ys, s1, rfl⟩, by omega⟩ (by omega) (by omega) (by omega) ht hx
  · exact dshifts_some p ⟨⟨xs, s0, rfl⟩, by omega⟩ ⟨⟨ys, s1, rfl⟩, by omega⟩ (by omega) (by omega) (by omega) ht hx

end Go.Proofs.YtocdlaakcecieaaDoor

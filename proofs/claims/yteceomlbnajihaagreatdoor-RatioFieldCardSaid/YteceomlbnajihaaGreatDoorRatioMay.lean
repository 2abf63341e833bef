/-
  The contracts of ratio.May and ratio.Text.
-/
import Derived.Test.YteceomlbnajihaaGreatDoorRatioOf
import Derived.Test.YteceomlbnajihaaGreatDoorGWA
import Derived.Test.YteceomlbnajihaaGreatDoorGWInt
import Derived.Test.YteceomlbnajihaaGreatDoorQTxt
import Derived.Test.YteceomlbnajihaaGreatDoorGTxt
import Derived.Deep.Cut
import Derived.Deep.CutRange
set_option maxRecDepth 8192
namespace Go.Proofs.YteceomlbnajihaaGreatDoor
open Go.RowKit

/-- is it canonical, both parts and as a quotient? -/
def rmayB (m : Bool) (xs : List Nat) (k : Bool) (ys : List Nat) : Bool := mayB m xs.length xs && mayB k ys.length ys && decide (0 < zOf k (val ys)) && decide (Int.gcd (zOf m (val xs)) (zOf k (val ys)) = 1)

set_option maxHeartbeats 1000000 in
set_option maxRecDepth 100000 in
theorem rmay_a {m : Bool} {ao : Option Addr} {n cap : Nat} {k : Bool} {bo : Option Addr} {l cb : Nat} {xs ys : List Nat} {w : World} (hs : Sl w ao n cap xs) (ht : Sl w bo l cb ys) (ln : n ≤ 1000000) (ll : l ≤ 1000000) (ha : mayB m n xs = false) :
    Calls Tryz.prog 26 #[.agg #[.bool m, .slice ao n cap, .bool k, .slice bo l cb]] w (RetB (.bool false) w) := by
  have hx : Rx w m ao n cap k bo l cb (zOf m (val xs)) (zOf k (val ys)) (qv (zOf m (val xs)) (zOf k (val ys))) 1000000 := ⟨⟨⟨xs, hs, rfl⟩, ln⟩, ⟨⟨ys, ht, rfl⟩, ll⟩, rfl, In.bd ⟨xs, hs, rfl⟩ (by omega), In.bd ⟨ys, ht, rfl⟩ (by omega)⟩
  have HA := Lib.hid ha
  clear ha
  generalize hq : qv (zOf m (val xs)) (zOf k (val ys)) = q at hx
  clear hq
  go_enter Tryz.func26, Tryz.ntmps26
  have S0 := Lib.hid (Sx.start (w := w) (N := [.rx m ao n cap k bo l cb (zOf m (val xs)) (zOf k (val ys)) q 1000000, .sl ao n cap xs, .sl bo l cb ys]) ⟨hx, hs, ht, trivial⟩)
  clear hx hs ht
  have S1 := Lib.hid (S0.out.var (w.heap.size) [.bool m, .slice ao n cap, .bool k, .slice bo l cb] 26 (by simp))
  clear S0
  go_upto_region 1 with (fail)
  refine wp_world (fun w1 hW => ?_)
  rw [← hW] at S1
  clear hW
  obtain ⟨c_b1_0, c_b1_1, c_b1_2, c_b1_3⟩ := S1.out.b.c4
  go_wp2_with fail
  clear c_b1_0 c_b1_1 c_b1_2 c_b1_3
  refine (wmay_is false S1.out.n.t.sl (HA.out)).mono ?_
  rintro e w2 ⟨rfl, hB⟩
  have S2 := Lib.hid ((S1.out.step hB))
  clear S1 hB
  go_wp2_with fail
  go_ret
  exact ⟨rfl, S2.out.h⟩

set_option maxHeartbeats 1000000 in
set_option maxRecDepth 100000 in
theorem rmay_b {m : Bool} {ao : Option Addr} {n cap : Nat} {k : Bool} {bo : Option Addr} {l cb : Nat} {xs ys : List Nat} {w : World} (hs : Sl w ao n cap xs) (ht : Sl w bo l cb ys) (ln : n ≤ 1000000) (ll : l ≤ 1000000) (ha : mayB m n xs = true) (hb : mayB k l ys = false) :
    Calls Tryz.prog 26 #[.agg #[.bool m, .slice ao n cap, .bool k, .slice bo l cb]] w (RetB (.bool false) w) := by
  have hx : Rx w m ao n cap k bo l cb (zOf m (val xs)) (zOf k (val ys)) (qv (zOf m (val xs)) (zOf k (val ys))) 1000000 := ⟨⟨⟨xs, hs, rfl⟩, ln⟩, ⟨⟨ys, ht, rfl⟩, ll⟩, rfl, In.bd ⟨xs, hs, rfl⟩ (by omega), In.bd ⟨ys, ht, rfl⟩ (by omega)⟩
  have HA := Lib.hid ha
  clear ha
  have HB := Lib.hid hb
  clear hb
  generalize hq : qv (zOf m (val xs)) (zOf k (val ys)) = q at hx
  clear hq
  go_enter Tryz.func26, Tryz.ntmps26
  have S0 := Lib.hid (Sx.start (w := w) (N := [.rx m ao n cap k bo l cb (zOf m (val xs)) (zOf k (val ys)) q 1000000, .sl ao n cap xs, .sl bo l cb ys]) ⟨hx, hs, ht, trivial⟩)
  clear hx hs ht
  have S1 := Lib.hid (S0.out.var (w.heap.size) [.bool m, .slice ao n cap, .bool k, .slice bo l cb] 26 (by simp))
  clear S0
  go_upto_region 1 with (fail)
  refine wp_world (fun w1 hW => ?_)
  rw [← hW] at S1
  clear hW
  obtain ⟨c_b1_0, c_b1_1, c_b1_2, c_b1_3⟩ := S1.out.b.c4
  go_wp2_with fail
  clear c_b1_0 c_b1_1 c_b1_2 c_b1_3
  refine (wmay_is true S1.out.n.t.sl (HA.out)).mono ?_
  rintro e w2 ⟨rfl, hB⟩
  have S2 := Lib.hid ((S1.out.step hB))
  clear S1 hB
  obtain ⟨c_b1_0, c_b1_1, c_b1_2, c_b1_3⟩ := S2.out.b.c4
  go_wp2_with fail
  clear c_b1_0 c_b1_1 c_b1_2 c_b1_3
  refine (wmay_is false S2.out.n.t.t.sl (HB.out)).mono ?_
  rintro e w3 ⟨rfl, hB⟩
  have S3 := Lib.hid ((S2.out.step hB))
  clear S2 hB
  go_wp2_with fail
  go_ret
  exact ⟨rfl, S3.out.h⟩

set_option maxHeartbeats 1000000 in
set_option maxRecDepth 100000 in
theorem rmay_c {m : Bool} {ao : Option Addr} {n cap : Nat} {k : Bool} {bo : Option Addr} {l cb : Nat} {xs ys : List Nat} {w : World} (hs : Sl w ao n cap xs) (ht : Sl w bo l cb ys) (ln : n ≤ 1000000) (ll : l ≤ 1000000) (ha : mayB m n xs = true) (hb : mayB k l ys = true) (hc : ¬ 0 < zOf k (val ys)) :
    Calls Tryz.prog 26 #[.agg #[.bool m, .slice ao n cap, .bool k, .slice bo l cb]] w (RetB (.bool false) w) := by
  have hx : Rx w m ao n cap k bo l cb (zOf m (val xs)) (zOf k (val ys)) (qv (zOf m (val xs)) (zOf k (val ys))) 1000000 := ⟨⟨⟨xs, hs, rfl⟩, ln⟩, ⟨⟨ys, ht, rfl⟩, ll⟩, rfl, In.bd ⟨xs, hs, rfl⟩ (by omega), In.bd ⟨ys, ht, rfl⟩ (by omega)⟩
  have HA := Lib.hid ha
  clear ha
  have HB := Lib.hid hb
  clear hb
  obtain ⟨s, hs2⟩ : ∃ s, (zOf k (val ys)).sign = s := ⟨_, rfl⟩
  have e1 : decide (0 < s) = false := by rw [← hs2]; simpa using hc
  have HS := Lib.hid hs2
  clear hs2
  clear hc
  generalize hq : qv (zOf m (val xs)) (zOf k (val ys)) = q at hx
  clear hq
  go_enter Tryz.func26, Tryz.ntmps26
  have S0 := Lib.hid (Sx.start (w := w) (N := [.rx m ao n cap k bo l cb (zOf m (val xs)) (zOf k (val ys)) q 1000000, .sl ao n cap xs, .sl bo l cb ys]) ⟨hx, hs, ht, trivial⟩)
  clear hx hs ht
  have S1 := Lib.hid (S0.out.var (w.heap.size) [.bool m, .slice ao n cap, .bool k, .slice bo l cb] 26 (by simp))
  clear S0
  go_upto_region 1 with (fail)
  refine wp_world (fun w1 hW => ?_)
  rw [← hW] at S1
  clear hW
  obtain ⟨c_b1_0, c_b1_1, c_b1_2, c_b1_3⟩ := S1.out.b.c4
  go_wp2_with fail
  clear c_b1_0 c_b1_1 c_b1_2 c_b1_3
  refine (wmay_is true S1.out.n.t.sl (HA.out)).mono ?_
  rintro e w2 ⟨rfl, hB⟩
  have S2 := Lib.hid ((S1.out.step hB))
  clear S1 hB
  obtain ⟨c_b1_0, c_b1_1, c_b1_2, c_b1_3⟩ := S2.out.b.c4
  go_wp2_with fail
  clear c_b1_0 c_b1_1 c_b1_2 c_b1_3
  refine (wmay_is true S2.out.n.t.t.sl (HB.out)).mono ?_
  rintro e w3 ⟨rfl, hB⟩
  have S3 := Lib.hid ((S2.out.step hB))
  clear S2 hB
  obtain ⟨c_b1_0, c_b1_1, c_b1_2, c_b1_3⟩ := S3.out.b.c4
  go_wp2_with fail
  clear c_b1_0 c_b1_1 c_b1_2 c_b1_3
  refine (wsign_is (s) S3.out.n.rx.den (HS.out)).mono ?_
  rintro e w4 ⟨rfl, hB⟩
  have S4 := Lib.hid ((S3.out.step hB))
  clear S3 hB
  go_wp2_with fail
  go_ret
  exact ⟨rfl, S4.out.h⟩

set_option maxHeartbeats 1000000 in
set_option maxRecDepth 100000 in
theorem rmay_d {m : Bool} {ao : Option Addr} {n cap : Nat} {k : Bool} {bo : Option Addr} {l cb : Nat} {xs ys : List Nat} {w : World} (r : Bool) (hs : Sl w ao n cap xs) (ht : Sl w bo l cb ys) (ln : n ≤ 1000000) (ll : l ≤ 1000000) (ha : mayB m n xs = true) (hb : mayB k l ys = true) (hc : 0 < zOf k (val ys)) (hr : decide (Int.gcd (zOf m (val xs)) (zOf k (val ys)) = 1) = r) :
    Calls Tryz.prog 26 #[.agg #[.bool m, .slice ao n cap, .bool k, .slice bo l cb]] w (RetB (.bool r) w) := by
  have hx : Rx w m ao n cap k bo l cb (zOf m (val xs)) (zOf k (val ys)) (qv (zOf m (val xs)) (zOf k (val ys))) 1000000 := ⟨⟨⟨xs, hs, rfl⟩, ln⟩, ⟨⟨ys, ht, rfl⟩, ll⟩, rfl, In.bd ⟨xs, hs, rfl⟩ (by omega), In.bd ⟨ys, ht, rfl⟩ (by omega)⟩
  have HA := Lib.hid ha
  clear ha
  have HB := Lib.hid hb
  clear hb
  obtain ⟨s, hs2⟩ : ∃ s, (zOf k (val ys)).sign = s := ⟨_, rfl⟩
  have e1 : decide (0 < s) = true := by rw [← hs2]; simpa using hc
  have HS := Lib.hid hs2
  clear hs2
  have hdn : zOf k (val ys) ≠ 0 := by omega
  have HDN := Lib.hid hdn
  have HR : Hid (decide (((Int.gcd (zOf m (val xs)) (zOf k (val ys)) : Nat) : Int) = 1) = r) := by rw [Hid, ← hr, Bool.eq_iff_iff]; simp; omega
  clear hdn hr
  clear hc
  generalize hq : qv (zOf m (val xs)) (zOf k (val ys)) = q at hx
  clear hq
  go_enter Tryz.func26, Tryz.ntmps26
  have S0 := Lib.hid (Sx.start (w := w) (N := [.rx m ao n cap k bo l cb (zOf m (val xs)) (zOf k (val ys)) q 1000000, .sl ao n cap xs, .sl bo l cb ys]) ⟨hx, hs, ht, trivial⟩)
  clear hx hs ht
  have S1 := Lib.hid (S0.out.var (w.heap.size) [.bool m, .slice ao n cap, .bool k, .slice bo l cb] 26 (by simp))
  clear S0
  go_upto_region 1 with (fail)
  refine wp_world (fun w1 hW => ?_)
  rw [← hW] at S1
  clear hW
  obtain ⟨c_b1_0, c_b1_1, c_b1_2, c_b1_3⟩ := S1.out.b.c4
  go_wp2_with fail
  clear c_b1_0 c_b1_1 c_b1_2 c_b1_3
  refine (wmay_is true S1.out.n.t.sl (HA.out)).mono ?_
  rintro e w2 ⟨rfl, hB⟩
  have S2 := Lib.hid ((S1.out.step hB))
  clear S1 hB
  obtain ⟨c_b1_0, c_b1_1, c_b1_2, c_b1_3⟩ := S2.out.b.c4
  go_wp2_with fail
  clear c_b1_0 c_b1_1 c_b1_2 c_b1_3
  refine (wmay_is true S2.out.n.t.t.sl (HB.out)).mono ?_
  rintro e w3 ⟨rfl, hB⟩
  have S3 := Lib.hid ((S2.out.step hB))
  clear S2 hB
  obtain ⟨c_b1_0, c_b1_1, c_b1_2, c_b1_3⟩ := S3.out.b.c4
  go_wp2_with fail
  clear c_b1_0 c_b1_1 c_b1_2 c_b1_3
  refine (wsign_is (s) S3.out.n.rx.den (HS.out)).mono ?_
  rintro e w4 ⟨rfl, hB⟩
  have S4 := Lib.hid ((S3.out.step hB))
  clear S3 hB
  obtain ⟨c_b1_0, c_b1_1, c_b1_2, c_b1_3⟩ := S4.out.b.c4
  go_wp2_with fail
  clear c_b1_0 c_b1_1 c_b1_2 c_b1_3
  refine (wgcd_any S4.out.n.rx.num S4.out.n.rx.den).mono ?_
  rintro e w5 ⟨r1_m, r1_0, r1_n, r1_c, rfl, hX, hB⟩
  have S5 := Lib.hid (((S4.out.step hB).cb (hX.cb (gcd_bd S4.out.n.rx.bd (HDN.out)) (by omega)) rfl))
  clear S4 hX hB
  go_wp2_with fail
  refine (one_any r S5.out.n.cb.cx.nx (HR.out)).mono ?_
  rintro e w6 ⟨rfl, hB⟩
  have S6 := Lib.hid ((S5.out.step hB))
  clear S5 hB
  go_wp2_with fail
  go_ret
  exact ⟨rfl, S6.out.h⟩

theorem rmay_any (r : Bool) {m : Bool} {ao : Option Addr} {n cap : Nat} {k : Bool} {bo : Option Addr} {l cb : Nat} {xs ys : List Nat} {w : World} (hs : Sl w ao n cap xs) (ht : Sl w bo l cb ys) (ln : n ≤ 1000000) (ll : l ≤ 1000000) (h : rmayB m xs k ys = r) :
    Calls Tryz.prog 26 #[.agg #[.bool m, .slice ao n cap, .bool k, .slice bo l cb]] w (RetB (.bool r) w) := by
  unfold rmayB at h
  rw [hs.len, ht.len] at h
  cases ha : mayB m n xs with
  | false => rw [ha] at h; obtain rfl : r = false := by simpa using h.symm
             exact rmay_a hs ht ln ll ha
  | true =>
    cases hb : mayB k l ys with
    | false => rw [ha, hb] at h; obtain rfl : r = false := by simpa using h.symm
               exact rmay_b hs ht ln ll ha hb
    | true =>
      by_cases hc : 0 < zOf k (val ys)
      · exact rmay_d r hs ht ln ll ha hb hc (by rw [← h, ha, hb]; simp [hc])
      · obtain rfl : r = false := by rw [← h, ha, hb]; simp [hc]
        exact rmay_c hs ht ln ll ha hb hc

theorem rmayB_can {w : World} {m : Bool} {ao : Option Addr} {n cap : Nat} {k : Bool} {bo : Option Addr} {l cb : Nat} {q : Rat} {j : Nat} (h : Rc w m ao n cap k bo l cb q j) : rmayB m (limbs q.num.natAbs) k (limbs (q.den : Int).natAbs) = true := by
  have h1 := mayB_can h.num.cn
  have h2 := mayB_can h.den.cn
  have e1 : zOf m (val (limbs q.num.natAbs)) = q.num := by rw [val_limbs, h.num.cn.neg, zOf_can]
  have e2 : zOf k (val (limbs (q.den : Int).natAbs)) = (q.den : Int) := by rw [val_limbs, h.den.cn.neg, zOf_can]
  have h3 := q_parts q
  have h4 := q.den_nz
  unfold rmayB
  rw [h.num.cn.sl.len, h.den.cn.sl.len, h1, h2, e1, e2, h3]
  simp
  omega

theorem rmay_can {m : Bool} {ao : Option Addr} {n cap : Nat} {k : Bool} {bo : Option Addr} {l cb : Nat} {q : Rat} {j : Nat} {w : World} (h : Rc w m ao n cap k bo l cb q j) :
    Calls Tryz.prog 26 #[.agg #[.bool m, .slice ao n cap, .bool k, .slice bo l cb]] w (RetB (.bool true) w) :=
  rmay_any true h.num.cn.sl h.den.cn.sl h.num.le h.den.le (rmayB_can h)

/-- a quotient's text -/
def ratS (q : Rat) : ByteArray := ⟨(ratTxt q.num q.den).toArray⟩

set_option maxHeartbeats 1000000 in
set_option maxRecDepth 100000 in
theorem rtext_one {m : Bool} {ao : Option Addr} {n cap : Nat} {k : Bool} {bo : Option Addr} {l cb : Nat} {x d : Int} {q : Rat} {j : Nat} {w : World} (hx : Rx w m ao n cap k bo l cb x d q j) (ht : Tab w) (h1 : 1 ≤ j) (h2 : j ≤ 100000) (h0 : q.den = 1) :
    Calls Tryz.prog 28 #[.agg #[.bool m, .slice ao n cap, .bool k, .slice bo l cb]] w (RetB (.string (ratS q)) w) := by
  have hbn : Bd q.num j := by rw [← hx.val, qv_dn]; exact bd_num hx.bn (dn_ne d)
  have hbd : Bd (q.den : Int) j := by rw [← hx.val, qv_dn]; exact bd_den (dn_bd hx.bd h1) (dn_ne d)
  have HV := Lib.hid hx.val
  have HT := Lib.hid ht
  obtain ⟨u, hu⟩ : ∃ u : ByteArray, u = ⟨(Lib.itoa q.num).toArray⟩ := ⟨_, rfl⟩
  have HD : Hid (decide ((q.den : Int) = 1) = true) := by rw [Hid]; simp; omega
  have HU := Lib.hid hu
  have HZ : Hid (u = ratS q) := by rw [Hid, hu]; unfold ratS ratTxt; rw [if_pos h0, List.append_nil]
  clear hu hbn hbd h0 ht
  go_enter Tryz.func28, Tryz.ntmps28
  have S0 := Lib.hid (Sx.start (w := w) (N := [.rx m ao n cap k bo l cb x d q j]) ⟨hx, trivial⟩)
  clear hx
  have S1 := Lib.hid (S0.out.var (w.heap.size) [.bool m, .slice ao n cap, .bool k, .slice bo l cb] 26 (by simp))
  clear S0
  go_upto_region 1 with (fail)
  refine wp_world (fun w1 hW => ?_)
  rw [← hW] at S1
  clear hW
  obtain ⟨c_b1_0, c_b1_1, c_b1_2, c_b1_3⟩ := S1.out.b.c4
  go_wp2_with fail
  clear c_b1_0 c_b1_1 c_b1_2 c_b1_3
  refine (lowest_any (⟨S1.out.n.rx.num, S1.out.n.rx.den, HV.out, S1.out.n.rx.bn.mono (by omega), S1.out.n.rx.bd.mono (by omega)⟩ : Rx _ _ _ _ _ _ _ _ _ _ _ q j) (by omega) (by omega)).mono ?_
  rintro e w2 ⟨r1_m, r1_0, r1_n, r1_c, r1_k, r1_1, r1_l, r1_d, rfl, hX, hB⟩
  have S2 := Lib.hid (((S1.out.step hB).rc hX rfl))
  clear S1 hX hB
  obtain ⟨c_b1_0, c_b1_1, c_b1_2, c_b1_3⟩ := S2.out.b.c4
  obtain ⟨f_b1_0, f_b1_1, f_b1_2, f_b1_3⟩ := S2.out.b.f4
  go_upto_region 2 with (fail)
  clear c_b1_0 c_b1_1 c_b1_2 c_b1_3 f_b1_0 f_b1_1 f_b1_2 f_b1_3
  have S3 : Hid (Sx w _ [⟨(w.heap.size), [.bool r1_m, .slice r1_0 r1_n r1_c, .bool r1_k, .slice r1_1 r1_l r1_d]⟩] _) := Lib.hid (Sx.set [] [] (Sx.set [] [] (Sx.set [] [] (Sx.set [] [] S2.out 0 (.bool r1_m)) 1 (.slice r1_0 r1_n r1_c)) 2 (.bool r1_k)) 3 (.slice r1_1 r1_l r1_d))
  clear S2
  refine wp_world (fun w3 hW => ?_)
  rw [← hW] at S3
  clear hW
  obtain ⟨c_b1_0, c_b1_1, c_b1_2, c_b1_3⟩ := S3.out.b.c4
  go_wp2_with fail
  clear c_b1_0 c_b1_1 c_b1_2 c_b1_3
  refine (text_any S3.out.n.rc.num.nx (HT.out.below S3.out.h)).mono ?_
  rintro e w4 ⟨rfl, hB⟩
  rw [← HU.out]
  have S4 := Lib.hid ((S3.out.step hB))
  clear S3 hB
  obtain ⟨c_b1_0, c_b1_1, c_b1_2, c_b1_3⟩ := S4.out.b.c4
  go_wp2_with fail
  clear c_b1_0 c_b1_1 c_b1_2 c_b1_3
  refine (one_any true S4.out.n.rc.den.nx (HD.out)).mono ?_
  rintro e w5 ⟨rfl, hB⟩
  have S5 := Lib.hid ((S4.out.step hB))
  clear S4 hB
  go_wp2_with fail
  go_ret
  exact ⟨by rw [← HZ.out]; rfl, S5.out.h⟩

set_option maxHeartbeats 1000000 in
set_option maxRecDepth 100000 in
theorem rtext_two {m : Bool} {ao : Option Addr} {n cap : Nat} {k : Bool} {bo : Option Addr} {l cb : Nat} {x d : Int} {q : Rat} {j : Nat} {w : World} (hx : Rx w m ao n cap k bo l cb x d q j) (ht : Tab w) (h1 : 1 ≤ j) (h2 : j ≤ 100000) (h0 : ¬ q.den = 1) :
    Calls Tryz.prog 28 #[.agg #[.bool m, .slice ao n cap, .bool k, .slice bo l cb]] w (RetB (.string (ratS q)) w) := by
  have hbn : Bd q.num j := by rw [← hx.val, qv_dn]; exact bd_num hx.bn (dn_ne d)
  have hbd : Bd (q.den : Int) j := by rw [← hx.val, qv_dn]; exact bd_den (dn_bd hx.bd h1) (dn_ne d)
  have HV := Lib.hid hx.val
  have HT := Lib.hid ht
  obtain ⟨u, hu⟩ : ∃ u : ByteArray, u = ⟨(Lib.itoa q.num).toArray⟩ := ⟨_, rfl⟩
  have HD : Hid (decide ((q.den : Int) = 1) = false) := by rw [Hid]; simp; omega
  obtain ⟨v, hv⟩ : ∃ v : ByteArray, v = ⟨(Lib.itoa (q.den : Int)).toArray⟩ := ⟨_, rfl⟩
  obtain ⟨t, ht2⟩ : ∃ t : ByteArray, t = ⟨(Lib.itoa q.num ++ [47]).toArray⟩ := ⟨_, rfl⟩
  obtain ⟨z, hz⟩ : ∃ z : ByteArray, z = ⟨(Lib.itoa q.num ++ [47] ++ Lib.itoa (q.den : Int)).toArray⟩ := ⟨_, rfl⟩
  have l1 := itoa_len hbn
  have l2 := itoa_len hbd
  have hadd1 : ∀ W : World, (Op.stringOp .add u ⟨#[47]⟩).run Tryz.prog W = .ok (.string t) W := fun W => by rw [hu, ht2]; exact str_add W _ [47] (by simp; omega)
  have hadd2 : ∀ W : World, (Op.stringOp .add t v).run Tryz.prog W = .ok (.string z) W := fun W => by rw [hv, ht2, hz]; exact str_add W _ _ (by simp; omega)
  have HZ : Hid (z = ratS q) := by rw [Hid, hz]; unfold ratS ratTxt; rw [if_neg h0, List.append_assoc]; rfl
  have HU := Lib.hid hu
  have HW := Lib.hid hv
  clear hu hv ht2 hz l1 l2 hbn hbd h0 ht
  go_enter Tryz.func28, Tryz.ntmps28
  have S0 := Lib.hid (Sx.start (w := w) (N := [.rx m ao n cap k bo l cb x d q j]) ⟨hx, trivial⟩)
  clear hx
  have S1 := Lib.hid (S0.out.var (w.heap.size) [.bool m, .slice ao n cap, .bool k, .slice bo l cb] 26 (by simp))
  clear S0
  go_upto_region 1 with (fail)
  refine wp_world (fun w1 hW => ?_)
  rw [← hW] at S1
  clear hW
  obtain ⟨c_b1_0, c_b1_1, c_b1_2, c_b1_3⟩ := S1.out.b.c4
  go_wp2_with fail
  clear c_b1_0 c_b1_1 c_b1_2 c_b1_3
  refine (lowest_any (⟨S1.out.n.rx.num, S1.out.n.rx.den, HV.out, S1.out.n.rx.bn.mono (by omega), S1.out.n.rx.bd.mono (by omega)⟩ : Rx _ _ _ _ _ _ _ _ _ _ _ q j) (by omega) (by omega)).mono ?_
  rintro e w2 ⟨r1_m, r1_0, r1_n, r1_c, r1_k, r1_1, r1_l, r1_d, rfl, hX, hB⟩
  have S2 := Lib.hid (((S1.out.step hB).rc hX rfl))
  clear S1 hX hB
  obtain ⟨c_b1_0, c_b1_1, c_b1_2, c_b1_3⟩ := S2.out.b.c4
  obtain ⟨f_b1_0, f_b1_1, f_b1_2, f_b1_3⟩ := S2.out.b.f4
  go_upto_region 2 with (fail)
  clear c_b1_0 c_b1_1 c_b1_2 c_b1_3 f_b1_0 f_b1_1 f_b1_2 f_b1_3
  have S3 : Hid (Sx w _ [⟨(w.heap.size), [.bool r1_m, .slice r1_0 r1_n r1_c, .bool r1_k, .slice r1_1 r1_l r1_d]⟩] _) := Lib.hid (Sx.set [] [] (Sx.set [] [] (Sx.set [] [] (Sx.set [] [] S2.out 0 (.bool r1_m)) 1 (.slice r1_0 r1_n r1_c)) 2 (.bool r1_k)) 3 (.slice r1_1 r1_l r1_d))
  clear S2
  refine wp_world (fun w3 hW => ?_)
  rw [← hW] at S3
  clear hW
  obtain ⟨c_b1_0, c_b1_1, c_b1_2, c_b1_3⟩ := S3.out.b.c4
  go_wp2_with fail
  clear c_b1_0 c_b1_1 c_b1_2 c_b1_3
  refine (text_any S3.out.n.rc.num.nx (HT.out.below S3.out.h)).mono ?_
  rintro e w4 ⟨rfl, hB⟩
  rw [← HU.out]
  have S4 := Lib.hid ((S3.out.step hB))
  clear S3 hB
  obtain ⟨c_b1_0, c_b1_1, c_b1_2, c_b1_3⟩ := S4.out.b.c4
  go_wp2_with fail
  clear c_b1_0 c_b1_1 c_b1_2 c_b1_3
  refine (one_any false S4.out.n.rc.den.nx (HD.out)).mono ?_
  rintro e w5 ⟨rfl, hB⟩
  have S5 := Lib.hid ((S4.out.step hB))
  clear S4 hB
  obtain ⟨c_b1_0, c_b1_1, c_b1_2, c_b1_3⟩ := S5.out.b.c4
  go_wp2_with fail
  clear c_b1_0 c_b1_1 c_b1_2 c_b1_3
  refine (text_any S5.out.n.rc.den.nx (HT.out.below S5.out.h)).mono ?_
  rintro e w6 ⟨rfl, hB⟩
  rw [← HW.out]
  have S6 := Lib.hid ((S5.out.step hB))
  clear S5 hB
  go_wp2_with fail
  go_ret
  exact ⟨by rw [← HZ.out]; rfl, S6.out.h⟩

theorem rattext_any {m : Bool} {ao : Option Addr} {n cap : Nat} {k : Bool} {bo : Option Addr} {l cb : Nat} {x d : Int} {q : Rat} {j : Nat} {w : World} (hx : Rx w m ao n cap k bo l cb x d q j) (ht : Tab w) (h1 : 1 ≤ j) (h2 : j ≤ 100000) :
    Calls Tryz.prog 28 #[.agg #[.bool m, .slice ao n cap, .bool k, .slice bo l cb]] w (RetB (.string (ratS q)) w) := by
  by_cases h0 : q.den = 1
  · exact rtext_one hx ht h1 h2 h0
  · exact rtext_two hx ht h1 h2 h0

end Go.Proofs.YteceomlbnajihaaGreatDoor

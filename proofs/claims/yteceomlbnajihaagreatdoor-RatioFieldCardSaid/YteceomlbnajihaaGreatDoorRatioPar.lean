/-
  The contract of ratio.Parse.
-/
import Derived.Test.YteceomlbnajihaaGreatDoorRatioMay
import Derived.Test.YteceomlbnajihaaGreatDoorRatCut
import Derived.Test.YteceomlbnajihaaGreatDoorRatTxt
import Derived.Test.YteceomlbnajihaaGreatDoorGTxt
import Derived.Test.YteceomlbnajihaaGreatDoorGTxtR
import Derived.Deep.Cut
import Derived.Deep.CutRange
set_option maxRecDepth 8192
namespace Go.Proofs.YteceomlbnajihaaGreatDoor
open Go.RowKit

theorem parse_as {l : List UInt8} {a : ByteArray} (w : World) (hs : a.size ≤ 20000) (hn : numB l = true) (hl : a.data.toList = l) :
    Calls Tryz.prog 64 #[.string a] w (NewPE w (numZ l) 0) := by
  subst hl; exact parse_ok a w hs hn
theorem parse_as_bad {l : List UInt8} {a : ByteArray} (w : World) (hs : a.size ≤ 20000) (hn : numB l = false) (hl : a.data.toList = l) :
    Calls Tryz.prog 64 #[.string a] w (RetB (.tuple #[.agg #[.bool false, .slice none 0 0], .int .i64 4]) w) := by
  subst hl; exact parse_bad a w hs hn

theorem rmay_cc (r : Bool) {m : Bool} {ao : Option Addr} {n cap : Nat} {k : Bool} {bo : Option Addr} {l cb : Nat} {x d : Int} {w : World} (hx : Cx w m ao n cap x) (hd : Cx w k bo l cb d) (h : (decide (0 < d) && decide (Int.gcd x d = 1)) = r) :
    Calls Tryz.prog 26 #[.agg #[.bool m, .slice ao n cap, .bool k, .slice bo l cb]] w (RetB (.bool r) w) := by
  refine rmay_any r hx.cn.sl hd.cn.sl hx.le hd.le ?_
  have h1 := mayB_can hx.cn
  have h2 := mayB_can hd.cn
  have e1 : zOf m (val (limbs x.natAbs)) = x := by rw [val_limbs, hx.cn.neg, zOf_can]
  have e2 : zOf k (val (limbs d.natAbs)) = d := by rw [val_limbs, hd.cn.neg, zOf_can]
  unfold rmayB
  rw [hx.cn.sl.len, hd.cn.sl.len, h1, h2, e1, e2, ← h]
  simp

set_option maxHeartbeats 1000000 in
set_option maxRecDepth 100000 in
theorem rp_e1 {s a b : ByteArray} {A B : List UInt8} {w : World} (hs : s.size ≤ 20000) (hcut : ∀ w, Calls Tryz.prog 63 #[.string s, .string ⟨#[47]⟩] w (RetB (.tuple #[.string a, .string b, .bool true]) w)) (la : a.data.toList = A) (sa : a.size ≤ 20000) (BA : Hid (A.length ≤ 20000)) (BB : Hid (B.length ≤ 20000)) (na : numB A = false) (lb : b.data.toList = B) (sb : b.size ≤ 20000) (NB : Hid (numB B = true)) :
    Calls Tryz.prog 35 #[.string s] w (RetB (.tuple #[.agg #[.bool false, .slice none 0 0, .bool false, .slice none 0 0], .int .i64 4]) w) := by
  have HC := Lib.hid hcut
  have LA := Lib.hid la
  have LB := Lib.hid lb
  have SA := Lib.hid sa
  have SB := Lib.hid sb
  have NA := Lib.hid na
  clear hcut la lb sa sb na
  have _u := BA
  go_enter Tryz.func35, Tryz.ntmps35
  have S0 := Lib.hid (Sx.start (w := w) (N := []) trivial)
  have S1 := Lib.hid (S0.out.var (w.heap.size) [.bool false, .slice none 0 0, .bool false, .slice none 0 0] 26 (by simp))
  clear S0
  go_upto_region 1 with (fail)
  refine wp_world (fun w1 hW => ?_)
  rw [← hW] at S1
  clear hW
  go_wp2_with fail
  refine (HC.out _).mono ?_
  rintro e w2 ⟨rfl, hB⟩
  have S2 := Lib.hid ((S1.out.step hB))
  clear S1 hB
  go_wp2_with fail
  refine (parse_as_bad _ (SA.out) (NA.out) (LA.out)).mono ?_
  rintro e w3 ⟨rfl, hB⟩
  have S3 := Lib.hid ((S2.out.step hB))
  clear S2 hB
  go_upto_region 7 with (fail)
  have S4 := Lib.hid (S3.out.var (w3.heap.size) [.bool false, .slice none 0 0] 24 (by simp))
  clear S3
  refine wp_world (fun w4 hW => ?_)
  rw [← hW] at S4
  clear hW
  go_wp2_with fail
  refine (parse_as _ (SB.out) (NB.out) (LB.out)).mono ?_
  rintro e w5 ⟨r1_m, r1_0, r1_n, r1_c, rfl, hX, hB⟩
  have S5 := Lib.hid (((S4.out.step hB).cb (hX.cb ((numZ_bd (NB.out)).mono (BB.out)) (by omega)) rfl))
  clear S4 hX hB
  go_upto_region 8 with (fail)
  have S6 := Lib.hid (S5.out.var (w5.heap.size) [.bool r1_m, .slice r1_0 r1_n r1_c] 24 (by simp))
  clear S5
  refine wp_world (fun w6 hW => ?_)
  rw [← hW] at S6
  clear hW
  obtain ⟨c_b7_0, c_b7_1⟩ := S6.out.b.t.c2
  obtain ⟨c_b9_0, c_b9_1⟩ := S6.out.b.c2
  go_upto_region 9 with (fail)
  clear c_b7_0 c_b7_1 c_b9_0 c_b9_1
  have S7 := Lib.hid (S6.out.var (w6.heap.size) [.bool false, .slice none 0 0, .bool r1_m, .slice r1_0 r1_n r1_c] 26 (by simp))
  clear S6
  refine wp_world (fun w7 hW => ?_)
  rw [← hW] at S7
  clear hW
  obtain ⟨c_b2_0, c_b2_1, c_b2_2, c_b2_3⟩ := S7.out.b.t.t.t.c4
  obtain ⟨f_b2_0, f_b2_1, f_b2_2, f_b2_3⟩ := S7.out.b.t.t.t.f4
  go_wp2_with fail
  have S8 : Hid (Sx w _ [⟨(w6.heap.size), [.bool false, .slice none 0 0, .bool r1_m, .slice r1_0 r1_n r1_c]⟩, ⟨(w5.heap.size), [.bool r1_m, .slice r1_0 r1_n r1_c]⟩, ⟨(w3.heap.size), [.bool false, .slice none 0 0]⟩, ⟨(w.heap.size), [.bool false, .slice none 0 0, .bool false, .slice none 0 0]⟩] _) := Lib.hid (Sx.set [⟨(w6.heap.size), [.bool false, .slice none 0 0, .bool r1_m, .slice r1_0 r1_n r1_c]⟩, ⟨(w5.heap.size), [.bool r1_m, .slice r1_0 r1_n r1_c]⟩, ⟨(w3.heap.size), [.bool false, .slice none 0 0]⟩] [] (Sx.set [⟨(w6.heap.size), [.bool false, .slice none 0 0, .bool r1_m, .slice r1_0 r1_n r1_c]⟩, ⟨(w5.heap.size), [.bool r1_m, .slice r1_0 r1_n r1_c]⟩, ⟨(w3.heap.size), [.bool false, .slice none 0 0]⟩] [] (Sx.set [⟨(w6.heap.size), [.bool false, .slice none 0 0, .bool r1_m, .slice r1_0 r1_n r1_c]⟩, ⟨(w5.heap.size), [.bool r1_m, .slice r1_0 r1_n r1_c]⟩, ⟨(w3.heap.size), [.bool false, .slice none 0 0]⟩] [] (Sx.set [⟨(w6.heap.size), [.bool false, .slice none 0 0, .bool r1_m, .slice r1_0 r1_n r1_c]⟩, ⟨(w5.heap.size), [.bool r1_m, .slice r1_0 r1_n r1_c]⟩, ⟨(w3.heap.size), [.bool false, .slice none 0 0]⟩] [] S7.out 0 (.bool false)) 1 (.slice none 0 0)) 2 (.bool false)) 3 (.slice none 0 0))
  clear S7
  refine bodyPost_ret (v := .tuple #[.agg #[.bool false, .slice none 0 0, .bool false, .slice none 0 0], .int .i64 4]) (by simp [results, Tryz.results35, go_sem, c_b2_0, c_b2_1, c_b2_2, c_b2_3]) rfl ?_
  exact ⟨rfl, S8.out.h⟩

set_option maxHeartbeats 1000000 in
set_option maxRecDepth 100000 in
theorem rp_g1 {s a b : ByteArray} {A B : List UInt8} {w : World} (hs : s.size ≤ 20000) (hcut : ∀ w, Calls Tryz.prog 63 #[.string s, .string ⟨#[47]⟩] w (RetB (.tuple #[.string a, .string b, .bool true]) w)) (la : a.data.toList = A) (sa : a.size ≤ 20000) (BA : Hid (A.length ≤ 20000)) (BB : Hid (B.length ≤ 20000)) (na : numB A = false) (lb : b.data.toList = B) (sb : b.size ≤ 20000) (nb : numB B = false) :
    Calls Tryz.prog 35 #[.string s] w (RetB (.tuple #[.agg #[.bool false, .slice none 0 0, .bool false, .slice none 0 0], .int .i64 4]) w) := by
  have HC := Lib.hid hcut
  have LA := Lib.hid la
  have LB := Lib.hid lb
  have SA := Lib.hid sa
  have SB := Lib.hid sb
  have NA := Lib.hid na
  clear hcut la lb sa sb na
  have NB := Lib.hid nb
  clear nb
  have _u := BA
  have _v := BB
  go_enter Tryz.func35, Tryz.ntmps35
  have S0 := Lib.hid (Sx.start (w := w) (N := []) trivial)
  have S1 := Lib.hid (S0.out.var (w.heap.size) [.bool false, .slice none 0 0, .bool false, .slice none 0 0] 26 (by simp))
  clear S0
  go_upto_region 1 with (fail)
  refine wp_world (fun w1 hW => ?_)
  rw [← hW] at S1
  clear hW
  go_wp2_with fail
  refine (HC.out _).mono ?_
  rintro e w2 ⟨rfl, hB⟩
  have S2 := Lib.hid ((S1.out.step hB))
  clear S1 hB
  go_wp2_with fail
  refine (parse_as_bad _ (SA.out) (NA.out) (LA.out)).mono ?_
  rintro e w3 ⟨rfl, hB⟩
  have S3 := Lib.hid ((S2.out.step hB))
  clear S2 hB
  go_upto_region 7 with (fail)
  have S4 := Lib.hid (S3.out.var (w3.heap.size) [.bool false, .slice none 0 0] 24 (by simp))
  clear S3
  refine wp_world (fun w4 hW => ?_)
  rw [← hW] at S4
  clear hW
  go_wp2_with fail
  refine (parse_as_bad _ (SB.out) (NB.out) (LB.out)).mono ?_
  rintro e w5 ⟨rfl, hB⟩
  have S5 := Lib.hid ((S4.out.step hB))
  clear S4 hB
  go_upto_region 8 with (fail)
  have S6 := Lib.hid (S5.out.var (w5.heap.size) [.bool false, .slice none 0 0] 24 (by simp))
  clear S5
  refine wp_world (fun w6 hW => ?_)
  rw [← hW] at S6
  clear hW
  obtain ⟨c_b7_0, c_b7_1⟩ := S6.out.b.t.c2
  obtain ⟨c_b9_0, c_b9_1⟩ := S6.out.b.c2
  go_upto_region 9 with (fail)
  clear c_b7_0 c_b7_1 c_b9_0 c_b9_1
  have S7 := Lib.hid (S6.out.var (w6.heap.size) [.bool false, .slice none 0 0, .bool false, .slice none 0 0] 26 (by simp))
  clear S6
  refine wp_world (fun w7 hW => ?_)
  rw [← hW] at S7
  clear hW
  obtain ⟨c_b2_0, c_b2_1, c_b2_2, c_b2_3⟩ := S7.out.b.t.t.t.c4
  obtain ⟨f_b2_0, f_b2_1, f_b2_2, f_b2_3⟩ := S7.out.b.t.t.t.f4
  go_wp2_with fail
  have S8 : Hid (Sx w _ [⟨(w6.heap.size), [.bool false, .slice none 0 0, .bool false, .slice none 0 0]⟩, ⟨(w5.heap.size), [.bool false, .slice none 0 0]⟩, ⟨(w3.heap.size), [.bool false, .slice none 0 0]⟩, ⟨(w.heap.size), [.bool false, .slice none 0 0, .bool false, .slice none 0 0]⟩] _) := Lib.hid (Sx.set [⟨(w6.heap.size), [.bool false, .slice none 0 0, .bool false, .slice none 0 0]⟩, ⟨(w5.heap.size), [.bool false, .slice none 0 0]⟩, ⟨(w3.heap.size), [.bool false, .slice none 0 0]⟩] [] (Sx.set [⟨(w6.heap.size), [.bool false, .slice none 0 0, .bool false, .slice none 0 0]⟩, ⟨(w5.heap.size), [.bool false, .slice none 0 0]⟩, ⟨(w3.heap.size), [.bool false, .slice none 0 0]⟩] [] (Sx.set [⟨(w6.heap.size), [.bool false, .slice none 0 0, .bool false, .slice none 0 0]⟩, ⟨(w5.heap.size), [.bool false, .slice none 0 0]⟩, ⟨(w3.heap.size), [.bool false, .slice none 0 0]⟩] [] (Sx.set [⟨(w6.heap.size), [.bool false, .slice none 0 0, .bool false, .slice none 0 0]⟩, ⟨(w5.heap.size), [.bool false, .slice none 0 0]⟩, ⟨(w3.heap.size), [.bool false, .slice none 0 0]⟩] [] S7.out 0 (.bool false)) 1 (.slice none 0 0)) 2 (.bool false)) 3 (.slice none 0 0))
  clear S7
  refine bodyPost_ret (v := .tuple #[.agg #[.bool false, .slice none 0 0, .bool false, .slice none 0 0], .int .i64 4]) (by simp [results, Tryz.results35, go_sem, c_b2_0, c_b2_1, c_b2_2, c_b2_3]) rfl ?_
  exact ⟨rfl, S8.out.h⟩

set_option maxHeartbeats 1000000 in
set_option maxRecDepth 100000 in
theorem rp_f1 {s a b : ByteArray} {A B : List UInt8} {w : World} (hs : s.size ≤ 20000) (hcut : ∀ w, Calls Tryz.prog 63 #[.string s, .string ⟨#[47]⟩] w (RetB (.tuple #[.string a, .string b, .bool true]) w)) (la : a.data.toList = A) (sa : a.size ≤ 20000) (BA : Hid (A.length ≤ 20000)) (BB : Hid (B.length ≤ 20000)) (na : numB A = true) (lb : b.data.toList = B) (sb : b.size ≤ 20000) (nb : numB B = false) :
    Calls Tryz.prog 35 #[.string s] w (RetB (.tuple #[.agg #[.bool false, .slice none 0 0, .bool false, .slice none 0 0], .int .i64 4]) w) := by
  have HC := Lib.hid hcut
  have LA := Lib.hid la
  have LB := Lib.hid lb
  have SA := Lib.hid sa
  have SB := Lib.hid sb
  have NA := Lib.hid na
  clear hcut la lb sa sb na
  have NB := Lib.hid nb
  clear nb
  have _v := BB
  go_enter Tryz.func35, Tryz.ntmps35
  have S0 := Lib.hid (Sx.start (w := w) (N := []) trivial)
  have S1 := Lib.hid (S0.out.var (w.heap.size) [.bool false, .slice none 0 0, .bool false, .slice none 0 0] 26 (by simp))
  clear S0
  go_upto_region 1 with (fail)
  refine wp_world (fun w1 hW => ?_)
  rw [← hW] at S1
  clear hW
  go_wp2_with fail
  refine (HC.out _).mono ?_
  rintro e w2 ⟨rfl, hB⟩
  have S2 := Lib.hid ((S1.out.step hB))
  clear S1 hB
  go_wp2_with fail
  refine (parse_as _ (SA.out) (NA.out) (LA.out)).mono ?_
  rintro e w3 ⟨r1_m, r1_0, r1_n, r1_c, rfl, hX, hB⟩
  have S3 := Lib.hid (((S2.out.step hB).cb (hX.cb ((numZ_bd (NA.out)).mono (BA.out)) (by omega)) rfl))
  clear S2 hX hB
  go_upto_region 7 with (fail)
  have S4 := Lib.hid (S3.out.var (w3.heap.size) [.bool r1_m, .slice r1_0 r1_n r1_c] 24 (by simp))
  clear S3
  refine wp_world (fun w4 hW => ?_)
  rw [← hW] at S4
  clear hW
  go_wp2_with fail
  refine (parse_as_bad _ (SB.out) (NB.out) (LB.out)).mono ?_
  rintro e w5 ⟨rfl, hB⟩
  have S5 := Lib.hid ((S4.out.step hB))
  clear S4 hB
  go_upto_region 8 with (fail)
  have S6 := Lib.hid (S5.out.var (w5.heap.size) [.bool false, .slice none 0 0] 24 (by simp))
  clear S5
  refine wp_world (fun w6 hW => ?_)
  rw [← hW] at S6
  clear hW
  obtain ⟨c_b7_0, c_b7_1⟩ := S6.out.b.t.c2
  obtain ⟨c_b9_0, c_b9_1⟩ := S6.out.b.c2
  go_upto_region 9 with (fail)
  clear c_b7_0 c_b7_1 c_b9_0 c_b9_1
  have S7 := Lib.hid (S6.out.var (w6.heap.size) [.bool r1_m, .slice r1_0 r1_n r1_c, .bool false, .slice none 0 0] 26 (by simp))
  clear S6
  refine wp_world (fun w7 hW => ?_)
  rw [← hW] at S7
  clear hW
  obtain ⟨c_b2_0, c_b2_1, c_b2_2, c_b2_3⟩ := S7.out.b.t.t.t.c4
  obtain ⟨f_b2_0, f_b2_1, f_b2_2, f_b2_3⟩ := S7.out.b.t.t.t.f4
  go_wp2_with fail
  have S8 : Hid (Sx w _ [⟨(w6.heap.size), [.bool r1_m, .slice r1_0 r1_n r1_c, .bool false, .slice none 0 0]⟩, ⟨(w5.heap.size), [.bool false, .slice none 0 0]⟩, ⟨(w3.heap.size), [.bool r1_m, .slice r1_0 r1_n r1_c]⟩, ⟨(w.heap.size), [.bool false, .slice none 0 0, .bool false, .slice none 0 0]⟩] _) := Lib.hid (Sx.set [⟨(w6.heap.size), [.bool r1_m, .slice r1_0 r1_n r1_c, .bool false, .slice none 0 0]⟩, ⟨(w5.heap.size), [.bool false, .slice none 0 0]⟩, ⟨(w3.heap.size), [.bool r1_m, .slice r1_0 r1_n r1_c]⟩] [] (Sx.set [⟨(w6.heap.size), [.bool r1_m, .slice r1_0 r1_n r1_c, .bool false, .slice none 0 0]⟩, ⟨(w5.heap.size), [.bool false, .slice none 0 0]⟩, ⟨(w3.heap.size), [.bool r1_m, .slice r1_0 r1_n r1_c]⟩] [] (Sx.set [⟨(w6.heap.size), [.bool r1_m, .slice r1_0 r1_n r1_c, .bool false, .slice none 0 0]⟩, ⟨(w5.heap.size), [.bool false, .slice none 0 0]⟩, ⟨(w3.heap.size), [.bool r1_m, .slice r1_0 r1_n r1_c]⟩] [] (Sx.set [⟨(w6.heap.size), [.bool r1_m, .slice r1_0 r1_n r1_c, .bool false, .slice none 0 0]⟩, ⟨(w5.heap.size), [.bool false, .slice none 0 0]⟩, ⟨(w3.heap.size), [.bool r1_m, .slice r1_0 r1_n r1_c]⟩] [] S7.out 0 (.bool false)) 1 (.slice none 0 0)) 2 (.bool false)) 3 (.slice none 0 0))
  clear S7
  refine bodyPost_ret (v := .tuple #[.agg #[.bool false, .slice none 0 0, .bool false, .slice none 0 0], .int .i64 4]) (by simp [results, Tryz.results35, go_sem, c_b2_0, c_b2_1, c_b2_2, c_b2_3]) rfl ?_
  exact ⟨rfl, S8.out.h⟩

set_option maxHeartbeats 1000000 in
set_option maxRecDepth 100000 in
theorem rp_m1 {s a b : ByteArray} {A B : List UInt8} {w : World} (hs : s.size ≤ 20000) (hcut : ∀ w, Calls Tryz.prog 63 #[.string s, .string ⟨#[47]⟩] w (RetB (.tuple #[.string a, .string b, .bool true]) w)) (la : a.data.toList = A) (sa : a.size ≤ 20000) (BA : Hid (A.length ≤ 20000)) (BB : Hid (B.length ≤ 20000)) (na : numB A = true) (lb : b.data.toList = B) (sb : b.size ≤ 20000) (nb : numB B = true) (hm : (decide (0 < numZ B) && decide (Int.gcd (numZ A) (numZ B) = 1)) = false) :
    Calls Tryz.prog 35 #[.string s] w (RetB (.tuple #[.agg #[.bool false, .slice none 0 0, .bool false, .slice none 0 0], .int .i64 4]) w) := by
  have HC := Lib.hid hcut
  have LA := Lib.hid la
  have LB := Lib.hid lb
  have SA := Lib.hid sa
  have SB := Lib.hid sb
  have NA := Lib.hid na
  clear hcut la lb sa sb na
  have NB := Lib.hid nb
  clear nb
  have HM := Lib.hid hm
  clear hm
  go_enter Tryz.func35, Tryz.ntmps35
  have S0 := Lib.hid (Sx.start (w := w) (N := []) trivial)
  have S1 := Lib.hid (S0.out.var (w.heap.size) [.bool false, .slice none 0 0, .bool false, .slice none 0 0] 26 (by simp))
  clear S0
  go_upto_region 1 with (fail)
  refine wp_world (fun w1 hW => ?_)
  rw [← hW] at S1
  clear hW
  go_wp2_with fail
  refine (HC.out _).mono ?_
  rintro e w2 ⟨rfl, hB⟩
  have S2 := Lib.hid ((S1.out.step hB))
  clear S1 hB
  go_wp2_with fail
  refine (parse_as _ (SA.out) (NA.out) (LA.out)).mono ?_
  rintro e w3 ⟨r1_m, r1_0, r1_n, r1_c, rfl, hX, hB⟩
  have S3 := Lib.hid (((S2.out.step hB).cb (hX.cb ((numZ_bd (NA.out)).mono (BA.out)) (by omega)) rfl))
  clear S2 hX hB
  go_upto_region 7 with (fail)
  have S4 := Lib.hid (S3.out.var (w3.heap.size) [.bool r1_m, .slice r1_0 r1_n r1_c] 24 (by simp))
  clear S3
  refine wp_world (fun w4 hW => ?_)
  rw [← hW] at S4
  clear hW
  go_wp2_with fail
  refine (parse_as _ (SB.out) (NB.out) (LB.out)).mono ?_
  rintro e w5 ⟨r2_m, r2_0, r2_n, r2_c, rfl, hX, hB⟩
  have S5 := Lib.hid (((S4.out.step hB).cb (hX.cb ((numZ_bd (NB.out)).mono (BB.out)) (by omega)) rfl))
  clear S4 hX hB
  go_upto_region 8 with (fail)
  have S6 := Lib.hid (S5.out.var (w5.heap.size) [.bool r2_m, .slice r2_0 r2_n r2_c] 24 (by simp))
  clear S5
  refine wp_world (fun w6 hW => ?_)
  rw [← hW] at S6
  clear hW
  obtain ⟨c_b7_0, c_b7_1⟩ := S6.out.b.t.c2
  obtain ⟨c_b9_0, c_b9_1⟩ := S6.out.b.c2
  go_upto_region 9 with (fail)
  clear c_b7_0 c_b7_1 c_b9_0 c_b9_1
  have S7 := Lib.hid (S6.out.var (w6.heap.size) [.bool r1_m, .slice r1_0 r1_n r1_c, .bool r2_m, .slice r2_0 r2_n r2_c] 26 (by simp))
  clear S6
  refine wp_world (fun w7 hW => ?_)
  rw [← hW] at S7
  clear hW
  obtain ⟨c_b11_0, c_b11_1, c_b11_2, c_b11_3⟩ := S7.out.b.c4
  go_wp2_with fail
  clear c_b11_0 c_b11_1 c_b11_2 c_b11_3
  refine (rmay_cc false S7.out.n.t.cb.cx S7.out.n.cb.cx (HM.out)).mono ?_
  rintro e w8 ⟨rfl, hB⟩
  have S8 := Lib.hid ((S7.out.step hB))
  clear S7 hB
  obtain ⟨c_b2_0, c_b2_1, c_b2_2, c_b2_3⟩ := S8.out.b.t.t.t.c4
  obtain ⟨f_b2_0, f_b2_1, f_b2_2, f_b2_3⟩ := S8.out.b.t.t.t.f4
  go_wp2_with fail
  have S9 : Hid (Sx w _ [⟨(w6.heap.size), [.bool r1_m, .slice r1_0 r1_n r1_c, .bool r2_m, .slice r2_0 r2_n r2_c]⟩, ⟨(w5.heap.size), [.bool r2_m, .slice r2_0 r2_n r2_c]⟩, ⟨(w3.heap.size), [.bool r1_m, .slice r1_0 r1_n r1_c]⟩, ⟨(w.heap.size), [.bool false, .slice none 0 0, .bool false, .slice none 0 0]⟩] _) := Lib.hid (Sx.set [⟨(w6.heap.size), [.bool r1_m, .slice r1_0 r1_n r1_c, .bool r2_m, .slice r2_0 r2_n r2_c]⟩, ⟨(w5.heap.size), [.bool r2_m, .slice r2_0 r2_n r2_c]⟩, ⟨(w3.heap.size), [.bool r1_m, .slice r1_0 r1_n r1_c]⟩] [] (Sx.set [⟨(w6.heap.size), [.bool r1_m, .slice r1_0 r1_n r1_c, .bool r2_m, .slice r2_0 r2_n r2_c]⟩, ⟨(w5.heap.size), [.bool r2_m, .slice r2_0 r2_n r2_c]⟩, ⟨(w3.heap.size), [.bool r1_m, .slice r1_0 r1_n r1_c]⟩] [] (Sx.set [⟨(w6.heap.size), [.bool r1_m, .slice r1_0 r1_n r1_c, .bool r2_m, .slice r2_0 r2_n r2_c]⟩, ⟨(w5.heap.size), [.bool r2_m, .slice r2_0 r2_n r2_c]⟩, ⟨(w3.heap.size), [.bool r1_m, .slice r1_0 r1_n r1_c]⟩] [] (Sx.set [⟨(w6.heap.size), [.bool r1_m, .slice r1_0 r1_n r1_c, .bool r2_m, .slice r2_0 r2_n r2_c]⟩, ⟨(w5.heap.size), [.bool r2_m, .slice r2_0 r2_n r2_c]⟩, ⟨(w3.heap.size), [.bool r1_m, .slice r1_0 r1_n r1_c]⟩] [] S8.out 0 (.bool false)) 1 (.slice none 0 0)) 2 (.bool false)) 3 (.slice none 0 0))
  clear S8
  refine bodyPost_ret (v := .tuple #[.agg #[.bool false, .slice none 0 0, .bool false, .slice none 0 0], .int .i64 4]) (by simp [results, Tryz.results35, go_sem, c_b2_0, c_b2_1, c_b2_2, c_b2_3]) rfl ?_
  exact ⟨rfl, S9.out.h⟩

set_option maxHeartbeats 1000000 in
set_option maxRecDepth 100000 in
theorem rp_s1 {s a b : ByteArray} {A B : List UInt8} {w : World} (hs : s.size ≤ 20000) (hcut : ∀ w, Calls Tryz.prog 63 #[.string s, .string ⟨#[47]⟩] w (RetB (.tuple #[.string a, .string b, .bool true]) w)) (la : a.data.toList = A) (sa : a.size ≤ 20000) (BA : Hid (A.length ≤ 20000)) (BB : Hid (B.length ≤ 20000)) (na : numB A = true) (lb : b.data.toList = B) (sb : b.size ≤ 20000) (nb : numB B = true) (hm : (decide (0 < numZ B) && decide (Int.gcd (numZ A) (numZ B) = 1)) = true) (ho : decide (numZ B = 1) = true) :
    Calls Tryz.prog 35 #[.string s] w (RetB (.tuple #[.agg #[.bool false, .slice none 0 0, .bool false, .slice none 0 0], .int .i64 4]) w) := by
  have HC := Lib.hid hcut
  have LA := Lib.hid la
  have LB := Lib.hid lb
  have SA := Lib.hid sa
  have SB := Lib.hid sb
  have NA := Lib.hid na
  clear hcut la lb sa sb na
  have NB := Lib.hid nb
  clear nb
  have HM := Lib.hid hm
  clear hm
  have HO := Lib.hid ho
  clear ho
  go_enter Tryz.func35, Tryz.ntmps35
  have S0 := Lib.hid (Sx.start (w := w) (N := []) trivial)
  have S1 := Lib.hid (S0.out.var (w.heap.size) [.bool false, .slice none 0 0, .bool false, .slice none 0 0] 26 (by simp))
  clear S0
  go_upto_region 1 with (fail)
  refine wp_world (fun w1 hW => ?_)
  rw [← hW] at S1
  clear hW
  go_wp2_with fail
  refine (HC.out _).mono ?_
  rintro e w2 ⟨rfl, hB⟩
  have S2 := Lib.hid ((S1.out.step hB))
  clear S1 hB
  go_wp2_with fail
  refine (parse_as _ (SA.out) (NA.out) (LA.out)).mono ?_
  rintro e w3 ⟨r1_m, r1_0, r1_n, r1_c, rfl, hX, hB⟩
  have S3 := Lib.hid (((S2.out.step hB).cb (hX.cb ((numZ_bd (NA.out)).mono (BA.out)) (by omega)) rfl))
  clear S2 hX hB
  go_upto_region 7 with (fail)
  have S4 := Lib.hid (S3.out.var (w3.heap.size) [.bool r1_m, .slice r1_0 r1_n r1_c] 24 (by simp))
  clear S3
  refine wp_world (fun w4 hW => ?_)
  rw [← hW] at S4
  clear hW
  go_wp2_with fail
  refine (parse_as _ (SB.out) (NB.out) (LB.out)).mono ?_
  rintro e w5 ⟨r2_m, r2_0, r2_n, r2_c, rfl, hX, hB⟩
  have S5 := Lib.hid (((S4.out.step hB).cb (hX.cb ((numZ_bd (NB.out)).mono (BB.out)) (by omega)) rfl))
  clear S4 hX hB
  go_upto_region 8 with (fail)
  have S6 := Lib.hid (S5.out.var (w5.heap.size) [.bool r2_m, .slice r2_0 r2_n r2_c] 24 (by simp))
  clear S5
  refine wp_world (fun w6 hW => ?_)
  rw [← hW] at S6
  clear hW
  obtain ⟨c_b7_0, c_b7_1⟩ := S6.out.b.t.c2
  obtain ⟨c_b9_0, c_b9_1⟩ := S6.out.b.c2
  go_upto_region 9 with (fail)
  clear c_b7_0 c_b7_1 c_b9_0 c_b9_1
  have S7 := Lib.hid (S6.out.var (w6.heap.size) [.bool r1_m, .slice r1_0 r1_n r1_c, .bool r2_m, .slice r2_0 r2_n r2_c] 26 (by simp))
  clear S6
  refine wp_world (fun w7 hW => ?_)
  rw [← hW] at S7
  clear hW
  obtain ⟨c_b11_0, c_b11_1, c_b11_2, c_b11_3⟩ := S7.out.b.c4
  go_wp2_with fail
  clear c_b11_0 c_b11_1 c_b11_2 c_b11_3
  refine (rmay_cc true S7.out.n.t.cb.cx S7.out.n.cb.cx (HM.out)).mono ?_
  rintro e w8 ⟨rfl, hB⟩
  have S8 := Lib.hid ((S7.out.step hB))
  clear S7 hB
  obtain ⟨c_b9_0, c_b9_1⟩ := S8.out.b.t.c2
  go_wp2_with fail
  clear c_b9_0 c_b9_1
  refine (one_any true S8.out.n.cb.cx.nx (HO.out)).mono ?_
  rintro e w9 ⟨rfl, hB⟩
  have S9 := Lib.hid ((S8.out.step hB))
  clear S8 hB
  obtain ⟨c_b2_0, c_b2_1, c_b2_2, c_b2_3⟩ := S9.out.b.t.t.t.c4
  obtain ⟨f_b2_0, f_b2_1, f_b2_2, f_b2_3⟩ := S9.out.b.t.t.t.f4
  go_wp2_with fail
  have S10 : Hid (Sx w _ [⟨(w6.heap.size), [.bool r1_m, .slice r1_0 r1_n r1_c, .bool r2_m, .slice r2_0 r2_n r2_c]⟩, ⟨(w5.heap.size), [.bool r2_m, .slice r2_0 r2_n r2_c]⟩, ⟨(w3.heap.size), [.bool r1_m, .slice r1_0 r1_n r1_c]⟩, ⟨(w.heap.size), [.bool false, .slice none 0 0, .bool false, .slice none 0 0]⟩] _) := Lib.hid (Sx.set [⟨(w6.heap.size), [.bool r1_m, .slice r1_0 r1_n r1_c, .bool r2_m, .slice r2_0 r2_n r2_c]⟩, ⟨(w5.heap.size), [.bool r2_m, .slice r2_0 r2_n r2_c]⟩, ⟨(w3.heap.size), [.bool r1_m, .slice r1_0 r1_n r1_c]⟩] [] (Sx.set [⟨(w6.heap.size), [.bool r1_m, .slice r1_0 r1_n r1_c, .bool r2_m, .slice r2_0 r2_n r2_c]⟩, ⟨(w5.heap.size), [.bool r2_m, .slice r2_0 r2_n r2_c]⟩, ⟨(w3.heap.size), [.bool r1_m, .slice r1_0 r1_n r1_c]⟩] [] (Sx.set [⟨(w6.heap.size), [.bool r1_m, .slice r1_0 r1_n r1_c, .bool r2_m, .slice r2_0 r2_n r2_c]⟩, ⟨(w5.heap.size), [.bool r2_m, .slice r2_0 r2_n r2_c]⟩, ⟨(w3.heap.size), [.bool r1_m, .slice r1_0 r1_n r1_c]⟩] [] (Sx.set [⟨(w6.heap.size), [.bool r1_m, .slice r1_0 r1_n r1_c, .bool r2_m, .slice r2_0 r2_n r2_c]⟩, ⟨(w5.heap.size), [.bool r2_m, .slice r2_0 r2_n r2_c]⟩, ⟨(w3.heap.size), [.bool r1_m, .slice r1_0 r1_n r1_c]⟩] [] S9.out 0 (.bool false)) 1 (.slice none 0 0)) 2 (.bool false)) 3 (.slice none 0 0))
  clear S9
  refine bodyPost_ret (v := .tuple #[.agg #[.bool false, .slice none 0 0, .bool false, .slice none 0 0], .int .i64 4]) (by simp [results, Tryz.results35, go_sem, c_b2_0, c_b2_1, c_b2_2, c_b2_3]) rfl ?_
  exact ⟨rfl, S10.out.h⟩

set_option maxHeartbeats 1000000 in
set_option maxRecDepth 100000 in
theorem rp_o1 {s a b : ByteArray} {A B : List UInt8} {w : World} (hs : s.size ≤ 20000) (hcut : ∀ w, Calls Tryz.prog 63 #[.string s, .string ⟨#[47]⟩] w (RetB (.tuple #[.string a, .string b, .bool true]) w)) (la : a.data.toList = A) (sa : a.size ≤ 20000) (BA : Hid (A.length ≤ 20000)) (BB : Hid (B.length ≤ 20000)) (na : numB A = true) (lb : b.data.toList = B) (sb : b.size ≤ 20000) (nb : numB B = true) (hm : (decide (0 < numZ B) && decide (Int.gcd (numZ A) (numZ B) = 1)) = true) (ho : decide (numZ B = 1) = false) {q : Rat} (hn : numZ A = q.num) (hd : numZ B = (q.den : Int)) :
    Calls Tryz.prog 35 #[.string s] w (NewRE w q 20000 0) := by
  have HC := Lib.hid hcut
  have LA := Lib.hid la
  have LB := Lib.hid lb
  have SA := Lib.hid sa
  have SB := Lib.hid sb
  have NA := Lib.hid na
  clear hcut la lb sa sb na
  have NB := Lib.hid nb
  clear nb
  have HM := Lib.hid hm
  clear hm
  have HO := Lib.hid ho
  clear ho
  have HN := Lib.hid hn
  have HD := Lib.hid hd
  clear hn hd
  go_enter Tryz.func35, Tryz.ntmps35
  have S0 := Lib.hid (Sx.start (w := w) (N := []) trivial)
  have S1 := Lib.hid (S0.out.var (w.heap.size) [.bool false, .slice none 0 0, .bool false, .slice none 0 0] 26 (by simp))
  clear S0
  go_upto_region 1 with (fail)
  refine wp_world (fun w1 hW => ?_)
  rw [← hW] at S1
  clear hW
  go_wp2_with fail
  refine (HC.out _).mono ?_
  rintro e w2 ⟨rfl, hB⟩
  have S2 := Lib.hid ((S1.out.step hB))
  clear S1 hB
  go_wp2_with fail
  refine (parse_as _ (SA.out) (NA.out) (LA.out)).mono ?_
  rintro e w3 ⟨r1_m, r1_0, r1_n, r1_c, rfl, hX, hB⟩
  have S3 := Lib.hid (((S2.out.step hB).cb (hX.cb ((numZ_bd (NA.out)).mono (BA.out)) (by omega)) rfl))
  clear S2 hX hB
  go_upto_region 7 with (fail)
  have S4 := Lib.hid (S3.out.var (w3.heap.size) [.bool r1_m, .slice r1_0 r1_n r1_c] 24 (by simp))
  clear S3
  refine wp_world (fun w4 hW => ?_)
  rw [← hW] at S4
  clear hW
  go_wp2_with fail
  refine (parse_as _ (SB.out) (NB.out) (LB.out)).mono ?_
  rintro e w5 ⟨r2_m, r2_0, r2_n, r2_c, rfl, hX, hB⟩
  have S5 := Lib.hid (((S4.out.step hB).cb (hX.cb ((numZ_bd (NB.out)).mono (BB.out)) (by omega)) rfl))
  clear S4 hX hB
  go_upto_region 8 with (fail)
  have S6 := Lib.hid (S5.out.var (w5.heap.size) [.bool r2_m, .slice r2_0 r2_n r2_c] 24 (by simp))
  clear S5
  refine wp_world (fun w6 hW => ?_)
  rw [← hW] at S6
  clear hW
  obtain ⟨c_b7_0, c_b7_1⟩ := S6.out.b.t.c2
  obtain ⟨c_b9_0, c_b9_1⟩ := S6.out.b.c2
  go_upto_region 9 with (fail)
  clear c_b7_0 c_b7_1 c_b9_0 c_b9_1
  have S7 := Lib.hid (S6.out.var (w6.heap.size) [.bool r1_m, .slice r1_0 r1_n r1_c, .bool r2_m, .slice r2_0 r2_n r2_c] 26 (by simp))
  clear S6
  refine wp_world (fun w7 hW => ?_)
  rw [← hW] at S7
  clear hW
  obtain ⟨c_b11_0, c_b11_1, c_b11_2, c_b11_3⟩ := S7.out.b.c4
  go_wp2_with fail
  clear c_b11_0 c_b11_1 c_b11_2 c_b11_3
  refine (rmay_cc true S7.out.n.t.cb.cx S7.out.n.cb.cx (HM.out)).mono ?_
  rintro e w8 ⟨rfl, hB⟩
  have S8 := Lib.hid ((S7.out.step hB))
  clear S7 hB
  obtain ⟨c_b9_0, c_b9_1⟩ := S8.out.b.t.c2
  go_wp2_with fail
  clear c_b9_0 c_b9_1
  refine (one_any false S8.out.n.cb.cx.nx (HO.out)).mono ?_
  rintro e w9 ⟨rfl, hB⟩
  have S9 := Lib.hid ((S8.out.step hB))
  clear S8 hB
  obtain ⟨c_b11_0, c_b11_1, c_b11_2, c_b11_3⟩ := S9.out.b.c4
  obtain ⟨c_b2_0, c_b2_1, c_b2_2, c_b2_3⟩ := S9.out.b.t.t.t.c4
  obtain ⟨f_b2_0, f_b2_1, f_b2_2, f_b2_3⟩ := S9.out.b.t.t.t.f4
  go_wp2_with fail
  have S10 : Hid (Sx w _ [⟨(w6.heap.size), [.bool r1_m, .slice r1_0 r1_n r1_c, .bool r2_m, .slice r2_0 r2_n r2_c]⟩, ⟨(w5.heap.size), [.bool r2_m, .slice r2_0 r2_n r2_c]⟩, ⟨(w3.heap.size), [.bool r1_m, .slice r1_0 r1_n r1_c]⟩, ⟨(w.heap.size), [.bool r1_m, .slice r1_0 r1_n r1_c, .bool r2_m, .slice r2_0 r2_n r2_c]⟩] _) := Lib.hid (Sx.set [⟨(w6.heap.size), [.bool r1_m, .slice r1_0 r1_n r1_c, .bool r2_m, .slice r2_0 r2_n r2_c]⟩, ⟨(w5.heap.size), [.bool r2_m, .slice r2_0 r2_n r2_c]⟩, ⟨(w3.heap.size), [.bool r1_m, .slice r1_0 r1_n r1_c]⟩] [] (Sx.set [⟨(w6.heap.size), [.bool r1_m, .slice r1_0 r1_n r1_c, .bool r2_m, .slice r2_0 r2_n r2_c]⟩, ⟨(w5.heap.size), [.bool r2_m, .slice r2_0 r2_n r2_c]⟩, ⟨(w3.heap.size), [.bool r1_m, .slice r1_0 r1_n r1_c]⟩] [] (Sx.set [⟨(w6.heap.size), [.bool r1_m, .slice r1_0 r1_n r1_c, .bool r2_m, .slice r2_0 r2_n r2_c]⟩, ⟨(w5.heap.size), [.bool r2_m, .slice r2_0 r2_n r2_c]⟩, ⟨(w3.heap.size), [.bool r1_m, .slice r1_0 r1_n r1_c]⟩] [] (Sx.set [⟨(w6.heap.size), [.bool r1_m, .slice r1_0 r1_n r1_c, .bool r2_m, .slice r2_0 r2_n r2_c]⟩, ⟨(w5.heap.size), [.bool r2_m, .slice r2_0 r2_n r2_c]⟩, ⟨(w3.heap.size), [.bool r1_m, .slice r1_0 r1_n r1_c]⟩] [] S9.out 0 (.bool r1_m)) 1 (.slice r1_0 r1_n r1_c)) 2 (.bool r2_m)) 3 (.slice r2_0 r2_n r2_c))
  clear S9
  refine bodyPost_ret (v := .tuple #[.agg #[.bool r1_m, .slice r1_0 r1_n r1_c, .bool r2_m, .slice r2_0 r2_n r2_c], .int .i64 0]) (by simp [results, Tryz.results35, go_sem, c_b2_0, c_b2_1, c_b2_2, c_b2_3]) rfl ?_
  exact ⟨_, _, _, _, _, _, _, _, rfl, ⟨HN.out ▸ S10.out.n.t.cb.cx, HD.out ▸ S10.out.n.cb.cx, HN.out ▸ S10.out.n.t.cb.bd, HD.out ▸ S10.out.n.cb.bd⟩, S10.out.h⟩

set_option maxHeartbeats 1000000 in
set_option maxRecDepth 100000 in
theorem rp_e0 {s a b : ByteArray} {A B : List UInt8} {w : World} (hs : s.size ≤ 20000) (hcut : ∀ w, Calls Tryz.prog 63 #[.string s, .string ⟨#[47]⟩] w (RetB (.tuple #[.string a, .string b, .bool false]) w)) (la : a.data.toList = A) (sa : a.size ≤ 20000) (BA : Hid (A.length ≤ 20000)) (BB : Hid (B.length ≤ 20000)) (na : numB A = false) (lb : (⟨#[49]⟩ : ByteArray).data.toList = B) (sb : (⟨#[49]⟩ : ByteArray).size ≤ 20000) (NB : Hid (numB B = true)) :
    Calls Tryz.prog 35 #[.string s] w (RetB (.tuple #[.agg #[.bool false, .slice none 0 0, .bool false, .slice none 0 0], .int .i64 4]) w) := by
  have HC := Lib.hid hcut
  have LA := Lib.hid la
  have LB := Lib.hid lb
  have SA := Lib.hid sa
  have SB := Lib.hid sb
  have NA := Lib.hid na
  clear hcut la lb sa sb na
  have _u := BA
  go_enter Tryz.func35, Tryz.ntmps35
  have S0 := Lib.hid (Sx.start (w := w) (N := []) trivial)
  have S1 := Lib.hid (S0.out.var (w.heap.size) [.bool false, .slice none 0 0, .bool false, .slice none 0 0] 26 (by simp))
  clear S0
  go_upto_region 1 with (fail)
  refine wp_world (fun w1 hW => ?_)
  rw [← hW] at S1
  clear hW
  go_wp2_with fail
  refine (HC.out _).mono ?_
  rintro e w2 ⟨rfl, hB⟩
  have S2 := Lib.hid ((S1.out.step hB))
  clear S1 hB
  go_wp2_with fail
  refine (parse_as_bad _ (SA.out) (NA.out) (LA.out)).mono ?_
  rintro e w3 ⟨rfl, hB⟩
  have S3 := Lib.hid ((S2.out.step hB))
  clear S2 hB
  go_upto_region 7 with (fail)
  have S4 := Lib.hid (S3.out.var (w3.heap.size) [.bool false, .slice none 0 0] 24 (by simp))
  clear S3
  refine wp_world (fun w4 hW => ?_)
  rw [← hW] at S4
  clear hW
  go_wp2_with fail
  refine (parse_as _ (SB.out) (NB.out) (LB.out)).mono ?_
  rintro e w5 ⟨r1_m, r1_0, r1_n, r1_c, rfl, hX, hB⟩
  have S5 := Lib.hid (((S4.out.step hB).cb (hX.cb ((numZ_bd (NB.out)).mono (BB.out)) (by omega)) rfl))
  clear S4 hX hB
  go_upto_region 8 with (fail)
  have S6 := Lib.hid (S5.out.var (w5.heap.size) [.bool r1_m, .slice r1_0 r1_n r1_c] 24 (by simp))
  clear S5
  refine wp_world (fun w6 hW => ?_)
  rw [← hW] at S6
  clear hW
  obtain ⟨c_b7_0, c_b7_1⟩ := S6.out.b.t.c2
  obtain ⟨c_b9_0, c_b9_1⟩ := S6.out.b.c2
  go_upto_region 9 with (fail)
  clear c_b7_0 c_b7_1 c_b9_0 c_b9_1
  have S7 := Lib.hid (S6.out.var (w6.heap.size) [.bool false, .slice none 0 0, .bool r1_m, .slice r1_0 r1_n r1_c] 26 (by simp))
  clear S6
  refine wp_world (fun w7 hW => ?_)
  rw [← hW] at S7
  clear hW
  obtain ⟨c_b2_0, c_b2_1, c_b2_2, c_b2_3⟩ := S7.out.b.t.t.t.c4
  obtain ⟨f_b2_0, f_b2_1, f_b2_2, f_b2_3⟩ := S7.out.b.t.t.t.f4
  go_wp2_with fail
  have S8 : Hid (Sx w _ [⟨(w6.heap.size), [.bool false, .slice none 0 0, .bool r1_m, .slice r1_0 r1_n r1_c]⟩, ⟨(w5.heap.size), [.bool r1_m, .slice r1_0 r1_n r1_c]⟩, ⟨(w3.heap.size), [.bool false, .slice none 0 0]⟩, ⟨(w.heap.size), [.bool false, .slice none 0 0, .bool false, .slice none 0 0]⟩] _) := Lib.hid (Sx.set [⟨(w6.heap.size), [.bool false, .slice none 0 0, .bool r1_m, .slice r1_0 r1_n r1_c]⟩, ⟨(w5.heap.size), [.bool r1_m, .slice r1_0 r1_n r1_c]⟩, ⟨(w3.heap.size), [.bool false, .slice none 0 0]⟩] [] (Sx.set [⟨(w6.heap.size), [.bool false, .slice none 0 0, .bool r1_m, .slice r1_0 r1_n r1_c]⟩, ⟨(w5.heap.size), [.bool r1_m, .slice r1_0 r1_n r1_c]⟩, ⟨(w3.heap.size), [.bool false, .slice none 0 0]⟩] [] (Sx.set [⟨(w6.heap.size), [.bool false, .slice none 0 0, .bool r1_m, .slice r1_0 r1_n r1_c]⟩, ⟨(w5.heap.size), [.bool r1_m, .slice r1_0 r1_n r1_c]⟩, ⟨(w3.heap.size), [.bool false, .slice none 0 0]⟩] [] (Sx.set [⟨(w6.heap.size), [.bool false, .slice none 0 0, .bool r1_m, .slice r1_0 r1_n r1_c]⟩, ⟨(w5.heap.size), [.bool r1_m, .slice r1_0 r1_n r1_c]⟩, ⟨(w3.heap.size), [.bool false, .slice none 0 0]⟩] [] S7.out 0 (.bool false)) 1 (.slice none 0 0)) 2 (.bool false)) 3 (.slice none 0 0))
  clear S7
  refine bodyPost_ret (v := .tuple #[.agg #[.bool false, .slice none 0 0, .bool false, .slice none 0 0], .int .i64 4]) (by simp [results, Tryz.results35, go_sem, c_b2_0, c_b2_1, c_b2_2, c_b2_3]) rfl ?_
  exact ⟨rfl, S8.out.h⟩

set_option maxHeartbeats 1000000 in
set_option maxRecDepth 100000 in
theorem rp_o0 {s a b : ByteArray} {A B : List UInt8} {w : World} (hs : s.size ≤ 20000) (hcut : ∀ w, Calls Tryz.prog 63 #[.string s, .string ⟨#[47]⟩] w (RetB (.tuple #[.string a, .string b, .bool false]) w)) (la : a.data.toList = A) (sa : a.size ≤ 20000) (BA : Hid (A.length ≤ 20000)) (BB : Hid (B.length ≤ 20000)) (na : numB A = true) (lb : (⟨#[49]⟩ : ByteArray).data.toList = B) (sb : (⟨#[49]⟩ : ByteArray).size ≤ 20000) (nb : numB B = true) (hm : (decide (0 < numZ B) && decide (Int.gcd (numZ A) (numZ B) = 1)) = true) (ho : decide (numZ B = 1) = true) {q : Rat} (hn : numZ A = q.num) (hd : numZ B = (q.den : Int)) :
    Calls Tryz.prog 35 #[.string s] w (NewRE w q 20000 0) := by
  have HC := Lib.hid hcut
  have LA := Lib.hid la
  have LB := Lib.hid lb
  have SA := Lib.hid sa
  have SB := Lib.hid sb
  have NA := Lib.hid na
  clear hcut la lb sa sb na
  have NB := Lib.hid nb
  clear nb
  have HM := Lib.hid hm
  clear hm
  have HO := Lib.hid ho
  clear ho
  have HN := Lib.hid hn
  have HD := Lib.hid hd
  clear hn hd
  go_enter Tryz.func35, Tryz.ntmps35
  have S0 := Lib.hid (Sx.start (w := w) (N := []) trivial)
  have S1 := Lib.hid (S0.out.var (w.heap.size) [.bool false, .slice none 0 0, .bool false, .slice none 0 0] 26 (by simp))
  clear S0
  go_upto_region 1 with (fail)
  refine wp_world (fun w1 hW => ?_)
  rw [← hW] at S1
  clear hW
  go_wp2_with fail
  refine (HC.out _).mono ?_
  rintro e w2 ⟨rfl, hB⟩
  have S2 := Lib.hid ((S1.out.step hB))
  clear S1 hB
  go_wp2_with fail
  refine (parse_as _ (SA.out) (NA.out) (LA.out)).mono ?_
  rintro e w3 ⟨r1_m, r1_0, r1_n, r1_c, rfl, hX, hB⟩
  have S3 := Lib.hid (((S2.out.step hB).cb (hX.cb ((numZ_bd (NA.out)).mono (BA.out)) (by omega)) rfl))
  clear S2 hX hB
  go_upto_region 7 with (fail)
  have S4 := Lib.hid (S3.out.var (w3.heap.size) [.bool r1_m, .slice r1_0 r1_n r1_c] 24 (by simp))
  clear S3
  refine wp_world (fun w4 hW => ?_)
  rw [← hW] at S4
  clear hW
  go_wp2_with fail
  refine (parse_as _ (SB.out) (NB.out) (LB.out)).mono ?_
  rintro e w5 ⟨r2_m, r2_0, r2_n, r2_c, rfl, hX, hB⟩
  have S5 := Lib.hid (((S4.out.step hB).cb (hX.cb ((numZ_bd (NB.out)).mono (BB.out)) (by omega)) rfl))
  clear S4 hX hB
  go_upto_region 8 with (fail)
  have S6 := Lib.hid (S5.out.var (w5.heap.size) [.bool r2_m, .slice r2_0 r2_n r2_c] 24 (by simp))
  clear S5
  refine wp_world (fun w6 hW => ?_)
  rw [← hW] at S6
  clear hW
  obtain ⟨c_b7_0, c_b7_1⟩ := S6.out.b.t.c2
  obtain ⟨c_b9_0, c_b9_1⟩ := S6.out.b.c2
  go_upto_region 9 with (fail)
  clear c_b7_0 c_b7_1 c_b9_0 c_b9_1
  have S7 := Lib.hid (S6.out.var (w6.heap.size) [.bool r1_m, .slice r1_0 r1_n r1_c, .bool r2_m, .slice r2_0 r2_n r2_c] 26 (by simp))
  clear S6
  refine wp_world (fun w7 hW => ?_)
  rw [← hW] at S7
  clear hW
  obtain ⟨c_b11_0, c_b11_1, c_b11_2, c_b11_3⟩ := S7.out.b.c4
  go_wp2_with fail
  clear c_b11_0 c_b11_1 c_b11_2 c_b11_3
  refine (rmay_cc true S7.out.n.t.cb.cx S7.out.n.cb.cx (HM.out)).mono ?_
  rintro e w8 ⟨rfl, hB⟩
  have S8 := Lib.hid ((S7.out.step hB))
  clear S7 hB
  obtain ⟨c_b9_0, c_b9_1⟩ := S8.out.b.t.c2
  go_wp2_with fail
  clear c_b9_0 c_b9_1
  refine (one_any true S8.out.n.cb.cx.nx (HO.out)).mono ?_
  rintro e w9 ⟨rfl, hB⟩
  have S9 := Lib.hid ((S8.out.step hB))
  clear S8 hB
  obtain ⟨c_b11_0, c_b11_1, c_b11_2, c_b11_3⟩ := S9.out.b.c4
  obtain ⟨c_b2_0, c_b2_1, c_b2_2, c_b2_3⟩ := S9.out.b.t.t.t.c4
  obtain ⟨f_b2_0, f_b2_1, f_b2_2, f_b2_3⟩ := S9.out.b.t.t.t.f4
  go_wp2_with fail
  have S10 : Hid (Sx w _ [⟨(w6.heap.size), [.bool r1_m, .slice r1_0 r1_n r1_c, .bool r2_m, .slice r2_0 r2_n r2_c]⟩, ⟨(w5.heap.size), [.bool r2_m, .slice r2_0 r2_n r2_c]⟩, ⟨(w3.heap.size), [.bool r1_m, .slice r1_0 r1_n r1_c]⟩, ⟨(w.heap.size), [.bool r1_m, .slice r1_0 r1_n r1_c, .bool r2_m, .slice r2_0 r2_n r2_c]⟩] _) := Lib.hid (Sx.set [⟨(w6.heap.size), [.bool r1_m, .slice r1_0 r1_n r1_c, .bool r2_m, .slice r2_0 r2_n r2_c]⟩, ⟨(w5.heap.size), [.bool r2_m, .slice r2_0 r2_n r2_c]⟩, ⟨(w3.heap.size), [.bool r1_m, .slice r1_0 r1_n r1_c]⟩] [] (Sx.set [⟨(w6.heap.size), [.bool r1_m, .slice r1_0 r1_n r1_c, .bool r2_m, .slice r2_0 r2_n r2_c]⟩, ⟨(w5.heap.size), [.bool r2_m, .slice r2_0 r2_n r2_c]⟩, ⟨(w3.heap.size), [.bool r1_m, .slice r1_0 r1_n r1_c]⟩] [] (Sx.set [⟨(w6.heap.size), [.bool r1_m, .slice r1_0 r1_n r1_c, .bool r2_m, .slice r2_0 r2_n r2_c]⟩, ⟨(w5.heap.size), [.bool r2_m, .slice r2_0 r2_n r2_c]⟩, ⟨(w3.heap.size), [.bool r1_m, .slice r1_0 r1_n r1_c]⟩] [] (Sx.set [⟨(w6.heap.size), [.bool r1_m, .slice r1_0 r1_n r1_c, .bool r2_m, .slice r2_0 r2_n r2_c]⟩, ⟨(w5.heap.size), [.bool r2_m, .slice r2_0 r2_n r2_c]⟩, ⟨(w3.heap.size), [.bool r1_m, .slice r1_0 r1_n r1_c]⟩] [] S9.out 0 (.bool r1_m)) 1 (.slice r1_0 r1_n r1_c)) 2 (.bool r2_m)) 3 (.slice r2_0 r2_n r2_c))
  clear S9
  refine bodyPost_ret (v := .tuple #[.agg #[.bool r1_m, .slice r1_0 r1_n r1_c, .bool r2_m, .slice r2_0 r2_n r2_c], .int .i64 0]) (by simp [results, Tryz.results35, go_sem, c_b2_0, c_b2_1, c_b2_2, c_b2_3]) rfl ?_
  exact ⟨_, _, _, _, _, _, _, _, rfl, ⟨HN.out ▸ S10.out.n.t.cb.cx, HD.out ▸ S10.out.n.cb.cx, HN.out ▸ S10.out.n.t.cb.bd, HD.out ▸ S10.out.n.cb.bd⟩, S10.out.h⟩

set_option maxHeartbeats 1000000 in
set_option maxRecDepth 100000 in
theorem ratparse_long (s : ByteArray) (w : World) (hs : 20000 < s.size) :
    Calls Tryz.prog 35 #[.string s] w (RetB (.tuple #[.agg #[.bool false, .slice none 0 0, .bool false, .slice none 0 0], .int .i64 3]) w) := by
  have d1 : decide (20000 < s.size) = true := by simpa using hs
  go_enter Tryz.func35, Tryz.ntmps35
  go_wp2_with fail
  refine bodyPost_ret (v := .tuple #[.agg #[.bool false, .slice none 0 0, .bool false, .slice none 0 0], .int .i64 3]) (by simp [results, Tryz.results35, go_sem]) rfl ?_
  exact ⟨rfl, below_alloc _ _⟩

theorem ext_cut (s : ByteArray) (i j : Nat) : (s.extract i j).data.toList = (s.data.toList.drop i).take (j - i) := by
  rw [Lib.extract_eq]

theorem cut_sizes (s : ByteArray) (hs : s.size ≤ 20000) : (rtA s.data.toList).length ≤ 20000 ∧ (rtB s.data.toList).length ≤ 20000 := by
  have e : s.data.toList.length = s.size := by simp
  unfold rtA rtB
  refine ⟨by rw [List.length_take]; omega, ?_⟩
  split
  · rw [List.length_drop]; omega
  · simp

theorem ratparse_ok (s : ByteArray) (w : World) (hs : s.size ≤ 20000) (h : rtOk s.data.toList = true) :
    Calls Tryz.prog 35 #[.string s] w (NewRE w (rtQ s.data.toList) 20000 0) := by
  obtain ⟨h1, h2, h3, h4, h5⟩ := rt_parts h
  have hl := rt_low h3 h4
  have hz := cut_sizes s hs
  have e : s.data.toList.length = s.size := by simp
  have hm : (decide (0 < numZ (rtB s.data.toList)) && decide (Int.gcd (numZ (rtA s.data.toList)) (numZ (rtB s.data.toList)) = 1)) = true := by simp [h3, h4]
  by_cases hc : slashAt s.data.toList < s.data.toList.length
  · have la : (s.extract 0 (slashAt s.data.toList)).data.toList = rtA s.data.toList := by rw [ext_cut]; rfl
    have lb : (s.extract (slashAt s.data.toList + 1) s.size).data.toList = rtB s.data.toList := by
      rw [ext_cut, rtB_hit hc]; exact List.take_of_length_le (by rw [List.length_drop]; omega)
    have ho : decide (numZ (rtB s.data.toList) = 1) = false := by
      rw [decide_eq_true hc] at h5
      simpa using h5
    exact rp_o1 hs (fun w => cut47_hit s w hc (by omega)) la (by rw [Lib.size_eq, la]; exact hz.1) hz.1 hz.2 h1 lb (by rw [Lib.size_eq, lb]; exact hz.2) h2 hm ho hl.1.symm hl.2.symm
  · have ho : decide (numZ (rtB s.data.toList) = 1) = true := by
      rw [decide_eq_false hc] at h5
      simpa using h5
    exact rp_o0 hs (fun w => cut47_miss s w hc) (rtA_miss hc).symm hs hz.1 hz.2 h1 (by rw [rtB_miss hc]) (by decide) h2 hm ho hl.1.symm hl.2.symm

theorem ratparse_bad (s : ByteArray) (w : World) (hs : s.size ≤ 20000) (h : rtOk s.data.toList = false) :
    Calls Tryz.prog 35 #[.string s] w (RetB (.tuple #[.agg #[.bool false, .slice none 0 0, .bool false, .slice none 0 0], .int .i64 4]) w) := by
  have hz := cut_sizes s hs
  have e : s.data.toList.length = s.size := by simp
  by_cases hc : slashAt s.data.toList < s.data.toList.length
  · have la : (s.extract 0 (slashAt s.data.toList)).data.toList = rtA s.data.toList := by rw [ext_cut]; rfl
    have lb : (s.extract (slashAt s.data.toList + 1) s.size).data.toList = rtB s.data.toList := by
      rw [ext_cut, rtB_hit hc]; exact List.take_of_length_le (by rw [List.length_drop]; omega)
    have hcut := fun w => cut47_hit s w hc (by omega)
    have sa : (s.extract 0 (slashAt s.data.toList)).size ≤ 20000 := by rw [Lib.size_eq, la]; exact hz.1
    have sb : (s.extract (slashAt s.data.toList + 1) s.size).size ≤ 20000 := by rw [Lib.size_eq, lb]; exact hz.2
    cases na : numB (rtA s.data.toList) with
    | false =>
      cases nb : numB (rtB s.data.toList) with
      | false => exact rp_g1 hs hcut la sa hz.1 hz.2 na lb sb nb
      | true => exact rp_e1 hs hcut la sa hz.1 hz.2 na lb sb nb
    | true =>
      cases nb : numB (rtB s.data.toList) with
      | false => exact rp_f1 hs hcut la sa hz.1 hz.2 na lb sb nb
      | true =>
        cases hm : (decide (0 < numZ (rtB s.data.toList)) && decide (Int.gcd (numZ (rtA s.data.toList)) (numZ (rtB s.data.toList)) = 1)) with
        | false => exact rp_m1 hs hcut la sa hz.1 hz.2 na lb sb nb hm
        | true =>
          refine rp_s1 hs hcut la sa hz.1 hz.2 na lb sb nb hm ?_
          unfold rtOk at h
          rw [na, nb, hm, decide_eq_true hc] at h
          simpa using h
  · rw [rt_miss hc] at h
    exact rp_e0 hs (fun w => cut47_miss s w hc) (rtA_miss hc).symm hs hz.1 hz.2 (by rw [rtA_miss hc]; exact h) (by rw [rtB_miss hc]) (by decide) (by rw [rtB_miss hc]; exact num_one.1)

end Go.Proofs.YteceomlbnajihaaGreatDoor

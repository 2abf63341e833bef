/-
  The walk of the law DigitsParse.
-/
import Derived.Test.YtocdlaakcecieaaDoorTxtKnown
import Derived.Test.YtocdlaakcecieaaDoorGWZ
import Derived.Test.YtocdlaakcecieaaDoorGWInt
import Derived.Deep.Cut
set_option maxRecDepth 8192
namespace Go.Proofs.YtocdlaakcecieaaDoor
open Go.RowKit

theorem numZ_bd {l : List UInt8} (h : numB l = true) : Bd (numZ l) l.length := by
  unfold Bd
  rw [numZ_abs]
  have h1 := digVal_lt (numB_iff.1 h).2.1
  have h2 := unsign_length l
  refine Nat.lt_of_lt_of_le h1 (Nat.le_trans (Nat.pow_le_pow_right (by omega) h2) (Nat.pow_le_pow_left (by omega) _))

set_option maxHeartbeats 1000000 in
theorem dparse_k1 (s : ByteArray) (w : World) (ht : Tab w) (h : 300 < s.size) (h2 : s.size ≤ 20000) :
    Calls Tryd.prog 4 #[.string s] w (RetB (.bool true) w) := by
  have HT := Lib.hid ht
  clear ht
  go_enter Tryd.func4, Tryd.ntmps4
  go_wp2_with fail
  refine (tknown5 _ (HT.out.below (Below.refl _ _))).mono ?_
  rintro e w9 ⟨rfl, hB9⟩
  have HB9 := Lib.hid (Below.steps (Below.refl _ _) hB9)
  clear hB9
  go_wp2_with fail
  go_ret
  exact ⟨rfl, HB9.out⟩

set_option maxHeartbeats 1000000 in
theorem dparse_k2 (s : ByteArray) (w : World) (ht : Tab w) (h : 20010 < s.size) :
    Calls Tryd.prog 4 #[.string s] w (RetB (.bool true) w) := by
  have HT := Lib.hid ht
  clear ht
  have h3 : 300 < s.size := by omega
  have h4 : ¬ s.size ≤ 20000 := by omega
  go_enter Tryd.func4, Tryd.ntmps4
  go_wp2_with fail
  refine (tknown5 _ (HT.out.below (Below.refl _ _))).mono ?_
  rintro e w9 ⟨rfl, hB9⟩
  have HB9 := Lib.hid (Below.steps (Below.refl _ _) hB9)
  clear hB9
  go_wp2_with fail
  go_ret
  exact ⟨rfl, HB9.out⟩

set_option maxHeartbeats 1000000 in
theorem dparse_long (s : ByteArray) (w : World) (ht : Tab w) (h : 20000 < s.size) (h2 : s.size ≤ 20010) :
    Calls Tryd.prog 4 #[.string s] w (RetB (.bool true) w) := by
  have HT := Lib.hid ht
  clear ht
  have h3 : 300 < s.size := by omega
  have h4 : ¬ s.size ≤ 20000 := by omega
  have h5 : ¬ 20010 < s.size := by omega
  go_enter Tryd.func4, Tryd.ntmps4
  go_wp2_with fail
  refine (parse_long s _ h).mono ?_
  rintro e w1 ⟨rfl, hB⟩
  unfold noInt
  go_upto_region 4 with (fail)
  refine wp_world (fun w2 hW => ?_)
  have S2 := Lib.hid (St.mk (w0 := w) (Live.add_box (show Box w2 w1.heap.size false none 0 0 from by rw [hW]; exact Box.new _ _ _ _ _ _ _ rfl) (Live.nil _)) (Live.add_can (show Cx w2 false none 0 0 (0) from by rw [hW]; exact (zero_cx _).below (below_alloc _ _)) (Live.nil _)) (by rw [hW]; exact Below.steps (Below.steps (Below.refl _ _) hB) (below_alloc _ _)))
  clear hW hB 
  go_wp2_with fail
  refine (rparse_long s _ h).mono ?_
  rintro e w3 ⟨rfl, hB2⟩
  unfold noInt
  have S3 := Lib.hid ((S2.out.step hB2).can (zero_cx _))
  clear S2 hB2 
  go_upto_region 5 with (fail)
  refine wp_world (fun w4 hW => ?_)
  have S4 := Lib.hid (S3.out.alloc w3.heap.size false none 0 0 24 rfl)
  rw [← hW] at S4
  clear hW S3
  obtain ⟨y0, y1⟩ := S4.out.b.c
  obtain ⟨x0, x1⟩ := S4.out.b.t.c
  go_wp2_with fail
  refine (zsame S4.out.n.t.can S4.out.n.can rfl).mono ?_
  rintro e w5 ⟨rfl, hB5⟩
  have S5 := Lib.hid (S4.out.step hB5)
  clear S4 hB5 x0 x1 y0 y1
  go_wp2_with fail
  refine (tknown5 _ (HT.out.below S5.out.h)).mono ?_
  rintro e w9 ⟨rfl, hB9⟩
  have HB9 := Lib.hid (Below.steps S5.out.h hB9)
  clear hB9
  go_wp2_with fail
  go_ret
  exact ⟨rfl, HB9.out⟩

set_option maxHeartbeats 1000000 in
theorem dparse_bad (s : ByteArray) (w : World) (ht : Tab w) (h : s.size ≤ 300) (hn : numB s.data.toList = false) :
    Calls Tryd.prog 4 #[.string s] w (RetB (.bool true) w) := by
  have HT := Lib.hid ht
  clear ht
  have h3 : ¬ 300 < s.size := by omega
  have h5 : ¬ 20010 < s.size := by omega
  have HN := Lib.hid hn
  clear hn
  go_enter Tryd.func4, Tryd.ntmps4
  go_wp2_with fail
  refine (parse_bad s _ (by omega) HN.out).mono ?_
  rintro e w1 ⟨rfl, hB⟩
  unfold noInt
  go_upto_region 4 with (fail)
  refine wp_world (fun w2 hW => ?_)
  have S2 := Lib.hid (St.mk (w0 := w) (Live.add_box (show Box w2 w1.heap.size false none 0 0 from by rw [hW]; exact Box.new _ _ _ _ _ _ _ rfl) (Live.nil _)) (Live.add_can (show Cx w2 false none 0 0 (0) from by rw [hW]; exact (zero_cx _).below (below_alloc _ _)) (Live.nil _)) (by rw [hW]; exact Below.steps (Below.steps (Below.refl _ _) hB) (below_alloc _ _)))
  clear hW hB 
  go_wp2_with fail
  refine (rparse_bad s _ (by omega) HN.out).mono ?_
  rintro e w3 ⟨rfl, hB2⟩
  unfold noInt
  have S3 := Lib.hid ((S2.out.step hB2).can (zero_cx _))
  clear S2 hB2 
  go_upto_region 5 with (fail)
  refine wp_world (fun w4 hW => ?_)
  have S4 := Lib.hid (S3.out.alloc w3.heap.size false none 0 0 24 rfl)
  rw [← hW] at S4
  clear hW S3
  obtain ⟨y0, y1⟩ := S4.out.b.c
  obtain ⟨x0, x1⟩ := S4.out.b.t.c
  go_wp2_with fail
  refine (zsame S4.out.n.t.can S4.out.n.can rfl).mono ?_
  rintro e w5 ⟨rfl, hB5⟩
  have S5 := Lib.hid (S4.out.step hB5)
  clear S4 hB5 x0 x1 y0 y1
  go_wp2_with fail
  refine (tknown5 _ (HT.out.below S5.out.h)).mono ?_
  rintro e w9 ⟨rfl, hB9⟩
  have HB9 := Lib.hid (Below.steps S5.out.h hB9)
  clear hB9
  go_wp2_with fail
  go_ret
  exact ⟨rfl, HB9.out⟩

set_option maxHeartbeats 1000000 in
theorem dparse_ok (s : ByteArray) (w : World) (ht : Tab w) (h : s.size ≤ 300) (hn : numB s.data.toList = true) :
    Calls Tryd.prog 4 #[.string s] w (RetB (.bool true) w) := by
  have HT := Lib.hid ht
  clear ht
  have h3 : ¬ 300 < s.size := by omega
  have h5 : ¬ 20010 < s.size := by omega
  have HN := Lib.hid hn
  clear hn
  have HBD : Hid (Bd (numZ s.data.toList) 300) := (numZ_bd HN.out).mono (by rw [← Lib.size_eq]; exact h)
  go_enter Tryd.func4, Tryd.ntmps4
  go_wp2_with fail
  refine (parse_ok s _ (by omega) HN.out).mono ?_
  rintro e w1 ⟨m, ao, n, cap, rfl, hC, hB⟩
  go_upto_region 4 with (fail)
  refine wp_world (fun w2 hW => ?_)
  have S2 := Lib.hid (St.mk (w0 := w) (Live.add_box (show Box w2 w1.heap.size m ao n cap from by rw [hW]; exact Box.new _ _ _ _ _ _ _ rfl) (Live.nil _)) (Live.add_can (show Cx w2 m ao n cap (numZ s.data.toList) from by rw [hW]; exact (hC.cx HBD.out (by omega)).below (below_alloc _ _)) (Live.nil _)) (by rw [hW]; exact Below.steps (Below.steps (Below.refl _ _) hB) (below_alloc _ _)))
  clear hW hB hC
  go_wp2_with fail
  refine (rparse_ok s _ (by omega) HN.out).mono ?_
  rintro e w3 ⟨k, bo, l, cb, rfl, hC2, hB2⟩
  have S3 := Lib.hid ((S2.out.step hB2).can (hC2.cx HBD.out (by omega)))
  clear S2 hB2 hC2
  go_upto_region 5 with (fail)
  refine wp_world (fun w4 hW => ?_)
  have S4 := Lib.hid (S3.out.alloc w3.heap.size k bo l cb 24 rfl)
  rw [← hW] at S4
  clear hW S3
  obtain ⟨y0, y1⟩ := S4.out.b.c
  obtain ⟨x0, x1⟩ := S4.out.b.t.c
  go_wp2_with fail
  refine (zsame S4.out.n.t.can S4.out.n.can rfl).mono ?_
  rintro e w5 ⟨rfl, hB5⟩
  have S5 := Lib.hid (S4.out.step hB5)
  clear S4 hB5 x0 x1 y0 y1
  go_wp2_with fail
  refine (tknown5 _ (HT.out.below S5.out.h)).mono ?_
  rintro e w9 ⟨rfl, hB9⟩
  have HB9 := Lib.hid (Below.steps S5.out.h hB9)
  clear hB9
  go_wp2_with fail
  go_ret
  exact ⟨rfl, HB9.out⟩


theorem digitsParse_any (s : ByteArray) (w : World) (ht : Tab w) : Calls Tryd.prog 4 #[.string s] w (RetB (.bool true) w) := by
  rcases Nat.lt_or_ge 20010 s.size with h1 | h1
  · exact dparse_k2 s w ht h1
  · rcases Nat.lt_or_ge 20000 s.size with h2 | h2
    · exact dparse_long s w ht h2 h1
    · rcases Nat.lt_or_ge 300 s.size with h3 | h3
      · exact dparse_k1 s w ht h3 h2
      · cases hn : numB s.data.toList with
        | false => exact dparse_bad s w ht h3 hn
        | true => exact dparse_ok s w ht h3 hn

theorem digitsParse_row (s : ByteArray) {w : World} (ht : Tab w) : Calls Tryd.prog 4 #[.string s] w (RetB (.bool true) w) := digitsParse_any s w ht

end Go.Proofs.YtocdlaakcecieaaDoor

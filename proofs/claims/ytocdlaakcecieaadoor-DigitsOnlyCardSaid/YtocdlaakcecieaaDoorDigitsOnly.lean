/-
  The walk of the law DigitsOnly.
-/
import Derived.Test.YtocdlaakcecieaaDoorTxtKnown
import Derived.Test.YtocdlaakcecieaaDoorGWZ
import Derived.Test.YtocdlaakcecieaaDoorGWInt
import Derived.Test.YtocdlaakcecieaaDoorDigitsParse
import Derived.Deep.Cut
set_option maxRecDepth 8192
namespace Go.Proofs.YtocdlaakcecieaaDoor
open Go.RowKit

set_option maxHeartbeats 1000000 in
theorem donly_k (s : ByteArray) (w : World) (ht : Tab w) (h : 2000 < s.size) :
    Calls Tryd.prog 5 #[.string s] w (RetB (.bool true) w) := by
  have HT := Lib.hid ht
  clear ht
  go_enter Tryd.func5, Tryd.ntmps5
  go_wp2_with fail
  refine (tknown5 _ (HT.out.below (Below.refl _ _))).mono ?_
  rintro e w9 ⟨rfl, hB9⟩
  have HB9 := Lib.hid (Below.steps (Below.refl _ _) hB9)
  clear hB9
  go_wp2_with fail
  go_ret
  exact ⟨rfl, HB9.out⟩

set_option maxHeartbeats 1000000 in
theorem donly_bad (s : ByteArray) (w : World) (ht : Tab w) (h : s.size ≤ 2000) (hn : numB s.data.toList = false) :
    Calls Tryd.prog 5 #[.string s] w (RetB (.bool true) w) := by
  have HT := Lib.hid ht
  clear ht
  have h3 : ¬ 2000 < s.size := by omega
  have HN := Lib.hid hn
  clear hn
  go_enter Tryd.func5, Tryd.ntmps5
  go_wp2_with fail
  refine (parse_bad s _ (by omega) HN.out).mono ?_
  rintro e w1 ⟨rfl, hB⟩
  unfold noInt
  go_upto_region 4 with (fail)
  refine wp_world (fun w2 hW => ?_)
  have S2 := Lib.hid (St.mk (w0 := w) (Live.add_box (show Box w2 w1.heap.size false none 0 0 from by rw [hW]; exact Box.new _ _ _ _ _ _ _ rfl) (Live.nil _)) (Live.add_can (show Cx w2 false none 0 0 (0) from by rw [hW]; exact (zero_cx _).below (below_alloc _ _)) (Live.nil _)) (by rw [hW]; exact Below.steps (Below.steps (Below.refl _ _) hB) (below_alloc _ _)))
  clear hW hB 
  obtain ⟨x0, x1⟩ := S2.out.b.c
  go_wp2_with fail
  refine (tknown5 _ (HT.out.below S2.out.h)).mono ?_
  rintro e w9 ⟨rfl, hB9⟩
  have HB9 := Lib.hid (Below.steps S2.out.h hB9)
  clear hB9
  go_wp2_with fail
  go_ret
  exact ⟨rfl, HB9.out⟩

set_option maxHeartbeats 1000000 in
theorem donly_ok (s : ByteArray) (w : World) (ht : Tab w) (h : s.size ≤ 2000) (hn : numB s.data.toList = true) :
    Calls Tryd.prog 5 #[.string s] w (RetB (.bool true) w) := by
  have HT := Lib.hid ht
  clear ht
  have h3 : ¬ 2000 < s.size := by omega
  have HN := Lib.hid hn
  clear hn
  have HBD : Hid (Bd (numZ s.data.toList) 2000) := (numZ_bd HN.out).mono (by rw [← Lib.size_eq]; exact h)
  go_enter Tryd.func5, Tryd.ntmps5
  go_wp2_with fail
  refine (parse_ok s _ (by omega) HN.out).mono ?_
  rintro e w1 ⟨m, ao, n, cap, rfl, hC, hB⟩
  go_upto_region 4 with (fail)
  refine wp_world (fun w2 hW => ?_)
  have S2 := Lib.hid (St.mk (w0 := w) (Live.add_box (show Box w2 w1.heap.size m ao n cap from by rw [hW]; exact Box.new _ _ _ _ _ _ _ rfl) (Live.nil _)) (Live.add_can (show Cx w2 m ao n cap (numZ s.data.toList) from by rw [hW]; exact (hC.cx HBD.out (by omega)).below (below_alloc _ _)) (Live.nil _)) (by rw [hW]; exact Below.steps (Below.steps (Below.refl _ _) hB) (below_alloc _ _)))
  clear hW hB hC
  obtain ⟨x0, x1⟩ := S2.out.b.c
  go_wp2_with fail
  refine (text_any S2.out.n.can.nx (HT.out.below S2.out.h)).mono ?_
  rintro e w3 ⟨rfl, hB3⟩
  have S3 := Lib.hid (S2.out.step hB3)
  rw [itoa_numZ HN.out]
  clear S2 hB3 x0 x1
  obtain ⟨x0, x1⟩ := S3.out.b.c
  obtain ⟨t, ht⟩ : ∃ t, t = s.data.toList := ⟨_, rfl⟩
  have hts : (t == s.toList) = true := by rw [ByteArray.toList_eq, ht]; simp
  rw [← ht]
  clear ht
  by_cases h0 : n = 0
  · have hm : m = false := by
      have h1 := S3.out.n.can.cn
      have h2 := h1.sl.len
      rw [h0] at h2
      have h4 := val_limbs (numZ s.data.toList).natAbs
      rw [List.eq_nil_of_length_eq_zero h2, val_nil] at h4
      rw [h1.neg]
      exact decide_eq_false (by omega)
    subst h0
    subst hm
    go_wp2_with fail
    refine (tknown5 _ (HT.out.below S3.out.h)).mono ?_
    rintro e w9 ⟨rfl, hB9⟩
    have HB9 := Lib.hid (Below.steps S3.out.h hB9)
    clear hB9
    go_wp2_with fail
    go_ret
    exact ⟨rfl, HB9.out⟩
  · obtain ⟨j, hj⟩ : ∃ j, n = j + 1 := ⟨n - 1, by omega⟩
    have h1 := S3.out.n.can.cn
    have hle := S3.out.n.can.le
    obtain ⟨g, off, rfl, _, hcell⟩ := h1.sl.at (by omega)
    have hlast := last_pos (limbs (numZ s.data.toList).natAbs) j (canon_limbs _) (by rw [h1.sl.len]; exact hj)
    have hxl := h1.sl.getD_lt j
    have hxc := hcell j (by omega)
    obtain ⟨x, hx⟩ : ∃ x, x = (limbs (numZ s.data.toList).natAbs).getD j 0 := ⟨_, rfl⟩
    rw [← hx] at hlast hxc hxl
    have e0 : (((n : Nat) : Int) == 0) = false := by simp; omega
    have e1 : decide (0 < n) = true := by simp; omega
    have e2 : (((x : Nat) : Int) != 0) = true := by simp; omega
    have ij : ((n : Nat) : Int) - 1 = ((j : Nat) : Int) := by omega
    have hjn : j < n := by omega
    have hcp := h1.sl.le
    clear hj h1 hcell hx hlast
    go_wp2_with fail
    refine (tknown5 _ (HT.out.below S3.out.h)).mono ?_
    rintro e w9 ⟨rfl, hB9⟩
    have HB9 := Lib.hid (Below.steps S3.out.h hB9)
    clear hB9
    go_wp2_with fail
    go_ret
    exact ⟨rfl, HB9.out⟩

theorem digitsOnly_any (s : ByteArray) (w : World) (ht : Tab w) : Calls Tryd.prog 5 #[.string s] w (RetB (.bool true) w) := by
  rcases Nat.lt_or_ge 2000 s.size with h3 | h3
  · exact donly_k s w ht h3
  · cases hn : numB s.data.toList with
    | false => exact donly_bad s w ht h3 hn
    | true => exact donly_ok s w ht h3 hn

theorem digitsOnly_row (s : ByteArray) {w : World} (ht : Tab w) : Calls Tryd.prog 5 #[.string s] w (RetB (.bool true) w) := digitsOnly_any s w ht

end Go.Proofs.YtocdlaakcecieaaDoor

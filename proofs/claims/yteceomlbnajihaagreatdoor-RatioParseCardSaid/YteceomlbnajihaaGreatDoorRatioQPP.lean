/-
  What ratio's reference parses.
-/
import Derived.Test.YteceomlbnajihaaGreatDoorRatioQP
import Derived.Deep.Cut
import Derived.Deep.CutRange
set_option maxRecDepth 8192
namespace Go.Proofs.YteceomlbnajihaaGreatDoor
open Go.RowKit

theorem byte_47 (s : ByteArray) (k : Nat) (h : k < s.size) : ((s[k].toNat : Int) == 47) = (s.data.toList[k]'(by simpa using h) == 47) := by
  have e : s[k] = s.data.toList[k]'(by simpa using h) := by
    show s.data[k]'h = _
    simp
  rw [e, Bool.eq_iff_iff, beq_iff_eq, beq_iff_eq]
  constructor
  · intro h2
    apply UInt8.toNat_inj.1
    show _ = 47
    omega
  · intro h2; rw [h2]; rfl

theorem ahead_47 (s : ByteArray) (k : Nat) (hk : k < slashAt s.data.toList) (h : k < s.size) : ((s[k].toNat : Int) == 47) = false := by
  rw [byte_47 s k h]
  have := List.not_of_lt_findIdx (p := (· == 47)) (xs := s.data.toList) (i := k) hk
  simpa using this

theorem at_47 (s : ByteArray) (h : slashAt s.data.toList < s.size) : ((s[slashAt s.data.toList].toNat : Int) == 47) = true := by
  rw [byte_47 s _ h]
  unfold slashAt at *
  exact List.findIdx_getElem (p := (· == 47)) (w := by simpa using h)

theorem ratS_list (q : Rat) (s : ByteArray) (r : Bool) (h : decide (ratTxt q.num q.den = s.data.toList) = r) : ((ratS q).toList == s.toList) = r := by
  rw [← h, ByteArray.toList_eq, ByteArray.toList_eq, Bool.eq_iff_iff]
  unfold ratS
  simp

theorem qparse_ok (s : ByteArray) (w : World) (hs : s.size ≤ 20000) (h : rtOk s.data.toList = true) :
    Calls Tryz.prog 36 #[.string s] w (NewRE w (rtQ s.data.toList) 20000 0) := by
  obtain ⟨h1, h2, h3, h4, h5⟩ := rt_parts h
  have hl := rt_low h3 h4
  have hz := cut_sizes s hs
  have e : s.data.toList.length = s.size := by simp
  have hq : qv (numZ (rtA s.data.toList)) (numZ (rtB s.data.toList)) = rtQ s.data.toList := by unfold rtQ; exact qv_of (by omega)
  have ht : ((ratS (rtQ s.data.toList)).toList == s.toList) = true := ratS_list _ _ _ (decide_eq_true ((rt_text h1 h2 h3).2 h))
  by_cases hc : slashAt s.data.toList < s.data.toList.length
  · have la : (s.extract 0 (slashAt s.data.toList)).data.toList = rtA s.data.toList := by rw [ext_cut]; rfl
    have lb : (s.extract (slashAt s.data.toList + 1) s.size).data.toList = rtB s.data.toList := by
      rw [ext_cut, rtB_hit hc]; exact List.take_of_length_le (by rw [List.length_drop]; omega)
    exact qp_o1 hs (by omega) (ahead_47 s) (at_47 s (by omega)) la (by rw [Lib.size_eq, la]; exact hz.1) hz.1 h1 lb (by rw [Lib.size_eq, lb]; exact hz.2) hz.2 h2 h3 hq ht hl.1.symm hl.2.symm
  · have hb1 : numZ (rtB s.data.toList) = 1 := by rw [rtB_miss hc]; exact num_one.2
    exact qp_o0 hs (fun k hk hh => ahead_47 s k (by omega) hh) (rtA_miss hc).symm hs hz.1 h1 (by rw [← hb1]; exact hq) ht hl.1.symm (by rw [← hb1]; exact hl.2.symm)

theorem qparse_bad (s : ByteArray) (w : World) (hs : s.size ≤ 20000) (h : rtOk s.data.toList = false) :
    Calls Tryz.prog 36 #[.string s] w (RetB (.tuple #[.agg #[.bool false, .slice none 0 0, .bool false, .slice none 0 0], .int .i64 4]) w) := by
  have hz := cut_sizes s hs
  have e : s.data.toList.length = s.size := by simp
  by_cases hc : slashAt s.data.toList < s.data.toList.length
  · have la : (s.extract 0 (slashAt s.data.toList)).data.toList = rtA s.data.toList := by rw [ext_cut]; rfl
    have lb : (s.extract (slashAt s.data.toList + 1) s.size).data.toList = rtB s.data.toList := by
      rw [ext_cut, rtB_hit hc]; exact List.take_of_length_le (by rw [List.length_drop]; omega)
    have sa : (s.extract 0 (slashAt s.data.toList)).size ≤ 20000 := by rw [Lib.size_eq, la]; exact hz.1
    have sb : (s.extract (slashAt s.data.toList + 1) s.size).size ≤ 20000 := by rw [Lib.size_eq, lb]; exact hz.2
    cases na : numB (rtA s.data.toList) with
    | false => exact qp_e1 hs (by omega) (ahead_47 s) (at_47 s (by omega)) la sa na
    | true =>
      cases nb : numB (rtB s.data.toList) with
      | false => exact qp_f1 hs (by omega) (ahead_47 s) (at_47 s (by omega)) la sa hz.1 na lb sb nb
      | true =>
        by_cases hp : 0 < numZ (rtB s.data.toList)
        · refine qp_t1 hs (by omega) (ahead_47 s) (at_47 s (by omega)) la sa hz.1 na lb sb hz.2 nb hp rfl (ratS_list _ _ _ (decide_eq_false fun ht => ?_))
          rw [qv_of (by omega)] at ht
          rw [(rt_text na nb hp).1 ht] at h
          cases h
        · exact qp_m1 hs (by omega) (ahead_47 s) (at_47 s (by omega)) la sa hz.1 na lb sb hz.2 nb hp
  · rw [rt_miss hc] at h
    exact qp_e0 hs (fun k hk hh => ahead_47 s k (by omega) hh) rfl hs h

end Go.Proofs.YteceomlbnajihaaGreatDoor

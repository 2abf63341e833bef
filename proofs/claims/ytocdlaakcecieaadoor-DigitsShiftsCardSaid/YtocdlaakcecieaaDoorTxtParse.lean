/-
  The contracts of digits.limbs and digits.Parse.
-/
import Derived.Test.YtocdlaakcecieaaDoorTxtDigs
import Derived.Laws.Strings2
import Derived.Deep.Cut
import Derived.Deep.LoopGhost
set_option maxRecDepth 8192
namespace Go.Proofs.YtocdlaakcecieaaDoor
open Go.RowKit

theorem ext_list (s : ByteArray) (a b : Nat) : (s.extract a b).data.toList = (s.data.toList.drop a).take (b - a) := by
  have h := ByteArray.extract_mk s.data.toList a b
  have e : (ByteArray.mk s.data.toList.toArray) = s := by simp
  rw [e] at h
  rw [h]
theorem ext_size (s : ByteArray) (a b : Nat) (h : a ≤ b) (hb : b ≤ s.size) : (s.extract a b).size = b - a := by
  rw [Lib.size_eq, ext_list, List.length_take, List.length_drop, ← Lib.size_eq]
  omega

set_option maxHeartbeats 400000 in
theorem dlimbs_any (s : ByteArray) (w : World) (hs : s.size ≤ 1000000) (ha : allDig s.data.toList = true) :
    Calls Tryd.prog 27 #[.string s] w (NewSl w (limbs (digVal s.data.toList))) := by
  obtain ⟨l, hl⟩ : ∃ l, l = s.data.toList := ⟨_, rfl⟩
  rw [← hl] at ha ⊢
  have HL := Lib.hid hl
  have HA := Lib.hid ha
  have hsz : s.size = l.length := by rw [hl]; exact Lib.size_eq s
  have HSZ := Lib.hid hsz
  clear hl ha hsz
  go_enter Tryd.func27, Tryd.ntmps27
  go_wp2_with fail
  go_loopg [0, 3] l.length (fun g s0 s3 wr => ∃ (k : Nat) (t : ByteArray) (ao : Option Addr) (n cap : Nat), s0 = .string t ∧ s3 = .slice ao n cap ∧ Hid (k ≤ l.length ∧ t.data.toList = l.drop k) ∧ Hid (l.length - k = g) ∧ Hid (Own w.heap.size wr ao n cap (limbs (digVal (l.take k)))) ∧ Hid (Below w.heap.size w wr) ∧ n ≤ k ∧ Hid (k = 0 ∨ (l.length - k) % 9 = 0))
  case atStart => exact ⟨0, s, none, 0, 0, rfl, rfl, ⟨Nat.zero_le _, by rw [← HL.out]; rfl⟩, rfl, by rw [List.take_zero]; exact Own.nil _ _, Below.refl _ _, Nat.le_refl _, .inl rfl⟩
  case round =>
    obtain ⟨k, t, ao, n, cap, rfl, rfl, HK, HG, HO, HB, hn, HM⟩ := hrel
    have htz : t.size = l.length - k := by rw [Lib.size_eq, HK.out.2, List.length_drop]
    have hkl := HK.out.1
    have hsz := HSZ.out
    by_cases h0 : 0 < t.size
    · obtain ⟨j, hj⟩ : ∃ j, j = t.size - 1 := ⟨_, rfl⟩
      obtain ⟨r, hr⟩ : ∃ r, r = j % 9 := ⟨_, rfl⟩
      have hr9 : r < 9 := by omega
      have hrj : r ≤ j := by rw [hr]; exact Nat.mod_le _ _
      obtain ⟨m, hm⟩ : ∃ m, m = r + 1 := ⟨_, rfl⟩
      have i0 : ((t.size : Nat) : Int) - 1 = ((j : Nat) : Int) := by omega
      have i1 : ((j : Nat) : Int) % 9 = ((r : Nat) : Int) := by omega
      have i2 : ((r : Nat) : Int) + 1 = ((m : Nat) : Int) := by omega
      have htb : t.size ≤ 1000000 := by omega
      have hmt : m ≤ t.size := by omega
      have hm1 : 1 ≤ m ∧ m ≤ 9 := by omega
      have ha : allDig (t.extract 0 m).data.toList = true := by
        rw [ext_list, HK.out.2, List.drop_drop]
        exact allDig_take (allDig_drop HA.out _) _
      have hez := ext_size t 0 m (Nat.zero_le _) hmt
      rw [Nat.sub_zero] at hez
      obtain ⟨p, hp⟩ : ∃ p, p = digVal (t.extract 0 m).data.toList := ⟨_, rfl⟩
      have hpl : p < 1000000000 := by
        have h1 := digVal_lt ha
        rw [← hp, ← Lib.size_eq, hez] at h1
        have h2 : 10 ^ m ≤ 10 ^ 9 := Nat.pow_le_pow_right (by omega) hm1.2
        rw [pow9] at h2
        omega
      have hP := parse_u32 (t.extract 0 m) (by omega) (by omega) ha wr
      rw [← hp] at hP
      have HP := Lib.hid hP
      have HPP := Lib.hid hp
      have HT := Lib.hid htz
      have HM9 : Hid ((k = 0 ∨ m = 9) ∧ (l.length - (k + m)) % 9 = 0) := by
        have h1 := HM.out
        show _ ∧ _
        omega
      have hn6 : n ≤ 1000000 := by omega
      have hmi : ((m : Nat) : Int) ≤ ((t.size : Nat) : Int) := by omega
      clear hj hr hP hp ha hez htz hsz hm
      go_wp2_with fail
      refine HP.out.mono ?_
      rintro e w2 ⟨rfl, hB2⟩
      have HA2 := Lib.hid (app_any w.heap.size ao n cap (digVal (l.take k)) p w w2 (HO.out.below hB2) (HB.out.trans (hB2.mono HB.out.size)) (Nat.le_trans HB.out.size hB2.size) hpl hn6)
      clear hB2 HO HB HP
      go_wp2_with fail
      refine HA2.out.mono ?_
      rintro e w3 ⟨ao3, n3, cap3, rfl, hO3, hB3, hn3⟩
      have hk2 : k + m ≤ l.length := by have := HT.out; omega
      have HE : Hid (digVal (l.take k) * 1000000000 + p = digVal (l.take (k + m))) := by
        have h1 := HPP.out
        rw [ext_list, HK.out.2, List.drop_zero, Nat.sub_zero] at h1
        show _ = _
        have h3 : l.take (k + m) = l.take k ++ (l.drop k).take m := List.take_add ..
        rw [h3, digVal_append, ← h1, List.length_take, List.length_drop, Nat.min_eq_left (by omega)]
        rcases HM9.out.1 with h4 | h4
        · subst h4; simp [digVal]
        · subst h4; rfl
      have HO3 : Hid (Own w.heap.size w3 ao3 n3 cap3 (limbs (digVal (l.take (k + m))))) := by rw [← HE.out]; exact hO3
      have HK3 : Hid (k + m ≤ l.length ∧ (t.extract m t.size).data.toList = l.drop (k + m)) := by
        refine ⟨hk2, ?_⟩
        rw [ext_list, HK.out.2, List.drop_drop, List.take_of_length_le]
        rw [List.length_drop, HT.out]; omega
      have HB3 := Lib.hid hB3
      clear hO3 hB3 HA2 HE
      go_wp2_with fail
      go_roundg (l.length - (k + m))
      case measure => have h1 := HG.out; omega
      case rel => exact ⟨k + m, t.extract m t.size, ao3, n3, cap3, rfl, rfl, HK3, rfl, HO3, HB3, by omega, .inr HM9.out.2⟩
    · have hk2 : k = l.length := by omega
      subst hk2
      have HO2 : Hid (Own w.heap.size wr ao n cap (limbs (digVal l))) := by have h1 := HO.out; rwa [List.take_length] at h1
      have d1 : t.size = 0 := by omega
      clear HO htz hsz
      go_wp2_with fail
      go_ret
      exact ⟨_, _, _, rfl, HO2.out, HB.out⟩

theorem unsign_length (l : List UInt8) : (unsign l).length ≤ l.length := by
  rcases minus_cases l with ⟨r, rfl⟩ | ⟨_, h⟩
  · rw [(unsign_neg r).2]; simp
  · rw [h]; exact Nat.le_refl _

theorem dig_pos {u : ByteArray} (h : digB u.data.toList = true) : 0 < u.size := by
  unfold digB at h
  rw [Bool.and_eq_true] at h
  rw [Lib.size_eq]
  exact List.length_pos_iff.2 (of_decide_eq_true h.2)

theorem head_byte (u : ByteArray) (h : 0 < u.size) : u.data.toList.head? = some u[0] := by
  rw [List.head?_eq_getElem?, List.getElem?_eq_getElem (by simpa using h)]; rfl

theorem str_is {s : ByteArray} {b : List UInt8} (h : s.data.toList = b) : (s.toList == b) = true := by
  rw [ByteArray.toList_eq, h]; simp
theorem str_ne {s : ByteArray} {b : List UInt8} (h : s.data.toList ≠ b) : (s.toList == b) = false := by
  rw [ByteArray.toList_eq]; simpa using h

/-- What Parse leaves where it reads a number. -/
def NewPE (w : World) (q : Int) (er : Int) (e : Ending) (w' : World) : Prop :=
  ∃ m ao n cap, e = .returned (.tuple #[.agg #[.bool m, .slice ao n cap], .int .i64 er]) ∧ Cn w' m ao n cap q ∧ Below w.heap.size w w'

/-- nothing beside an error -/
def noInt (er : Int) : Value := .tuple #[.agg #[.bool false, .slice none 0 0], .int .i64 er]

set_option maxHeartbeats 400000 in
theorem parse_long (s : ByteArray) (w : World) (hs : 20000 < s.size) :
    Calls Tryd.prog 9 #[.string s] w (RetB (noInt 3) w) := by
  have d1 : decide (20000 < s.size) = true := by simpa using hs
  go_enter Tryd.func9, Tryd.ntmps9
  go_wp2_with fail
  refine bodyPost_ret (v := noInt 3) (by simp [noInt, results, Tryd.results9, go_sem]) rfl ?_
  exact ⟨rfl, below_alloc _ _⟩

set_option maxHeartbeats 400000 in
theorem parse_bad1 (s : ByteArray) (w : World) (hs : s.size ≤ 20000) (hd : digB (unsign s.data.toList) = false) :
    Calls Tryd.prog 9 #[.string s] w (RetB (noInt 4) w) := by
  have hus : (⟨(unsign s.data.toList).toArray⟩ : ByteArray).size ≤ 1000000 := by
    have h1 := unsign_length s.data.toList
    rw [← Lib.size_eq] at h1
    exact Nat.le_trans h1 (by omega)
  have HD := Lib.hid hd
  clear hd
  go_enter Tryd.func9, Tryd.ntmps9
  go_wp2_with fail
  refine (cut_sign s _).mono ?_
  rintro e w1 ⟨rfl, hw1⟩
  rw [hw1]
  obtain ⟨u, hu⟩ : ∃ u : ByteArray, u = ⟨(unsign s.data.toList).toArray⟩ := ⟨_, rfl⟩
  obtain ⟨q, hq⟩ : ∃ q, q = Lib.hasPrefix s.data.toList [45] := ⟨_, rfl⟩
  rw [← hu, ← hq]
  rw [← hu] at hus
  have hD : digB u.data.toList = false := by rw [hu]; exact HD.out
  have HD2 := Lib.hid hD
  clear hw1 hu hq hD
  go_wp2_with fail
  refine (dig_any u _ hus).mono ?_
  rintro e w2 ⟨rfl, hw2⟩
  rw [← hw2, HD2.out]
  clear hw2
  go_wp2_with fail
  refine bodyPost_ret (v := noInt 4) (by simp [noInt, results, Tryd.results9, go_sem]) rfl ?_
  exact ⟨rfl, below_alloc _ _⟩

set_option maxHeartbeats 400000 in
theorem parse_bad2 (s : ByteArray) (w : World) (hs : s.size ≤ 20000) (hd : digB (unsign s.data.toList) = true) (h0 : (unsign s.data.toList).head? = some 48) (h1 : s.data.toList ≠ [48]) :
    Calls Tryd.prog 9 #[.string s] w (RetB (noInt 4) w) := by
  have hus : (⟨(unsign s.data.toList).toArray⟩ : ByteArray).size ≤ 1000000 := by
    have h1 := unsign_length s.data.toList
    rw [← Lib.size_eq] at h1
    exact Nat.le_trans h1 (by omega)
  have HD := Lib.hid hd
  clear hd
  go_enter Tryd.func9, Tryd.ntmps9
  go_wp2_with fail
  refine (cut_sign s _).mono ?_
  rintro e w1 ⟨rfl, hw1⟩
  rw [hw1]
  obtain ⟨u, hu⟩ : ∃ u : ByteArray, u = ⟨(unsign s.data.toList).toArray⟩ := ⟨_, rfl⟩
  obtain ⟨q, hq⟩ : ∃ q, q = Lib.hasPrefix s.data.toList [45] := ⟨_, rfl⟩
  rw [← hu, ← hq]
  rw [← hu] at hus
  have hD : digB u.data.toList = true := by rw [hu]; exact HD.out
  have HD2 := Lib.hid hD
  have hpos : 0 < u.size := dig_pos hD
  have hb0 : (((u[0].toNat : Nat) : Int) == 48) = true := by
    have hu2 : u.data.toList = unsign s.data.toList := by rw [hu]
    have h2 := head_byte u hpos
    rw [hu2, h0] at h2
    have h3 : u[0] = 48 := (Option.some.inj h2).symm
    rw [h3]; rfl
  have hs2 : (s.toList == [48]) = false := str_ne h1
  clear hw1 hu hq hD
  go_wp2_with fail
  refine (dig_any u _ hus).mono ?_
  rintro e w2 ⟨rfl, hw2⟩
  rw [← hw2, HD2.out]
  clear hw2
  go_wp2_with fail
  refine bodyPost_ret (v := noInt 4) (by simp [noInt, results, Tryd.results9, go_sem]) rfl ?_
  exact ⟨rfl, below_alloc _ _⟩

set_option maxHeartbeats 400000 in
theorem parse_ok (s : ByteArray) (w : World) (hs : s.size ≤ 20000) (hn : numB s.data.toList = true) :
    Calls Tryd.prog 9 #[.string s] w (NewPE w (numZ s.data.toList) 0) := by
  have hus : (⟨(unsign s.data.toList).toArray⟩ : ByteArray).size ≤ 1000000 := by
    have h1 := unsign_length s.data.toList
    rw [← Lib.size_eq] at h1
    exact Nat.le_trans h1 (by omega)
  have hd : digB (unsign s.data.toList) = true := by
    have h1 := numB_iff.1 hn
    unfold digB
    rw [h1.2.1, Bool.true_and]
    exact decide_eq_true h1.1
  have HD := Lib.hid hd
  have HN := Lib.hid hn
  clear hd hn
  go_enter Tryd.func9, Tryd.ntmps9
  go_wp2_with fail
  refine (cut_sign s _).mono ?_
  rintro e w1 ⟨rfl, hw1⟩
  rw [hw1]
  obtain ⟨u, hu⟩ : ∃ u : ByteArray, u = ⟨(unsign s.data.toList).toArray⟩ := ⟨_, rfl⟩
  obtain ⟨q, hq⟩ : ∃ q, q = Lib.hasPrefix s.data.toList [45] := ⟨_, rfl⟩
  rw [← hu, ← hq]
  rw [← hu] at hus
  have hD : digB u.data.toList = true := by rw [hu]; exact HD.out
  have HD2 := Lib.hid hD
  have hpos : 0 < u.size := dig_pos hD
  have hu2 : u.data.toList = unsign s.data.toList := by rw [hu]
  have hbs : Hid ((((u[0].toNat : Nat) : Int) == 48) = false ∨ ((((u[0].toNat : Nat) : Int) == 48) = true ∧ (s.toList == [48]) = true)) := by
    have h1 := (numB_iff.1 HN.out).2.2
    have h2 := head_byte u hpos
    rw [hu2] at h2
    by_cases h3 : u[0] = 48
    · right
      rw [h3] at h2
      rcases h1 with h1 | h1
      · exact absurd h2 h1
      · exact ⟨by rw [h3]; rfl, str_is h1⟩
    · left
      have h4 : u[0].toNat ≠ 48 := fun e => h3 (UInt8.toNat_inj.1 e)
      simp; omega
  have HU := Lib.hid hu2
  have HQ := Lib.hid hq
  clear hu2
  clear hw1 hu hq hD
  go_wp2_with fail
  refine (dig_any u _ hus).mono ?_
  rintro e w2 ⟨rfl, hw2⟩
  rw [← hw2, HD2.out]
  clear hw2
  have HLM : Hid (∀ W : World, Calls Tryd.prog 27 #[.string u] W (NewSl W (limbs (digVal (unsign s.data.toList))))) := by
    intro W
    have h1 := HD2.out
    unfold digB at h1
    rw [Bool.and_eq_true] at h1
    rw [← HU.out]
    exact dlimbs_any u W hus h1.1
  have HFIN : Hid (∀ (W : World) (ao : Option Addr) (n cap : Nat), Own (w.alloc (.cells #[Value.bool false, .slice none 0 0] 24)).heap.size W ao n cap (limbs (digVal (unsign s.data.toList))) → Cn W q ao n cap (numZ s.data.toList)) := by
    intro W ao n cap hO
    refine ⟨?_, by rw [numZ_abs]; exact hO.sl⟩
    rw [HQ.out]; exact numB_sign HN.out
  have hbs2 := hbs.out
  clear hbs
  rcases hbs2 with hb0 | ⟨hb0, hs2⟩
  all_goals
    go_wp2_with fail
    refine (HLM.out _).mono ?_
    rintro e w5 ⟨ao, n, cap, rfl, hO, hB⟩
    have HC := Lib.hid (HFIN.out _ _ _ _ hO)
    have hbx := (Box.new w w.heap.size false none 0 0 24 rfl).below hB
    have c0 := hbx.c0
    have c1 := hbx.c1
    have f0 := hbx.f0
    have f1 := hbx.f1
    have HBX := Lib.hid hbx
    have HB := Lib.hid (step_alloc hB)
    clear hO hB hbx
    go_wp2_with fail
    refine bodyPost_ret (v := .tuple #[.agg #[.bool q, .slice ao n cap], .int .i64 0]) (by simp [results, Tryd.results9, go_sem, c0, c1]) rfl ?_
    exact ⟨_, _, _, _, rfl, HC.out.set2 HBX.out _ _, below_set2 HB.out (Nat.le_refl _) _ _⟩

end Go.Proofs.YtocdlaakcecieaaDoor

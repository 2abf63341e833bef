/-
  The contract of strings.Cut at a stroke.
-/
import Derived.Test.YteceomlbnajihaaGreatDoorQTxt
import Derived.Test.YteceomlbnajihaaGreatDoorTxtCutLay
import Derived.Test.YteceomlbnajihaaGreatDoorGMem
import Derived.Deep.Cut
set_option maxRecDepth 8192
namespace Go.Proofs.YteceomlbnajihaaGreatDoor
open Go.RowKit Go.Lib

theorem slashAt_cons (b : UInt8) (l : List UInt8) : slashAt (b :: l) = if b = 47 then 0 else slashAt l + 1 := by
  unfold slashAt
  rw [List.findIdx_cons]
  by_cases h : b = 47
  · simp [h]
  · have hb : (b == 47) = false := by simpa using h
    rw [hb, if_neg h]; rfl

theorem byte_at (l : List UInt8) : indexByte l 47 = if slashAt l < l.length then (slashAt l : Int) else -1 := by
  induction l with
  | nil => simp [indexByte, slashAt]
  | cons b l ih =>
    unfold indexByte
    rw [slashAt_cons, ih]
    by_cases h : b = 47
    · simp [h]
    · have hb : (b == 47) = false := by simpa using h
      rw [hb, if_neg h]
      by_cases h2 : slashAt l < l.length
      · have h4 : slashAt l + 1 < (b :: l).length := by simp; omega
        have h3 : ((slashAt l : Int) == -1) = false := by simp
        simp only [if_pos h2, if_pos h4, h3]
        simp
      · have h4 : ¬ slashAt l + 1 < (b :: l).length := by simp; omega
        simp only [if_neg h2, if_neg h4]
        simp

theorem index47 (s : ByteArray) (z : Int) (w : World) (h : indexByte s.data.toList 47 = z) :
    Calls Tryz.prog 113 #[.string s, .string ⟨#[47]⟩] w (fun e w' => e = .returned (.int .i64 z) ∧ w = w') :=
  (Any.stringslite_Index_one Tryz.lays219 s 47 w).mono (fun _ _ h1 => ⟨h ▸ h1.1, h1.2.symm⟩)

set_option maxHeartbeats 1000000 in
theorem lcut47_hit (s : ByteArray) (i : Nat) (w : World) (hi : indexByte s.data.toList 47 = (i : Int)) (hs : i < s.size) (hb : s.size ≤ 1000000) :
    Calls Tryz.prog 89 #[.string s, .string ⟨#[47]⟩] w (RetB (.tuple #[.string (s.extract 0 i), .string (s.extract (i + 1) s.size), .bool true]) w) := by
  have HI := Lib.hid hi
  have c1 : (0 : Int) ≤ ↑i := by omega
  have c2 : (↑i : Int) ≤ ↑s.size := by omega
  have c3 : (0 : Int) ≤ ↑i + 1 := by omega
  have c4 : (↑i + 1 : Int) ≤ ↑s.size := by omega
  clear hi
  go_enter Tryz.func89, Tryz.ntmps89
  go_wp2_with fail
  refine (index47 s i w HI.out).mono ?_
  rintro e w' ⟨rfl, rfl⟩
  go_wp2_with fail
  go_quiet (fail)
  go_wp2_with fail
  go_ret3
  exact ⟨rfl, below_drewN _ _ _⟩

set_option maxHeartbeats 1000000 in
theorem lcut47_miss (s : ByteArray) (w : World) (hi : indexByte s.data.toList 47 = -1) :
    Calls Tryz.prog 89 #[.string s, .string ⟨#[47]⟩] w (RetB (.tuple #[.string s, .string ⟨#[]⟩, .bool false]) w) := by
  have HI := Lib.hid hi
  clear hi
  go_enter Tryz.func89, Tryz.ntmps89
  go_wp2_with fail
  refine (index47 s (-1) w HI.out).mono ?_
  rintro e w' ⟨rfl, rfl⟩
  go_wp2_with fail
  go_ret3
  exact ⟨rfl, Below.refl _ _⟩

theorem cut47 {s a b : ByteArray} {r : Bool} {w : World} (h : ∀ w, Calls Tryz.prog 89 #[.string s, .string ⟨#[47]⟩] w (RetB (.tuple #[.string a, .string b, .bool r]) w)) :
    Calls Tryz.prog 63 #[.string s, .string ⟨#[47]⟩] w (RetB (.tuple #[.string a, .string b, .bool r]) w) := by
  have HH := Lib.hid h
  clear h
  go_enter Tryz.func63, Tryz.ntmps63
  go_wp2_with fail
  refine (HH.out _).mono ?_
  rintro e w' ⟨rfl, hB⟩
  have HB := Lib.hid hB
  clear hB
  go_wp2_with fail
  go_ret3
  exact ⟨rfl, HB.out⟩

theorem cut47_hit (s : ByteArray) (w : World) (h : slashAt s.data.toList < s.data.toList.length) (hb : s.size ≤ 1000000) :
    Calls Tryz.prog 63 #[.string s, .string ⟨#[47]⟩] w (RetB (.tuple #[.string (s.extract 0 (slashAt s.data.toList)), .string (s.extract (slashAt s.data.toList + 1) s.size), .bool true]) w) := by
  have h1 := byte_at s.data.toList
  rw [if_pos h] at h1
  exact cut47 (fun w => lcut47_hit s _ w h1 (by simpa using h) hb)

theorem cut47_miss (s : ByteArray) (w : World) (h : ¬ slashAt s.data.toList < s.data.toList.length) :
    Calls Tryz.prog 63 #[.string s, .string ⟨#[47]⟩] w (RetB (.tuple #[.string s, .string ⟨#[]⟩, .bool false]) w) := by
  have h1 := byte_at s.data.toList
  rw [if_neg h] at h1
  exact cut47 (fun w => lcut47_miss s w h1)

end Go.Proofs.YteceomlbnajihaaGreatDoor

/-
  The contracts of digits.areDigits and digits.appendPiece.
-/
import Derived.Test.YtocdlaakcecieaaDoorTxtLib
import Derived.Test.YtocdlaakcecieaaDoorGMem
import Derived.Deep.Cut
import Derived.Deep.LoopGhost
set_option maxRecDepth 8192
namespace Go.Proofs.YtocdlaakcecieaaDoor
open Go.RowKit

/-- something, and digits alone -/
def digB (l : List UInt8) : Bool := allDig l && decide (l ≠ [])

theorem take_byte (s : ByteArray) (k : Nat) (h : k < s.size) : s.data.toList.take (k + 1) = s.data.toList.take k ++ [s[k]] := by
  rw [List.take_succ_eq_append_getElem (by simpa using h)]; rfl

theorem all_bad (s : ByteArray) (k : Nat) (h : k < s.size) (hc : isDig s[k] = false) : allDig s.data.toList = false := by
  cases ha : allDig s.data.toList with
  | false => rfl
  | true =>
    have h1 := allDig_mem ha s[k] (by simp [ByteArray.getElem_eq_getElem_data])
    rw [h1] at hc; cases hc

set_option maxHeartbeats 400000 in
theorem dig_any (s : ByteArray) (w : World) (hs : s.size ≤ 1000000) :
    Calls Tryd.prog 26 #[.string s] w fun e w' => e = .returned (.bool (digB s.data.toList)) ∧ w = w' := by
  go_enter Tryd.func26, Tryd.ntmps26
  go_wp2_with fail
  go_loop [6] (fun i => ∃ k : Nat, k ≤ s.size ∧ i = .int .i64 k ∧ Hid (allDig (s.data.toList.take k) = true)) (fun i => s.size - (intOf i).toNat)
  case atStart => exact ⟨0, Nat.zero_le _, rfl, by rw [List.take_zero]; rfl⟩
  case round =>
    obtain ⟨k, hk, rfl, HA⟩ := hrel
    by_cases hlt : k < s.size
    · cases hc : isDig s[k] with
      | true =>
        have h1 := isDig_iff.1 hc
        have h48 : ¬ ((s[k].toNat : Nat) : Int) < 48 := by omega
        have h57 : ¬ (57 : Int) < ((s[k].toNat : Nat) : Int) := by omega
        have HA2 : Hid (allDig (s.data.toList.take (k + 1)) = true) := by
          show _ = _
          rw [take_byte s k hlt, allDig_append, HA.out, allDig_cons, hc]; rfl
        clear hc h1
        go_wp2_with fail
        go_round
        case rel => exact ⟨k + 1, by omega, by go_num, HA2⟩
        case measure => simp [intOf]; omega
      | false =>
        have HD : Hid (digB s.data.toList = false) := by
          show _ = _
          unfold digB; rw [all_bad s k hlt hc]; rfl
        have h1 : s[k].toNat < 48 ∨ (¬ s[k].toNat < 48 ∧ 57 < s[k].toNat) := by
          by_cases h2 : s[k].toNat < 48
          · exact .inl h2
          · right
            refine ⟨h2, ?_⟩
            rcases Nat.lt_or_ge 57 s[k].toNat with h3 | h3
            · exact h3
            · rw [isDig_iff.2 ⟨by omega, h3⟩] at hc; cases hc
        clear hc
        rcases h1 with h1 | ⟨h1, h2⟩
        · have h48 : ((s[k].toNat : Nat) : Int) < 48 := by omega
          go_wp2_with fail
          go_ret
          exact ⟨by rw [HD.out]; rfl, rfl⟩
        · have h48 : ¬ ((s[k].toNat : Nat) : Int) < 48 := by omega
          have h57 : (57 : Int) < ((s[k].toNat : Nat) : Int) := by omega
          go_wp2_with fail
          go_ret
          exact ⟨by rw [HD.out]; rfl, rfl⟩
    · obtain rfl : k = s.size := by omega
      have hl : s.data.toList.length = s.size := (Lib.size_eq s).symm
      have hA := HA.out
      rw [List.take_of_length_le (by omega)] at hA
      have HR : Hid (digB s.data.toList = decide (0 < s.size)) := by
        show _ = _
        unfold digB
        rw [hA, Bool.true_and, decide_eq_decide, ← hl]
        exact List.length_pos_iff.symm
      clear hA HA hl
      go_wp2_with fail
      go_ret
      exact ⟨by rw [HR.out]; simp, rfl⟩

/-- What the loop of appendPiece holds. -/
structure AppInv (B : Nat) (w0 : World) (ao : Option Addr) (n cap V p k c : Nat) (wr : World) (zs : List Nat) : Prop where
  own : Own B wr ao n cap zs
  below : Below B w0 wr
  low : val (zs.take k) + 4294967296 ^ k * c = val ((limbs V).take k) * 1000000000 + p
  high : zs.drop k = (limbs V).drop k
  lt : c < 1000000000

theorem getD_of_drop {xs ys : List Nat} {k : Nat} (h : xs.drop k = ys.drop k) : xs.getD k 0 = ys.getD k 0 := by
  have h1 := congrArg (fun l => l.getD 0 0) h
  simpa [List.getD] using h1

theorem app_low {P A S p c x T : Nat} (h : A + P * c = S * 1000000000 + p) (ht : T = c + x * 1000000000) :
    (A + P * (T % 4294967296)) + P * 4294967296 * (T / 4294967296) = (S + P * x) * 1000000000 + p := by
  have h1 : P * 4294967296 * (T / 4294967296) = P * (4294967296 * (T / 4294967296)) := Nat.mul_assoc _ _ _
  rw [h1, Nat.add_assoc, ← Nat.mul_add, Nat.mod_add_div, ht, Nat.mul_add, ← Nat.add_assoc, h, Nat.add_mul, Nat.mul_assoc P x]
  omega

theorem canon_of_ge {zs : List Nat} {n : Nat} (hw : Wf zs) (hl : zs.length = n) (h : n = 0 ∨ 4294967296 ^ (n - 1) ≤ val zs) : zs = limbs (val zs) := by
  rcases Nat.eq_zero_or_pos n with h0 | h0
  · subst h0
    obtain rfl := List.eq_nil_of_length_eq_zero hl
    rfl
  · have h1 : 4294967296 ^ (n - 1) ≤ val zs := by
      rcases h with h | h
      · omega
      · exact h
    have h2 : nl zs = n := by
      have h3 := nl_le zs
      rcases Nat.lt_or_ge (nl zs) n with h4 | h4
      · have h5 := val_lt (limbs (val zs)) (wf_limbs _)
        rw [val_limbs, ← nl_eq zs hw] at h5
        have h6 : 4294967296 ^ (nl zs) ≤ 4294967296 ^ (n - 1) := Nat.pow_le_pow_right (by omega) (by omega)
        omega
      · omega
    rw [← trim_limbs zs hw, trimL_take, h2, take_all zs n hl]

theorem limbs_ge {V n : Nat} (h : (limbs V).length = n) : n = 0 ∨ 4294967296 ^ (n - 1) ≤ V := by
  rcases Nat.eq_zero_or_pos n with h0 | h0
  · exact .inl h0
  · right
    have h1 := pow_le_of_nl (xs := limbs V) (n - 1) (by rw [nl_limbs, h]; omega)
    rwa [val_limbs] at h1

/-- What appendPiece leaves. -/
def NewA (B : Nat) (w0 : World) (V n : Nat) (e : Ending) (w' : World) : Prop :=
  ∃ ao n' cap, e = .returned (.slice ao n' cap) ∧ Own B w' ao n' cap (limbs V) ∧ Below B w0 w' ∧ n' ≤ n + 1

set_option maxHeartbeats 400000 in
theorem app_any (B : Nat) (ao : Option Addr) (n cap V p : Nat) (w0 w : World) (hO : Own B w ao n cap (limbs V)) (hb : Below B w0 w) (hB : B ≤ w.heap.size) (hp : p < 1000000000) (hn : n ≤ 1000000) :
    Calls Tryd.prog 46 #[.slice ao n cap, .int .u32 (p : Int)] w (NewA B w0 (V * 1000000000 + p) n) := by
  obtain ⟨i0, hi, hz0, hz1, hz2⟩ := info_parts Tryd.info_u32
  have HI : Hid (AppInv B w0 ao n cap V p 0 p w (limbs V)) := ⟨hO, hb, by simp [val], rfl, hp⟩
  have HL := Lib.hid hO.len
  clear hO hb
  go_enter Tryd.func46, Tryd.ntmps46
  go_wp2_with fail
  go_loopg [5, 12] n (fun g s5 s12 wr => ∃ (k c : Nat) (zs : List Nat), k ≤ n ∧ s5 = .int .u64 ((c : Nat) : Int) ∧ s12 = .int .i64 ((k : Nat) : Int) ∧ Hid (n - k = g) ∧ Hid (AppInv B w0 ao n cap V p k c wr zs) ∧ B ≤ wr.heap.size)
  case atStart => exact ⟨0, p, limbs V, Nat.zero_le _, rfl, rfl, rfl, HI, hB⟩
  case round =>
    clear HI
    obtain ⟨k, c, zs, hk, rfl, rfl, HG, HI, hBr⟩ := hrel
    have hcl := HI.out.lt
    by_cases hlt : k < n
    · have d1 : decide (k < n) = true := by simpa using hlt
      rcases HI.out.own.parts with ⟨_, h0, _⟩ | ⟨g, rfl, hg, _, hcap⟩
      · omega
      obtain ⟨x, hx⟩ : ∃ x, x = zs.getD k 0 := ⟨_, rfl⟩
      have hxl : x < 4294967296 := by rw [hx]; exact HI.out.own.getD_lt k
      have hcell := HI.out.own.cell k hlt
      rw [← hx] at hcell
      have hfr := HI.out.own.frozen k
      obtain ⟨T, hT⟩ : ∃ T, T = c + x * 1000000000 := ⟨_, rfl⟩
      have hTb : T ≤ 4294967296000000000 := by omega
      have iT : ((c : Nat) : Int) + ((x : Nat) : Int) * 1000000000 = ((T : Nat) : Int) := by omega
      have HX := Lib.hid hx
      have HT := Lib.hid hT
      clear hx hT
      go_wp2_with fail
      have HJ : Hid (AppInv B w0 (some ⟨g, 0, none⟩) n cap V p (k + 1) (T / 4294967296) (wr.setCell ⟨g, k, none⟩ (.int .u32 (((T : Nat) : Int) % 4294967296))) (zs.set k (T % 4294967296))) := by
        have hlen := HI.out.own.len
        have hgl := getD_of_drop HI.out.high
        refine ⟨HI.out.own.set k (T % 4294967296) (Nat.mod_lt _ (by omega)), HI.out.below.setCell hg _, ?_, ?_, by have := HI.out.lt; have h1 := HT.out; omega⟩
        · rw [take_succ_getD _ k (by rw [List.length_set]; omega), take_succ_getD (limbs V) k (by rw [HL.out]; exact hlt), val_append, val_append, List.length_take, List.length_set, List.length_take, HL.out, Nat.min_eq_left (by omega), Nat.min_eq_left (by omega), getD_set, if_pos ⟨rfl, by omega⟩, List.take_set_of_le (Nat.le_refl _), val_cons, val_cons, val_nil, Nat.mul_zero, Nat.add_zero, Nat.add_zero, ← hgl, ← HX.out, Nat.pow_succ]
          exact app_low HI.out.low HT.out
        · rw [List.drop_set_of_lt (by omega)]
          have h1 := congrArg (List.drop 1) HI.out.high
          rwa [List.drop_drop, List.drop_drop] at h1
      have hBs : B ≤ (wr.setCell ⟨g, k, none⟩ (.int .u32 (((T : Nat) : Int) % 4294967296))).heap.size := by simpa using hBr
      clear HI
      go_roundg (n - (k + 1))
      case measure => have h1 := HG.out; rw [← h1]; omega
      case rel => exact ⟨k + 1, T / 4294967296, _, hlt, by go_num, by go_num, rfl, HJ, hBs⟩
    · obtain rfl : k = n := by omega
      have d1 : decide (k < k) = false := by simp
      have hlen := HI.out.own.len
      have hlow := HI.out.low
      rw [take_all zs k hlen, take_all _ k HL.out] at hlow
      rw [val_limbs] at hlow
      have hO := HI.out.own
      have hbl := HI.out.below
      have HLOW := Lib.hid hlow
      have HO := Lib.hid hO
      have HBL := Lib.hid hbl
      have hle := hO.sl.le
      have hbig := hO.big
      clear hlow hO hbl HI hlen
      by_cases hc0 : 0 < c
      · have HV : Hid (zs ++ [c] = limbs (V * 1000000000 + p)) := by
          have h1 : Wf (zs ++ [c]) := fun y hy => by
            rcases List.mem_append.1 hy with hy | hy
            · exact HO.out.wf y hy
            · simp at hy; omega
          have h2 : val (zs ++ [c]) = V * 1000000000 + p := by
            rw [val_append, val_cons, val_nil, Nat.mul_zero, Nat.add_zero, HO.out.len]
            exact HLOW.out
          show _ = _
          rw [← h2, ← trim_limbs _ h1, trimL_snoc _ (by omega)]
        go_wp2_with (at_builtin; refine wpList_push wr wr rfl (.tmp 32) (.tmp 35) 22 rfl B 39 i0 (.int .u32 0) 4 Tryd.underlying22 hi hz0 hz1 hz2 rfl _ _ _ _ rfl HO.out.row (.int .u32 ((c : Nat) : Int)) rfl 39 rfl (Below.refl _ _) hBr (by unfold maxLen; omega) (by omega) ?_; intro ao3 cap3 w3 hown3 hB3 hg3)
        go_ret
        exact ⟨_, _, _, rfl, by rw [← HV.out]; exact push32 c hown3 rfl (by omega) HO.out.wf (by omega), HBL.out.trans hB3, Nat.le_refl _⟩
      · obtain rfl : c = 0 := by omega
        have HV : Hid (zs = limbs (V * 1000000000 + p)) := by
          have h2 := HLOW.out
          rw [Nat.mul_zero, Nat.add_zero] at h2
          show _ = _
          rw [← h2]
          refine canon_of_ge HO.out.wf HO.out.len ?_
          rw [h2]
          rcases limbs_ge HL.out with h3 | h3
          · exact .inl h3
          · exact .inr (by omega)
        go_wp2_with fail
        go_ret
        exact ⟨_, _, _, rfl, by rw [← HV.out]; exact HO.out, HBL.out, Nat.le_succ _⟩

end Go.Proofs.YtocdlaakcecieaaDoor

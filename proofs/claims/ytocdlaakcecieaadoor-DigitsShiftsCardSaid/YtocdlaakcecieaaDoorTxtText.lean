/-
  The contract of digits.Text.
-/
import Derived.Test.YtocdlaakcecieaaDoorTxtPieces
import Derived.Test.YtocdlaakcecieaaDoorTxtMem
import Derived.Test.YtocdlaakcecieaaDoorTxtCont
import Derived.Laws.Concat
import Derived.Lib.SlBytesConst
import Derived.Deep.Cut
import Derived.Deep.DeepCutAuto
import Derived.Deep.LoopGhost
set_option maxRecDepth 8192
namespace Go.Proofs.YtocdlaakcecieaaDoor
open Go.RowKit Go.Lib

set_option maxHeartbeats 400000 in
theorem text_any {m : Bool} {ao : Option Addr} {n cap : Nat} {z : Int} {w : World} (hx : Nx w m ao n cap z) (ht : Tab w) :
    Calls Tryd.prog 8 #[.agg #[.bool m, .slice ao n cap]] w (RetB (.string ⟨(itoa z).toArray⟩) w) := by
  obtain ⟨⟨xs, hs, hz⟩, hle⟩ := hx
  have hv : val xs < 10 ^ (9 * (2 * n)) := by
    have h1 := val_small n hs.wf hs.len (Nat.le_refl _)
    refine Nat.lt_of_lt_of_le h1 ?_
    rw [← Nat.mul_assoc, Nat.pow_mul]
    exact Nat.pow_le_pow_left (by decide) n
  obtain ⟨N, hN⟩ : ∃ N, N = val xs := ⟨_, rfl⟩
  have HS := Lib.hid hs
  have HT := Lib.hid ht
  have HN := Lib.hid hN
  have HV := Lib.hid hv
  have HZ := Lib.hid hz
  clear hs ht hN hv hz
  go_enter Tryd.func8, Tryd.ntmps8
  go_upto_region 1 with (fail)
  refine wp_world (fun W hW => ?_)
  have HB0 : Hid (Below w.heap.size w W) := by rw [hW]; exact below_alloc _ _
  have hbx : Box W (w.heap.size) m ao n cap := by rw [hW]; exact Box.new _ _ _ _ _ _ _ (by simp)
  have HX0 := Lib.hid hbx
  clear hW hbx
  have c0 := HX0.out.c0
  have c1 := HX0.out.c1
  go_wp2_with fail
  refine (pieces_any (2 * n) ao n cap xs _ (HS.out.below HB0.out) HV.out (by omega)).mono ?_
  rw [← HN.out]
  rintro e w1 ⟨K, po, pc, rfl, hK1, hK2, hK3, hO, hB⟩
  obtain ⟨L, rfl⟩ : ∃ L, K = L + 1 := ⟨K - 1, by omega⟩
  rcases hO.parts with ⟨_, h0, _⟩ | ⟨g1, rfl, hg1, hg2, hpc⟩
  · omega
  have HO1 := Lib.hid hO
  have HB1 := Lib.hid (Below.steps HB0.out hB)
  have HX1 := Lib.hid (HX0.out.below hB)
  have HK2 := Lib.hid hK2
  have HK3 := Lib.hid hK3
  have hLM : L ≤ 1000000000 := by
    rcases Nat.eq_zero_or_pos L with h | h
    · omega
    · have := more_bound (hK3 (by omega)) (by rw [HN.out]; exact HV.out); omega
  obtain ⟨p, hp⟩ : ∃ p, p = piece N L := ⟨_, rfl⟩
  have hpl : p < 1000000000 := by rw [hp]; exact piece_lt _ _
  have hcell : w1.cell? ⟨g1, L, none⟩ = some (.int .u32 ((p : Nat) : Int)) := by
    have h1 := hO.cell L (by omega)
    rw [pcs_getD _ _ _ (by omega), ← hp] at h1
    exact h1
  have i1 : (((L + 1 : Nat) : Nat) : Int) - 1 = ((L : Nat) : Int) := by omega
  have HDL : Hid ((decDigits p).length ≤ 9) := by show _ ≤ _; rw [decDigits_length]; exact nDigits_le 8 p (by simpa using hpl)
  have HC := Lib.hid hcell
  have HP := Lib.hid hp
  clear hB hO hK2 hK3 c0 c1 HX0 HB0 hcell hp hK1
  have c0 := HX1.out.c0
  have hcell := HC.out
  go_wp2_with fail
  refine (ptext_any p (by omega) _ (HT.out.below HB1.out)).mono ?_
  rintro e w2 ⟨rfl, hB⟩
  have HO2 := Lib.hid (HO1.out.below hB)
  have HB2 := Lib.hid (Below.steps HB1.out hB)
  have HX2 := Lib.hid (HX1.out.below hB)
  have HC2 := Lib.hid ((hB.cell (p := ⟨g1, L, none⟩) hg2).trans HC.out)
  have hg3 := Nat.lt_of_lt_of_le hg2 hB.size
  clear hB HO1 HB1 HX1 HC c0 hcell hg2
  have c0 := HX2.out.c0
  have hcell := HC2.out
  obtain ⟨hd, hhd⟩ : ∃ hd, hd = headOf m N L := ⟨_, rfl⟩
  have HH := Lib.hid hhd
  clear hhd
  obtain ⟨q, hq⟩ : ∃ q, q = (m && decide (0 < p)) := ⟨_, rfl⟩
  have HQ := Lib.hid hq
  clear hq
  go_upto_region 4 with (fail)
  go_cut [30] from 22 to 30 (fun s30 wx => w2 = wx ∧ s30 = .bool q)
  case first =>
    have hq := HQ.out
    cases m
    · go_wp2_with fail
      go_meet
      exact ⟨rfl, by rw [hq]; rfl⟩
    · have HQ2 := Lib.hid hq
      clear hq
      go_wp2_with fail
      go_meet
      exact ⟨rfl, by rw [HQ2.out]; rfl⟩
  case rest =>
  obtain ⟨rfl, rfl⟩ := hcut
  go_upto_if 30 with (fail)
  go_cut [5] from 31 to 32 (fun s5 wx => w2 = wx ∧ s5 = .string ⟨hd.toArray⟩)
  case first =>
    have HE : Hid (hd = (if q then [45] else []) ++ decDigits p) := by rw [HQ.out, HP.out]; exact HH.out
    cases q
    · go_wp2_with fail
      go_meet
      exact ⟨rfl, by rw [HE.out]; rfl⟩
    · have hadd : ∀ W : World, (Op.stringOp .add ⟨#[45]⟩ ⟨(decDigits p).toArray⟩).run Tryd.prog W = .ok (.string ⟨(45 :: decDigits p).toArray⟩) W := fun W => str_add W [45] (decDigits p) (by have := HDL.out; simp; omega)
      go_wp2_with fail
      go_meet
      exact ⟨rfl, by rw [HE.out]; rfl⟩
  case rest =>
  obtain ⟨rfl, rfl⟩ := hcut
  have kc := fun (w : World) (C : Array Value) (n c : Nat) => Lib.run_convert_bytes_const (P := Tryd.prog) w 53 5 C n c Tryd.underlying53 Tryd.underlying5
  have hhl : hd.length ≤ 20 := by
    have h1 := HDL.out
    rw [HH.out]
    unfold headOf
    rw [← HP.out]
    split <;> simp <;> omega
  obtain ⟨H, hH⟩ : ∃ H, H = hd.length := ⟨_, rfl⟩
  rw [← hH] at hhl
  obtain ⟨T, hT⟩ : ∃ T, T = H + L * 9 := ⟨_, rfl⟩
  have iT : ((H : Nat) : Int) + ((L : Nat) : Int) * 9 = ((T : Nat) : Int) := by omega
  have hsz : (⟨hd.toArray⟩ : ByteArray).size = H := by rw [hH]; rfl
  have HH2 := Lib.hid hH
  have HE0 : Hid (0 < H) := by show 0 < H; rw [hH, HH.out]; unfold headOf; rw [List.length_append, decDigits_length]; have := nDigits_pos (piece N L); omega
  have HTT := Lib.hid hT
  clear hH hT
  go_wp2_with fail
  have hca : (w2.alloc (.cells #[Value.int .u8 48] 5 (1, 2))).cell? ⟨w2.heap.size, 0, none⟩ = some (.int .u8 (((48 : UInt8).toNat : Nat) : Int)) := by
    refine (Lib.cell_of_heap (T := 5) (fr := (1, 2)) (cs := #[Value.int .u8 48]) ?_ 0).trans rfl
    show (w2.heap.push _)[w2.heap.size]? = _
    rw [Array.getElem?_push_size]
  refine (brep_any w2.heap.size 0 T 48 _ hca (by have := HTT.out; have := HE0.out; omega) (by have := HTT.out; omega)).mono ?_
  rintro e w3 ⟨g, rfl, hg4, hF, hB⟩
  have hT3 : Hid (TxtIs w3 g T (List.replicate T 48)) := TxtIs.of_fill hF
  have hb3 : Hid (Below w2.heap.size w2 w3) := ((Below.refl _ w2).alloc (Nat.le_refl _) _).trans (hB.mono (by simp))
  have hg5 : w2.heap.size ≤ g := by simp at hg4; omega
  have hHT : H ≤ T := by have := HTT.out; omega
  have HFR := Lib.hid (TxtIs.row hT3.out)
  clear hF hB hg4 hca kc hsz
  go_wp2_with (refine wpList_copy_str rfl (.tmp 41) (.tmp 42) 53 9 rfl Tryd.underlying53 g 0 T T rfl hd rfl T _ hT3.out (by rw [← HH2.out]; exact hHT) (by rw [← HH2.out]; omega) w2.heap.size w2 hb3.out hg5 ?_; intro w4 hT4 hb4)
  have HI : Hid (TxtIs w4 g T (cont hd N L 0)) := by
    have h1 := hT4.out
    rw [List.take_zero, List.nil_append, Nat.zero_add, HTT.out, HH2.out, cont_zero] at h1
    rw [HTT.out, HH2.out]
    exact h1
  have HB4 := Lib.hid hb4
  clear hT4 hb4 hT3 hb3 HFR hcell c0 iT i1
  have HF := Lib.hid (show N / 10 ^ (9 * (L + 1)) = 0 ∧ (1 < L + 1 → 0 < N / 10 ^ (9 * (L + 1 - 1))) from ⟨HK2.out, HK3.out⟩)
  have hTL : T = H + L * 9 := HTT.out
  have HTL := Lib.hid hTL
  have hT9 : L * 9 ≤ T := by omega
  have hTb : T ≤ 9000000100 := by omega
  clear hTL
  go_loopg [7, 50] L (fun gh s7 s50 wr => ∃ k : Nat, k ≤ L ∧ s7 = .int .i64 ((T - k * 9 : Nat) : Int) ∧ s50 = .int .i64 ((k : Nat) : Int) ∧ Hid (L - k = gh) ∧ Hid (TxtIs wr g T (cont hd N L k)) ∧ Hid (Below w2.heap.size w2 wr))
  case atStart => exact ⟨0, Nat.zero_le _, by go_num, by go_num, rfl, HI, HB4⟩
  case round =>
    clear HI HB4
    obtain ⟨k, hk, rfl, rfl, HG, HI, HB⟩ := hrel
    by_cases hlt : k < L
    · have d1 : decide (k < L) = true := by simpa using hlt
      obtain ⟨q5, hq5⟩ : ∃ q5, q5 = piece N k := ⟨_, rfl⟩
      have hql : q5 < 1000000000 := by rw [hq5]; exact piece_lt _ _
      have hcell : wr.cell? ⟨g1, k, none⟩ = some (.int .u32 ((q5 : Nat) : Int)) := by
        have h1 := HO2.out.cell k (by omega)
        rw [pcs_getD _ _ _ (by omega), ← hq5] at h1
        exact (HB.out.cell (p := ⟨g1, k, none⟩) hg3).trans h1
      have hd5 := piece_digits N k
      rw [← hq5] at hd5
      obtain ⟨D, hD⟩ : ∃ D, D = (decDigits q5).length := ⟨_, rfl⟩
      rw [← hD] at hd5
      have hsz : (⟨(decDigits q5).toArray⟩ : ByteArray).size = D := by rw [hD]; rfl
      obtain ⟨E, hE⟩ : ∃ E, E = T - k * 9 := ⟨_, rfl⟩
      rw [← hE]
      have hE2 : 9 ≤ E ∧ E + k * 9 = T := by omega
      have iE : ((E : Nat) : Int) - ((D : Nat) : Int) = ((E - D : Nat) : Int) := by omega
      have iE9 : ((E : Nat) : Int) - 9 = ((E - 9 : Nat) : Int) := by omega
      obtain ⟨F, hF⟩ : ∃ F, F = E - D := ⟨_, rfl⟩
      rw [← hF] at iE
      have hFT : ¬ T = F := by omega
      have hFb : F ≤ 9000000100 := by omega
      have hEb : E ≤ 9000000100 := by omega
      have hF2 : ((F : Nat) : Int) ≤ ((T : Nat) : Int) := by omega
      have HQ5 := Lib.hid hq5
      have HD := Lib.hid hD
      have HF9 := Lib.hid hF
      have HE2 := Lib.hid hE2
      have HE9 := Lib.hid hE
      clear hq5 hD hF hE
      go_wp2_with fail
      refine (ptext_any q5 (by omega) _ ((HT.out.below HB2.out).below HB.out)).mono ?_
      rintro e w6 ⟨rfl, hB6⟩
      have HI6 : Hid (TxtIs w6 g T (cont hd N L k)) := by
        obtain ⟨h1, cur, h2, h3⟩ := HI.out
        exact ⟨h1, cur, by rw [hB6.block g (lt_of_block h2)]; exact h2, h3⟩
      have HB6 := Lib.hid (HB.out.trans (hB6.mono HB.out.size))
      clear hB6 HI HB hcell
      go_wp2_with (refine wpList_copy_str rfl (.tmp 61) (.tmp 62) 53 9 rfl Tryd.underlying53 g F (T - F) (T - F) rfl (decDigits q5) rfl T _ HI6.out (by rw [← HD.out]; omega) (by rw [← HD.out]; omega) w2.heap.size w2 HB6.out hg5 ?_; intro w7 hT7 hb7)
      have HJ : Hid (TxtIs w7 g T (cont hd N L (k + 1))) := by
        have h1 := hT7.out
        rw [HQ5.out] at h1
        rw [cont_step hd N L k F hlt (by rw [← HQ5.out, ← HD.out, ← HH2.out]; have h2 := HTL.out; have h3 := HE2.out; have h4 := HF9.out; omega)] at h1
        exact h1
      have HB7 := Lib.hid hb7
      clear hT7 hb7 HI6 HB6
      go_roundg (L - (k + 1))
      case measure => have h1 := HG.out; rw [← h1]; omega
      case rel => exact ⟨k + 1, hlt, by have h1 := HE9.out; congr 2; omega, by go_num, rfl, HJ, HB7⟩
    · obtain rfl : k = L := by omega
      have d1 : decide (k < k) = false := by simp
      have hfin := head_text (m := m) HF.out.1 HF.out.2
      rw [← HH.out, HN.out, HZ.out, ← HN.out] at hfin
      have hI := HI.out
      rw [hfin] at hI
      have hlen := hI.1
      have hcv : (convert 53 9 (.slice (some ⟨g, 0, none⟩) T T)).run Tryd.prog wr = .ok (.string ⟨(itoa z).toArray⟩) wr := by
        have h := run_convert_bytes_back (P := Tryd.prog) wr 53 9 5 ⟨g, 0, none⟩ T (itoa z) Tryd.underlying53 Tryd.underlying5 Tryd.underlying9 (fun j hj => by
          rw [Addr.add_lit, Nat.zero_add]
          exact hI.cell j hj)
        rw [hlen] at h
        exact h
      have HBE := Lib.hid (HB2.out.trans (HB.out.mono HB2.out.size))
      clear hfin hI hlen HI HB
      go_wp2_with fail
      go_ret
      exact ⟨rfl, HBE.out⟩

end Go.Proofs.YtocdlaakcecieaaDoor

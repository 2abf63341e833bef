/-
  The contract of porismlaw05.known.
-/
import Derived.Test.YtocdlaakcecieaaDoorTxtText
import Derived.Test.YtocdlaakcecieaaDoorTxtRefP
import Derived.Deep.Cut
import Derived.Deep.LoopGhost
set_option maxRecDepth 8192
namespace Go.Proofs.YtocdlaakcecieaaDoor
open Go.RowKit

theorem txt_a : Lib.itoa 4294967296 = [52, 50, 57, 52, 57, 54, 55, 50, 57, 54] := by
  rw [itoa_pos' (by omega)]
  exact dec_of_digVal 9 [52, 50, 57, 52, 57, 54, 55, 50, 57, 54] rfl (by decide) (.inl (by decide))
theorem txt_b : Lib.itoa (-7) = [45, 55] := by
  rw [itoa_neg' (by omega)]
  exact congrArg (45 :: ·) (dec_of_digVal 0 [55] rfl (by decide) (.inl (by decide)))

/-- the i-th text that is none -/
def badTxt : Nat → ByteArray
  | 0 => ⟨#[48, 48, 55]⟩
  | 1 => ⟨#[45, 48]⟩
  | 2 => ⟨#[]⟩
  | _ => ⟨#[43, 49]⟩

theorem bad_size (i : Nat) : (badTxt i).size ≤ 20000 := by
  match i with
  | 0 => decide
  | 1 => decide
  | 2 => decide
  | _ + 3 => show 2 ≤ 20000; omega
theorem bad_num (i : Nat) : numB (badTxt i).data.toList = false := by
  match i with
  | 0 => decide
  | 1 => decide
  | 2 => decide
  | _ + 3 => show numB [43, 49] = false; decide

theorem nx_lit {w : World} (m : Bool) (b n : Nat) (ys : List Nat) (cs : Array Value) (hb : b = w.heap.size) (hn : n = ys.length) (hcs : cs = (cellsOf ys).toArray) (hw : Wf ys) (hl : ys.length ≤ 1000000) {z : Int} (hz : zOf m (val ys) = z) :
    Nx (w.alloc (.cells cs 39)) m (some ⟨b, 0, none⟩) n n z :=
  ⟨⟨ys, lit_sl w b n ys hb hn cs hcs hw (by omega), hz⟩, by omega⟩

set_option maxHeartbeats 1000000 in
theorem tknown5 (w : World) (ht : Tab w) : Calls Tryd.prog 7 #[] w (RetB (.bool true) w) := by
  have HT := Lib.hid ht
  clear ht
  go_enter Tryd.func7, Tryd.ntmps7
  go_wp2_with fail
  go_loopg [6] 4 (fun g i wr => ∃ k : Nat, k ≤ 4 ∧ i = .int .i64 ((k : Nat) : Int) ∧ Hid (4 - k = g) ∧ Hid (Below w.heap.size w wr))
  case atStart => exact ⟨0, by omega, rfl, rfl, Below.refl _ _⟩
  case round =>
    obtain ⟨k, hk, rfl, HG, HB⟩ := hrel
    by_cases hlt : k < 4
    · have hk4 : k = 0 ∨ k = 1 ∨ k = 2 ∨ k = 3 := by omega
      have HP := Lib.hid (parse_bad (badTxt k) wr (bad_size k) (bad_num k))
      have x0 : ∀ W : World, (Instr.index 50 (.agg #[.string ⟨#[48, 48, 55]⟩, .string ⟨#[45, 48]⟩, .string ⟨#[]⟩, .string ⟨#[43, 49]⟩]) (.int .i64 0)).run Tryd.prog W = .ok (.string ⟨#[48, 48, 55]⟩) W := fun W => by kernel_rfl
      have x1 : ∀ W : World, (Instr.index 50 (.agg #[.string ⟨#[48, 48, 55]⟩, .string ⟨#[45, 48]⟩, .string ⟨#[]⟩, .string ⟨#[43, 49]⟩]) (.int .i64 1)).run Tryd.prog W = .ok (.string ⟨#[45, 48]⟩) W := fun W => by kernel_rfl
      have x2 : ∀ W : World, (Instr.index 50 (.agg #[.string ⟨#[48, 48, 55]⟩, .string ⟨#[45, 48]⟩, .string ⟨#[]⟩, .string ⟨#[43, 49]⟩]) (.int .i64 2)).run Tryd.prog W = .ok (.string ⟨#[]⟩) W := fun W => by kernel_rfl
      have x3 : ∀ W : World, (Instr.index 50 (.agg #[.string ⟨#[48, 48, 55]⟩, .string ⟨#[45, 48]⟩, .string ⟨#[]⟩, .string ⟨#[43, 49]⟩]) (.int .i64 3)).run Tryd.prog W = .ok (.string ⟨#[43, 49]⟩) W := fun W => by kernel_rfl
      rcases hk4 with rfl | rfl | rfl | rfl
      all_goals
        go_wp2_with fail
        refine HP.out.mono ?_
        rintro e w1 ⟨rfl, hB⟩
        have HB1 := Lib.hid (Below.steps (Below.steps HB.out hB) (below_alloc _ (.cells #[.bool false, .slice none 0 0] 24)))
        clear hB
        unfold noInt
        go_wp2_with fail
      · go_roundg 3
        case measure => have h1 := HG.out; omega
        case rel => exact ⟨1, by omega, rfl, rfl, HB1⟩
      · go_roundg 2
        case measure => have h1 := HG.out; omega
        case rel => exact ⟨2, by omega, rfl, rfl, HB1⟩
      · go_roundg 1
        case measure => have h1 := HG.out; omega
        case rel => exact ⟨3, by omega, rfl, rfl, HB1⟩
      · go_roundg 0
        case measure => have h1 := HG.out; omega
        case rel => exact ⟨4, by omega, rfl, rfl, HB1⟩
    · obtain rfl : k = 4 := by omega
      go_wp2_with fail
      have hN1 : Nx (wr.alloc (.cells #[.int .u32 0, .int .u32 1] 39)) false (some ⟨wr.heap.size, 0, none⟩) 2 2 4294967296 := nx_lit false _ _ [0, 1] _ rfl rfl rfl (wf2 (by omega) (by omega)) (by simp) (by decide)
      refine (text_any hN1 ((HT.out.below HB.out).below (below_alloc _ _))).mono ?_
      rintro e w1 ⟨rfl, hB1⟩
      rw [txt_a]
      have HB1 := Lib.hid (Below.steps (Below.steps HB.out (below_alloc _ _)) hB1)
      clear hN1 hB1
      go_wp2_with fail
      have hN2 : Nx (w1.alloc (.cells #[.int .u32 7] 39)) true (some ⟨w1.heap.size, 0, none⟩) 1 1 (-7) := nx_lit true _ _ [7] _ rfl rfl rfl (wf1 (by omega)) (by simp) (by decide)
      refine (text_any hN2 ((HT.out.below HB1.out).below (below_alloc _ _))).mono ?_
      rintro e w2 ⟨rfl, hB2⟩
      rw [txt_b]
      have HB2 := Lib.hid (Below.steps (Below.steps HB1.out (below_alloc _ _)) hB2)
      clear hN2 hB2
      go_wp2_with fail
      refine (text_any (zero_cx _).nx (HT.out.below HB2.out)).mono ?_
      rintro e w3 ⟨rfl, hB3⟩
      rw [itoa_zero]
      have HB3 := Lib.hid (Below.steps HB2.out hB3)
      clear hB3
      go_wp2_with fail
      go_ret
      exact ⟨rfl, HB3.out⟩

end Go.Proofs.YtocdlaakcecieaaDoor

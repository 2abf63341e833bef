/-
  The contract of porismref05.Text.
-/
import Derived.Test.YtocdlaakcecieaaDoorTxtNum
import Derived.Test.YtocdlaakcecieaaDoorGWZ
import Derived.Laws.Concat
import Derived.Laws.IdiomStrings
import Derived.Lib.UnsafeStr
import Derived.Lib.Builder
import Derived.Deep.Cut
import Derived.Deep.LoopGhost
set_option maxRecDepth 8192
namespace Go.Proofs.YtocdlaakcecieaaDoor
open Go.RowKit

/-- the digits of the lowest k places, the highest one first -/
def lowTxt (ds : List Nat) (k : Nat) : List UInt8 := (ds.take k).reverse.map fun d => UInt8.ofNat (48 + d)

theorem lowTxt_succ (ds : List Nat) (k : Nat) (h : k < ds.length) : lowTxt ds (k + 1) = UInt8.ofNat (48 + ds.getD k 0) :: lowTxt ds k := by
  unfold lowTxt
  rw [take_succ_getD ds k h, List.reverse_append]
  rfl
theorem lowTxt_length (ds : List Nat) (k : Nat) : (lowTxt ds k).length ≤ k := by
  unfold lowTxt
  rw [List.length_map, List.length_reverse, List.length_take]
  omega
theorem lowTxt_all {n D : Nat} (h : (Dg.limbs n).length = D) (h0 : 0 < n) : lowTxt (Dg.limbs n) D = Lib.decDigits n := by
  unfold lowTxt
  rw [take_all _ D h, dec_limbs n h0]

/-- What the loop of Text holds. -/
structure RTextInv (w : World) (b : Nat) (m : Bool) (ao : Option Addr) (n cap : Nat) (z : Int) (wr : World) : Prop where
  zd : Zd wr m ao n cap z
  box : Box wr b m ao n cap
  below : Below w.heap.size w wr

theorem one_byte {w : World} (c : Nat) (hc : c < 256) : (convert 53 9 (.slice (some ⟨w.heap.size, 0, none⟩) 1 1)).run Tryd.prog (w.alloc (.cells #[.int .u8 ((c : Nat) : Int)] 5)) = .ok (.string ⟨#[UInt8.ofNat c]⟩) (w.alloc (.cells #[.int .u8 ((c : Nat) : Int)] 5)) := by
  have h := run_convert_bytes_back (P := Tryd.prog) (w.alloc (.cells #[.int .u8 ((c : Nat) : Int)] 5)) 53 9 5 ⟨w.heap.size, 0, none⟩ 1 [UInt8.ofNat c] Tryd.underlying53 Tryd.underlying5 Tryd.underlying9 (fun j hj => by
    match j, hj with
    | 0, _ =>
      rw [Addr.add_lit]
      refine (Lib.cell_of_heap (T := 5) (fr := (0, 0)) (cs := #[.int .u8 ((c : Nat) : Int)]) ?_ 0).trans ?_
      · show (w.heap.push _)[w.heap.size]? = _
        rw [Array.getElem?_push_size]
      · have e : (UInt8.ofNat c).toNat = c := by rw [UInt8.toNat_ofNat']; exact Nat.mod_eq_of_lt hc
        simp [e])
  exact h

set_option maxHeartbeats 400000 in
theorem rtext_any {m : Bool} {ao : Option Addr} {n cap : Nat} {z : Int} {w : World} (hx : Nx w m ao n cap z) (hn : n ≤ 100000) :
    Calls Tryd.prog 10 #[.agg #[.bool m, .slice ao n cap]] w (RetB (.string ⟨(Lib.itoa z).toArray⟩) w) := by
  have HBD : Hid (Bd z 100000) := hx.inn.bd hn
  have HX := Lib.hid hx
  clear hx
  go_enter Tryd.func10, Tryd.ntmps10
  go_upto_region 1 with (fail)
  refine wp_world (fun W hW => ?_)
  have HB0 : Hid (Below w.heap.size w W) := by rw [hW]; exact below_alloc _ _
  have hbx : Box W (w.heap.size) m ao n cap := by rw [hW]; exact Box.new _ _ _ _ _ _ _ (by simp)
  have c0 := hbx.c0
  have c1 := hbx.c1
  clear hW hbx
  go_wp2_with fail
  refine (zof_any (HX.out.below HB0.out)).mono ?_
  rintro e w1 ⟨rm, r0, rn, rc, rfl, hZ, hB⟩
  have HI : Hid (RTextInv w w1.heap.size rm r0 rn rc z (w1.alloc (.cells #[.bool rm, .slice r0 rn rc] 34))) :=
    ⟨hZ.below (below_alloc _ _), Box.new _ _ _ _ _ _ _ rfl, Below.steps (Below.steps HB0.out hB) (below_alloc _ _)⟩
  have HZL := Lib.hid hZ.sl.len
  have HNZ := Lib.hid hZ.zero
  have HNG := Lib.hid hZ.neg
  have hrn : rn ≤ 1000000 := by
    have h1 := HBD.out.digits
    rw [HZL.out] at h1
    exact h1
  clear hZ hB c0 c1
  have zc0 := HI.out.box.c0
  have zc1 := HI.out.box.c1
  by_cases h0 : rn = 0
  · have hz0 : z = 0 := HNZ.out.1 h0
    subst h0
    have HZ0 := Lib.hid hz0
    clear hz0
    go_wp2_with fail
    go_ret
    exact ⟨by rw [HZ0.out, itoa_zero]; rfl, HI.out.below⟩
  · have e0 : (((rn : Nat) : Int) == 0) = false := by simp; omega
    obtain ⟨b, hb⟩ : ∃ b, b = w1.heap.size := ⟨_, rfl⟩
    go_wp2_with fail
    go_loopg [4, 5] rn (fun g s4 s5 wr => ∃ k : Nat, k ≤ rn ∧ s4 = .string ⟨(lowTxt (Dg.limbs z.natAbs) k).toArray⟩ ∧ s5 = .int .i64 ((k : Nat) : Int) ∧ Hid (rn - k = g) ∧ Hid (RTextInv w w1.heap.size rm r0 rn rc z wr))
    case atStart => exact ⟨0, Nat.zero_le _, rfl, rfl, rfl, HI⟩
    case round =>
      clear HI zc0 zc1
      obtain ⟨k, hk, rfl, rfl, HG, HI⟩ := hrel
      have zc0 := HI.out.box.c0
      have zc1 := HI.out.box.c1
      obtain ⟨t, ht⟩ : ∃ t, t = lowTxt (Dg.limbs z.natAbs) k := ⟨_, rfl⟩
      have htl : t.length ≤ 1000000 := by have := lowTxt_length (Dg.limbs z.natAbs) k; rw [ht]; omega
      rw [← ht]
      by_cases hlt : k < rn
      · have d1 : decide (k < rn) = true := by simpa using hlt
        obtain ⟨g0, off, rfl, hgl, hcell⟩ := HI.out.zd.sl.at (by omega)
        have hdc := hcell k hlt
        have hdl := HI.out.zd.sl.getD_lt k
        have HST := Lib.hid (lowTxt_succ (Dg.limbs z.natAbs) k (by rw [HZL.out]; exact hlt))
        obtain ⟨d, hd⟩ : ∃ d, d = (Dg.limbs z.natAbs).getD k 0 := ⟨_, rfl⟩
        rw [← hd] at hdc hdl HST
        obtain ⟨c, hc⟩ : ∃ c, c = 48 + d := ⟨_, rfl⟩
        rw [← hc] at HST
        have hcb : c < 58 := by omega
        have ic : (48 : Int) + ((d : Nat) : Int) = ((c : Nat) : Int) := by omega
        have hcv := one_byte (w := wr) c (by omega)
        obtain ⟨y, hy⟩ : ∃ y, y = UInt8.ofNat c := ⟨_, rfl⟩
        rw [← hy] at hcv HST
        have hadd : ∀ W : World, (Op.stringOp .add ⟨#[y]⟩ ⟨t.toArray⟩).run Tryd.prog W = .ok (.string ⟨(y :: t).toArray⟩) W := fun W => str_add W [y] t (by simp; omega)
        have HT := Lib.hid ht
        clear hcell hd hc hy ht
        go_wp2_with fail
        have HJ : Hid (RTextInv w w1.heap.size rm (some ⟨g0, off, none⟩) rn rc z (wr.alloc (.cells #[.int .u8 ((c : Nat) : Int)] 5))) :=
          ⟨HI.out.zd.below (below_alloc _ _), HI.out.box.below (below_alloc _ _), Below.steps HI.out.below (below_alloc _ _)⟩
        go_roundg (rn - (k + 1))
        case measure => have h1 := HG.out; rw [← h1]; omega
        case rel => exact ⟨k + 1, hlt, by rw [HST.out, ← HT.out], by go_num, rfl, HJ⟩
      · obtain rfl : k = rn := by omega
        have d1 : decide (k < k) = false := by simp
        have HTX : Hid (t = Lib.decDigits z.natAbs) := by
          show _ = _
          have hz0 : z ≠ 0 := fun e => h0 (HNZ.out.2 e)
          rw [ht]
          exact lowTxt_all HZL.out (by omega)
        have hng := HNG.out
        clear ht
        cases rm
        · have HR : Hid (t = Lib.itoa z) := by
            show _ = _
            have h1 := of_decide_eq_false hng.symm
            rw [itoa_pos' (by omega), HTX.out]
          clear hng
          go_wp2_with fail
          go_ret
          exact ⟨by rw [← HR.out]; rfl, HI.out.below⟩
        · have HR : Hid (45 :: t = Lib.itoa z) := by
            show _ = _
            have h1 := of_decide_eq_true hng.symm
            rw [itoa_neg' h1, HTX.out]
          have hadd : ∀ W : World, (Op.stringOp .add ⟨#[45]⟩ ⟨t.toArray⟩).run Tryd.prog W = .ok (.string ⟨(45 :: t).toArray⟩) W := fun W => str_add W [45] t (by simp; omega)
          clear hng
          go_wp2_with fail
          go_ret
          exact ⟨by rw [← HR.out]; rfl, HI.out.below⟩

end Go.Proofs.YtocdlaakcecieaaDoor

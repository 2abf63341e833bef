/-
  In one: TxtRef, TxtRefP.
-/
import Derived.Test.YteceomlbnajihaaGreatDoorGTxtA
import Derived.Test.YteceomlbnajihaaGreatDoorGWZ
import Derived.Laws.Concat
import Derived.Laws.IdiomStrings
import Derived.Lib.UnsafeStr
import Derived.Lib.Builder
import Derived.Deep.Cut
import Derived.Deep.LoopGhost
import Derived.Test.YteceomlbnajihaaGreatDoorGTxt
import Derived.Deep.DeepCutAuto
set_option maxRecDepth 8192
/- The contract of porismref05.Text. -/
namespace Go.Proofs.YteceomlbnajihaaGreatDoor
open Go.RowKit

/-- the digits of the lowest k places, the highest one first -/
def lowTxt (ds : List Nat) (k : Nat) : List UInt8 := (ds.take k).reverse.map fun d => UInt8.ofNat (48 + d)

theorem lowTxt_succ (ds : List Nat) (k : Nat) (h : k < ds.length) : lowTxt ds (k + 1) = UInt8.ofNat (48 + ds.getD k 0) :: lowTxt ds k := by
  unfold lowTxt
  rw [take_succ_getD ds k h, List.reverse_append]
  rfl
theorem lowTxt_length (ds : List Nat) (k : Nat) : (lowTxt ds k).length ≤ k := by
  unfold lowTxt
  rw [List.length_map, List.length_reverse, List.length_take]
  omega
theorem lowTxt_all {n D : Nat} (h : (Dg.limbs n).length = D) (h0 : 0 < n) : lowTxt (Dg.limbs n) D = Lib.decDigits n := by
  unfold lowTxt
  rw [take_all _ D h, dec_limbs n h0]

/-- What the loop of Text holds. -/
structure RTextInv (w : World) (b : Nat) (m : Bool) (ao : Option Addr) (n cap : Nat) (z : Int) (wr : World) : Prop where
  zd : Zd wr m ao n cap z
  box : Box wr b m ao n cap
  below : Below w.heap.size w wr

theorem one_byte {w : World} (c : Nat) (hc : c < 256) : (convert 104 9 (.slice (some ⟨w.heap.size, 0, none⟩) 1 1)).run Tryz.prog (w.alloc (.cells #[.int .u8 ((c : Nat) : Int)] 5)) = .ok (.string ⟨#[UInt8.ofNat c]⟩) (w.alloc (.cells #[.int .u8 ((c : Nat) : Int)] 5)) := by
  have h := run_convert_bytes_back (P := Tryz.prog) (w.alloc (.cells #[.int .u8 ((c : Nat) : Int)] 5)) 104 9 5 ⟨w.heap.size, 0, none⟩ 1 [UInt8.ofNat c] Tryz.underlying104 Tryz.underlying5 Tryz.underlying9 (fun j hj => by
    match j, hj with
    | 0, _ =>
      rw [Addr.add_lit]
      refine (Lib.cell_of_heap (T := 5) (fr := (0, 0)) (cs := #[.int .u8 ((c : Nat) : Int)]) ?_ 0).trans ?_
      · show (w.heap.push _)[w.heap.size]? = _
        rw [Array.getElem?_push_size]
      · have e : (UInt8.ofNat c).toNat = c := by rw [UInt8.toNat_ofNat']; exact Nat.mod_eq_of_lt hc
        simp [e])
  exact h

set_option maxHeartbeats 400000 in
theorem rtext_any {m : Bool} {ao : Option Addr} {n cap : Nat} {z : Int} {w : World} (hx : Nx w m ao n cap z) (hn : n ≤ 100000) :
    Calls Tryz.prog 61 #[.agg #[.bool m, .slice ao n cap]] w (RetB (.string ⟨(Lib.itoa z).toArray⟩) w) := by
  have HBD : Hid (Bd z 100000) := hx.inn.bd hn
  have HX := Lib.hid hx
  clear hx
  go_enter Tryz.func61, Tryz.ntmps61
  go_upto_region 1 with (fail)
  refine wp_world (fun W hW => ?_)
  have HB0 : Hid (Below w.heap.size w W) := by rw [hW]; exact below_alloc _ _
  have hbx : Box W (w.heap.size) m ao n cap := by rw [hW]; exact Box.new _ _ _ _ _ _ _ (by simp)
  have c0 := hbx.c0
  have c1 := hbx.c1
  clear hW hbx
  go_wp2_with fail
  refine (zof_any (HX.out.below HB0.out)).mono ?_
  rintro e w1 ⟨rm, r0, rn, rc, rfl, hZ, hB⟩
  have HI : Hid (RTextInv w w1.heap.size rm r0 rn rc z (w1.alloc (.cells #[.bool rm, .slice r0 rn rc] 33))) :=
    ⟨hZ.below (below_alloc _ _), Box.new _ _ _ _ _ _ _ rfl, Below.steps (Below.steps HB0.out hB) (below_alloc _ _)⟩
  have HZL := Lib.hid hZ.sl.len
  have HNZ := Lib.hid hZ.zero
  have HNG := Lib.hid hZ.neg
  have hrn : rn ≤ 1000000 := by
    have h1 := HBD.out.digits
    rw [HZL.out] at h1
    exact h1
  clear hZ hB c0 c1
  have zc0 := HI.out.box.c0
  have zc1 := HI.out.box.c1
  by_cases h0 : rn = 0
  · have hz0 : z = 0 := HNZ.out.1 h0
    subst h0
    have HZ0 := Lib.hid hz0
    clear hz0
    go_wp2_with fail
    go_ret
    exact ⟨by rw [HZ0.out, itoa_zero]; rfl, HI.out.below⟩
  · have e0 : (((rn : Nat) : Int) == 0) = false := by simp; omega
    obtain ⟨b, hb⟩ : ∃ b, b = w1.heap.size := ⟨_, rfl⟩
    go_wp2_with fail
    go_loopg [4, 5] rn (fun g s4 s5 wr => ∃ k : Nat, k ≤ rn ∧ s4 = .string ⟨(lowTxt (Dg.limbs z.natAbs) k).toArray⟩ ∧ s5 = .int .i64 ((k : Nat) : Int) ∧ Hid (rn - k = g) ∧ Hid (RTextInv w w1.heap.size rm r0 rn rc z wr))
    case atStart => exact ⟨0, Nat.zero_le _, rfl, rfl, rfl, HI⟩
    case round =>
      clear HI zc0 zc1
      obtain ⟨k, hk, rfl, rfl, HG, HI⟩ := hrel
      have zc0 := HI.out.box.c0
      have zc1 := HI.out.box.c1
      obtain ⟨t, ht⟩ : ∃ t, t = lowTxt (Dg.limbs z.natAbs) k := ⟨_, rfl⟩
      have htl : t.length ≤ 1000000 := by have := lowTxt_length (Dg.limbs z.natAbs) k; rw [ht]; omega
      rw [← ht]
      by_cases hlt : k < rn
      · have d1 : decide (k < rn) = true := by simpa using hlt
        obtain ⟨g0, off, rfl, hgl, hcell⟩ := HI.out.zd.sl.at (by omega)
        have hdc := hcell k hlt
        have hdl := HI.out.zd.sl.getD_lt k
        have HST := Lib.hid (lowTxt_succ (Dg.limbs z.natAbs) k (by rw [HZL.out]; exact hlt))
        obtain ⟨d, hd⟩ : ∃ d, d = (Dg.limbs z.natAbs).getD k 0 := ⟨_, rfl⟩
        rw [← hd] at hdc hdl HST
        obtain ⟨c, hc⟩ : ∃ c, c = 48 + d := ⟨_, rfl⟩
        rw [← hc] at HST
        have hcb : c < 58 := by omega
        have ic : (48 : Int) + ((d : Nat) : Int) = ((c : Nat) : Int) := by omega
        have hcv := one_byte (w := wr) c (by omega)
        obtain ⟨y, hy⟩ : ∃ y, y = UInt8.ofNat c := ⟨_, rfl⟩
        rw [← hy] at hcv HST
        have hadd : ∀ W : World, (Op.stringOp .add ⟨#[y]⟩ ⟨t.toArray⟩).run Tryz.prog W = .ok (.string ⟨(y :: t).toArray⟩) W := fun W => str_add W [y] t (by simp; omega)
        have HT := Lib.hid ht
        clear hcell hd hc hy ht
        go_wp2_with fail
        have HJ : Hid (RTextInv w w1.heap.size rm (some ⟨g0, off, none⟩) rn rc z (wr.alloc (.cells #[.int .u8 ((c : Nat) : Int)] 5))) :=
          ⟨HI.out.zd.below (below_alloc _ _), HI.out.box.below (below_alloc _ _), Below.steps HI.out.below (below_alloc _ _)⟩
        go_roundg (rn - (k + 1))
        case measure => have h1 := HG.out; rw [← h1]; omega
        case rel => exact ⟨k + 1, hlt, by rw [HST.out, ← HT.out], by go_num, rfl, HJ⟩
      · obtain rfl : k = rn := by omega
        have d1 : decide (k < k) = false := by simp
        have HTX : Hid (t = Lib.decDigits z.natAbs) := by
          show _ = _
          have hz0 : z ≠ 0 := fun e => h0 (HNZ.out.2 e)
          rw [ht]
          exact lowTxt_all HZL.out (by omega)
        have hng := HNG.out
        clear ht
        cases rm
        · have HR : Hid (t = Lib.itoa z) := by
            show _ = _
            have h1 := of_decide_eq_false hng.symm
            rw [itoa_pos' (by omega), HTX.out]
          clear hng
          go_wp2_with fail
          go_ret
          exact ⟨by rw [← HR.out]; rfl, HI.out.below⟩
        · have HR : Hid (45 :: t = Lib.itoa z) := by
            show _ = _
            have h1 := of_decide_eq_true hng.symm
            rw [itoa_neg' h1, HTX.out]
          have hadd : ∀ W : World, (Op.stringOp .add ⟨#[45]⟩ ⟨t.toArray⟩).run Tryz.prog W = .ok (.string ⟨(45 :: t).toArray⟩) W := fun W => str_add W [45] t (by simp; omega)
          clear hng
          go_wp2_with fail
          go_ret
          exact ⟨by rw [← HR.out]; rfl, HI.out.below⟩

end Go.Proofs.YteceomlbnajihaaGreatDoor

/- The contract of porismref05.Parse. -/
namespace Go.Proofs.YteceomlbnajihaaGreatDoor
open Go.RowKit

set_option maxHeartbeats 400000 in
theorem rparse_long (s : ByteArray) (w : World) (hs : 20000 < s.size) :
    Calls Tryz.prog 65 #[.string s] w (RetB (noInt 3) w) := by
  have d1 : decide (20000 < s.size) = true := by simpa using hs
  go_enter Tryz.func65, Tryz.ntmps65
  go_wp2_with fail
  refine bodyPost_ret (v := noInt 3) (by simp [noInt, results, Tryz.results65, go_sem]) rfl ?_
  exact ⟨rfl, below_alloc _ _⟩

/-- what the first byte says -/
theorem minus_is (s : ByteArray) : (s.size = 0 ∧ Lib.hasPrefix s.data.toList [45] = false) ∨ ∃ h : 0 < s.size, (s[0] = 45 ∧ Lib.hasPrefix s.data.toList [45] = true) ∨ (s[0] ≠ 45 ∧ Lib.hasPrefix s.data.toList [45] = false) := by
  rcases Nat.eq_zero_or_pos s.size with h0 | h0
  · left
    rw [Lib.size_eq] at h0
    rw [List.eq_nil_of_length_eq_zero h0]
    exact ⟨by rw [Lib.size_eq, h0], rfl⟩
  · right
    refine ⟨h0, ?_⟩
    have h1 := head_byte s h0
    rcases minus_cases s.data.toList with ⟨r, hr⟩ | ⟨hm, hu⟩
    · left
      rw [hr] at h1 ⊢
      exact ⟨(Option.some.inj h1).symm, (unsign_neg r).1⟩
    · right
      refine ⟨fun e => ?_, hm⟩
      rw [e] at h1
      cases hl : s.data.toList with
      | nil => rw [hl] at h1; cases h1
      | cons c r =>
        rw [hl] at h1 hm
        obtain rfl : c = 45 := Option.some.inj h1
        rw [(unsign_neg r).1] at hm
        cases hm

theorem rest_is (s : ByteArray) (h : Lib.hasPrefix s.data.toList [45] = true) : (s.extract 1 s.size).data.toList = unsign s.data.toList ∧ 0 < s.size := by
  rw [ext_list]
  rcases minus_cases s.data.toList with ⟨r, hr⟩ | ⟨hm, hu⟩
  · have h1 := Lib.size_eq s
    rw [hr] at h1 ⊢
    rw [(unsign_neg r).2]
    simp only [List.drop_succ_cons, List.drop_zero]
    simp at h1
    exact ⟨List.take_of_length_le (by omega), by omega⟩
  · rw [h] at hm; cases hm

/-! the ways -/
set_option maxHeartbeats 1000000 in
theorem rparse_e (s : ByteArray) (w : World) (hs : s.size ≤ 20000) (he : unsign s.data.toList = []) :
    Calls Tryz.prog 65 #[.string s] w (RetB (noInt 4) w) := by
  obtain ⟨m, hm⟩ : ∃ m, m = Lib.hasPrefix s.data.toList [45] := ⟨_, rfl⟩
  have HM := Lib.hid hm
  clear hm
  have HE := Lib.hid he
  clear he
  go_enter Tryz.func65, Tryz.ntmps65
  go_upto_region 4 with (fail)
  refine wp_world (fun W hW => ?_)
  have HX : Hid (Box W w.heap.size false none 0 0) := by rw [hW]; exact Box.new _ _ _ _ _ _ _ rfl
  have HB : Hid (Below w.heap.size w W) := by rw [hW]; exact below_alloc _ _
  clear hW
  go_cut [5] from 14 to 21 (fun s5 wx => W = wx ∧ s5 = .bool m)
  case first =>
    have hmi := minus_is s
    rw [← HM.out] at hmi
    rcases hmi with ⟨h0, rfl⟩ | ⟨h0, ⟨h1, rfl⟩ | ⟨h1, rfl⟩⟩
    · go_wp2_with fail
      go_meet
      exact ⟨rfl, rfl⟩
    · have hb : (((s[0].toNat : Nat) : Int) == 45) = true := by rw [h1]; rfl
      go_wp2_with fail
      go_meet
      exact ⟨rfl, rfl⟩
    · have hb : (((s[0].toNat : Nat) : Int) == 45) = false := by
        have h4 : s[0].toNat ≠ 45 := fun e => h1 (UInt8.toNat_inj.1 e)
        simp; omega
      go_wp2_with fail
      go_meet
      exact ⟨rfl, rfl⟩
  case rest =>
  obtain ⟨rfl, rfl⟩ := hcut
  go_upto_if 22 with (fail)
  go_cut [4] from 23 to 24 (fun s4 wx => W = wx ∧ ∃ u : ByteArray, s4 = .string u ∧ Hid (u.data.toList = unsign s.data.toList))
  case first =>
    cases m
    · have HU : Hid (s.data.toList = unsign s.data.toList) := by
        rcases minus_cases s.data.toList with ⟨r, hr⟩ | ⟨_, hu⟩
        · have h1 := HM.out
          rw [hr, (unsign_neg r).1] at h1
          cases h1
        · exact hu.symm
      go_wp2_with fail
      go_meet
      exact ⟨rfl, s, rfl, HU⟩
    · have hri := rest_is s HM.out.symm
      have HU : Hid ((s.extract 1 s.size).data.toList = unsign s.data.toList) := hri.1
      have h0 : 0 < s.size := hri.2
      have h1 : (1 : Int) ≤ ((s.size : Nat) : Int) := by omega
      clear hri
      go_wp2_with fail
      go_meet
      exact ⟨rfl, _, rfl, HU⟩
  case rest =>
  obtain ⟨rfl, u, rfl, HU⟩ := hcut
  have hul : u.size ≤ 20000 := by
    have h1 := unsign_length s.data.toList
    rw [← HU.out, ← Lib.size_eq, ← Lib.size_eq] at h1
    omega
  have c0 := HX.out.c0
  have c1 := HX.out.c1
  have f0 := HX.out.f0
  have f1 := HX.out.f1
  have hne : u.toList = [] := by rw [ByteArray.toList_eq, HU.out, HE.out]
  go_wp2_with fail
  refine bodyPost_ret (v := noInt 4) (by simp [noInt, results, Tryz.results65, go_sem, c0, c1]) rfl ?_
  exact ⟨rfl, below_set2 HB.out (Nat.le_refl _) _ _⟩

set_option maxHeartbeats 1000000 in
theorem rparse_z (s : ByteArray) (w : World) (hs : s.size ≤ 20000) (he : unsign s.data.toList ≠ []) (h48 : (unsign s.data.toList).head? = some 48) (h1 : s.data.toList ≠ [48]) :
    Calls Tryz.prog 65 #[.string s] w (RetB (noInt 4) w) := by
  obtain ⟨m, hm⟩ : ∃ m, m = Lib.hasPrefix s.data.toList [45] := ⟨_, rfl⟩
  have HM := Lib.hid hm
  clear hm
  have HE := Lib.hid he
  have H4 := Lib.hid h48
  have H1 := Lib.hid h1
  clear he h48 h1
  go_enter Tryz.func65, Tryz.ntmps65
  go_upto_region 4 with (fail)
  refine wp_world (fun W hW => ?_)
  have HX : Hid (Box W w.heap.size false none 0 0) := by rw [hW]; exact Box.new _ _ _ _ _ _ _ rfl
  have HB : Hid (Below w.heap.size w W) := by rw [hW]; exact below_alloc _ _
  clear hW
  go_cut [5] from 14 to 21 (fun s5 wx => W = wx ∧ s5 = .bool m)
  case first =>
    have hmi := minus_is s
    rw [← HM.out] at hmi
    rcases hmi with ⟨h0, rfl⟩ | ⟨h0, ⟨h1, rfl⟩ | ⟨h1, rfl⟩⟩
    · go_wp2_with fail
      go_meet
      exact ⟨rfl, rfl⟩
    · have hb : (((s[0].toNat : Nat) : Int) == 45) = true := by rw [h1]; rfl
      go_wp2_with fail
      go_meet
      exact ⟨rfl, rfl⟩
    · have hb : (((s[0].toNat : Nat) : Int) == 45) = false := by
        have h4 : s[0].toNat ≠ 45 := fun e => h1 (UInt8.toNat_inj.1 e)
        simp; omega
      go_wp2_with fail
      go_meet
      exact ⟨rfl, rfl⟩
  case rest =>
  obtain ⟨rfl, rfl⟩ := hcut
  go_upto_if 22 with (fail)
  go_cut [4] from 23 to 24 (fun s4 wx => W = wx ∧ ∃ u : ByteArray, s4 = .string u ∧ Hid (u.data.toList = unsign s.data.toList))
  case first =>
    cases m
    · have HU : Hid (s.data.toList = unsign s.data.toList) := by
        rcases minus_cases s.data.toList with ⟨r, hr⟩ | ⟨_, hu⟩
        · have h1 := HM.out
          rw [hr, (unsign_neg r).1] at h1
          cases h1
        · exact hu.symm
      go_wp2_with fail
      go_meet
      exact ⟨rfl, s, rfl, HU⟩
    · have hri := rest_is s HM.out.symm
      have HU : Hid ((s.extract 1 s.size).data.toList = unsign s.data.toList) := hri.1
      have h0 : 0 < s.size := hri.2
      have h1 : (1 : Int) ≤ ((s.size : Nat) : Int) := by omega
      clear hri
      go_wp2_with fail
      go_meet
      exact ⟨rfl, _, rfl, HU⟩
  case rest =>
  obtain ⟨rfl, u, rfl, HU⟩ := hcut
  have hul : u.size ≤ 20000 := by
    have h1 := unsign_length s.data.toList
    rw [← HU.out, ← Lib.size_eq, ← Lib.size_eq] at h1
    omega
  have c0 := HX.out.c0
  have c1 := HX.out.c1
  have f0 := HX.out.f0
  have f1 := HX.out.f1
  have hpos : 0 < u.size := by
    rw [Lib.size_eq, HU.out]
    exact List.length_pos_iff.2 HE.out
  have hne : (u.toList == []) = false := by
    rw [ByteArray.toList_eq, HU.out]
    simpa using HE.out
  have hne2 : u.toList.isEmpty = false := by
    rw [ByteArray.toList_eq, HU.out]
    simpa using HE.out
  have hne3 : ¬ u.toList = [] := by
    rw [ByteArray.toList_eq, HU.out]
    exact HE.out
  have hb0 : (((u[0].toNat : Nat) : Int) == 48) = true := by
    have h2 := head_byte u hpos
    rw [HU.out, H4.out] at h2
    rw [← Option.some.inj h2]; rfl
  by_cases h2 : 1 < u.size
  · go_wp2_with fail
    refine bodyPost_ret (v := noInt 4) (by simp [noInt, results, Tryz.results65, go_sem, c0, c1]) rfl ?_
    exact ⟨rfl, below_set2 HB.out (Nat.le_refl _) _ _⟩
  · have hmt : m = true := by
      cases hmm : m with
      | true => rfl
      | false =>
        exfalso
        rw [hmm] at HM
        rcases minus_cases s.data.toList with ⟨r, hr⟩ | ⟨_, hu⟩
        · have h3 := HM.out
          rw [hr, (unsign_neg r).1] at h3
          cases h3
        · refine H1.out ?_
          have h4 := H4.out
          have h5 := HU.out
          rw [hu] at h4 h5
          have h6 : s.data.toList.length = 1 := by rw [← h5, ← Lib.size_eq]; omega
          match hl : s.data.toList, h6 with
          | [c], _ =>
            rw [hl] at h4
            rw [Option.some.inj h4]
    subst hmt
    go_wp2_with fail
    refine bodyPost_ret (v := noInt 4) (by simp [noInt, results, Tryz.results65, go_sem, c0, c1]) rfl ?_
    exact ⟨rfl, below_set2 HB.out (Nat.le_refl _) _ _⟩


/-- What the loop of Parse holds: the digits of the last k bytes. -/
structure RPInv (W : World) (l : List UInt8) (k : Nat) (ao : Option Addr) (cap : Nat) (wr : World) : Prop where
  own : Dg.Own W.heap.size wr ao k cap ((lowDig l).take k)
  below : Below W.heap.size W wr
  digs : allDig (l.drop (l.length - k)) = true

theorem lowDig_length (l : List UInt8) : (lowDig l).length = l.length := by unfold lowDig; simp
theorem lowDig_at (u : ByteArray) (i k : Nat) (hi : i < u.size) (hk : i + 1 + k = u.size) : (lowDig u.data.toList).getD k 0 = u[i].toNat - 48 := by
  unfold lowDig
  have hl := Lib.size_eq u
  have h1 : k < u.data.toList.reverse.length := by simp; omega
  have h2 : u.data.toList.length - 1 - k = i := by omega
  simp only [List.getD, List.getElem?_map, List.getElem?_eq_getElem h1, Option.map_some, Option.getD_some, List.getElem_reverse, h2]
  rfl
theorem drop_byte (u : ByteArray) (i : Nat) (hi : i < u.size) : u.data.toList.drop i = u[i] :: u.data.toList.drop (i + 1) := by
  rw [List.drop_eq_getElem_cons (by simpa using hi)]; rfl

set_option maxHeartbeats 1000000 in
theorem rparse_d (s : ByteArray) (w : World) (hs : s.size ≤ 20000) (he : unsign s.data.toList ≠ []) (h48 : (unsign s.data.toList).head? ≠ some 48) (hd : allDig (unsign s.data.toList) = false) :
    Calls Tryz.prog 65 #[.string s] w (RetB (noInt 4) w) := by
  obtain ⟨m, hm⟩ : ∃ m, m = Lib.hasPrefix s.data.toList [45] := ⟨_, rfl⟩
  have HM := Lib.hid hm
  clear hm
  obtain ⟨i0, hi0, hz0, hz1, hz2⟩ := info_parts Dg.Tryz.info_int
  have HE := Lib.hid he
  have H4 := Lib.hid h48
  have HD := Lib.hid hd
  clear he h48 hd
  go_enter Tryz.func65, Tryz.ntmps65
  go_upto_region 4 with (fail)
  refine wp_world (fun W hW => ?_)
  have HX : Hid (Box W w.heap.size false none 0 0) := by rw [hW]; exact Box.new _ _ _ _ _ _ _ rfl
  have HB : Hid (Below w.heap.size w W) := by rw [hW]; exact below_alloc _ _
  clear hW
  go_cut [5] from 14 to 21 (fun s5 wx => W = wx ∧ s5 = .bool m)
  case first =>
    have hmi := minus_is s
    rw [← HM.out] at hmi
    rcases hmi with ⟨h0, rfl⟩ | ⟨h0, ⟨h1, rfl⟩ | ⟨h1, rfl⟩⟩
    · go_wp2_with fail
      go_meet
      exact ⟨rfl, rfl⟩
    · have hb : (((s[0].toNat : Nat) : Int) == 45) = true := by rw [h1]; rfl
      go_wp2_with fail
      go_meet
      exact ⟨rfl, rfl⟩
    · have hb : (((s[0].toNat : Nat) : Int) == 45) = false := by
        have h4 : s[0].toNat ≠ 45 := fun e => h1 (UInt8.toNat_inj.1 e)
        simp; omega
      go_wp2_with fail
      go_meet
      exact ⟨rfl, rfl⟩
  case rest =>
  obtain ⟨rfl, rfl⟩ := hcut
  go_upto_if 22 with (fail)
  go_cut [4] from 23 to 24 (fun s4 wx => W = wx ∧ ∃ u : ByteArray, s4 = .string u ∧ Hid (u.data.toList = unsign s.data.toList))
  case first =>
    cases m
    · have HU : Hid (s.data.toList = unsign s.data.toList) := by
        rcases minus_cases s.data.toList with ⟨r, hr⟩ | ⟨_, hu⟩
        · have h1 := HM.out
          rw [hr, (unsign_neg r).1] at h1
          cases h1
        · exact hu.symm
      go_wp2_with fail
      go_meet
      exact ⟨rfl, s, rfl, HU⟩
    · have hri := rest_is s HM.out.symm
      have HU : Hid ((s.extract 1 s.size).data.toList = unsign s.data.toList) := hri.1
      have h0 : 0 < s.size := hri.2
      have h1 : (1 : Int) ≤ ((s.size : Nat) : Int) := by omega
      clear hri
      go_wp2_with fail
      go_meet
      exact ⟨rfl, _, rfl, HU⟩
  case rest =>
  obtain ⟨rfl, u, rfl, HU⟩ := hcut
  have hul : u.size ≤ 20000 := by
    have h1 := unsign_length s.data.toList
    rw [← HU.out, ← Lib.size_eq, ← Lib.size_eq] at h1
    omega
  have c0 := HX.out.c0
  have c1 := HX.out.c1
  have f0 := HX.out.f0
  have f1 := HX.out.f1
  have hpos : 0 < u.size := by
    rw [Lib.size_eq, HU.out]
    exact List.length_pos_iff.2 HE.out
  have hne : (u.toList == []) = false := by
    rw [ByteArray.toList_eq, HU.out]
    simpa using HE.out
  have hne2 : u.toList.isEmpty = false := by
    rw [ByteArray.toList_eq, HU.out]
    simpa using HE.out
  have hne3 : ¬ u.toList = [] := by
    rw [ByteArray.toList_eq, HU.out]
    exact HE.out
  have hb0 : (((u[0].toNat : Nat) : Int) == 48) = false := by
    have h2 := head_byte u hpos
    rw [HU.out] at h2
    have h3 : u[0] ≠ 48 := fun e => H4.out (by rw [h2, e])
    have h4 : u[0].toNat ≠ 48 := fun e => h3 (UInt8.toNat_inj.1 e)
    simp; omega
  have HI : Hid (RPInv W u.data.toList 0 none 0 W) := ⟨Dg.Own.nil _ _, Below.refl _ _, by rw [Nat.sub_zero, List.drop_length]; rfl⟩
  have HSZ := Lib.hid (Lib.size_eq u)
  have is : ((u.size : Nat) : Int) - 1 = ((u.size - 0 : Nat) : Int) - 1 := by omega
  clear c0 c1 f0 f1
  go_wp2_with fail
  go_loopg [6, 7] u.size (fun g s6 s7 wr => ∃ (k : Nat) (ao : Option Addr) (cap : Nat), k ≤ u.size ∧ s6 = .slice ao k cap ∧ s7 = .int .i64 (((u.size - k : Nat) : Int) - 1) ∧ Hid (u.size - k = g) ∧ Hid (RPInv W u.data.toList k ao cap wr))
  case atStart => exact ⟨0, none, 0, Nat.zero_le _, rfl, by first | rfl | (rw [← is]) | simp, rfl, HI⟩
  case round =>
    clear HI is
    obtain ⟨k, ao, cap, hk, rfl, rfl, HG, HI⟩ := hrel
    have hbx := HX.out.below HI.out.below
    have c0 := hbx.c0
    have c1 := hbx.c1
    have f0 := hbx.f0
    have f1 := hbx.f1
    have HBX := Lib.hid hbx
    clear hbx
    by_cases hlt : k < u.size
    · obtain ⟨i, hi⟩ : ∃ i, u.size - k = i + 1 := ⟨u.size - k - 1, by omega⟩
      have hiu : i < u.size := by omega
      have hik : i + 1 + k = u.size := by omega
      have ei : ((u.size - k : Nat) : Int) - 1 = ((i : Nat) : Int) := by omega
      rw [ei]
      have HIK := Lib.hid hik
      have HII := Lib.hid hi
      clear ei hi hik
      cases hc : isDig u[i] with
      | true =>
        have h1 := isDig_iff.1 hc
        have h48 : ¬ ((u[i].toNat : Nat) : Int) < 48 := by omega
        have h57 : ¬ (57 : Int) < ((u[i].toNat : Nat) : Int) := by omega
        obtain ⟨q, hq⟩ : ∃ q, q = u[i].toNat - 48 := ⟨_, rfl⟩
        have hql : q < 10 := by omega
        have iq : ((u[i].toNat : Nat) : Int) - 48 = ((q : Nat) : Int) := by omega
        have hsz := HI.out.below.size
        have HO := Lib.hid HI.out.own
        have HQ : Hid ((lowDig u.data.toList).take (k + 1) = (lowDig u.data.toList).take k ++ [q]) := by
          show _ = _
          rw [take_succ_getD _ k (by rw [lowDig_length, ← HSZ.out]; exact hlt), lowDig_at u i k hiu HIK.out, ← hq]
        have HDD : Hid (allDig (u.data.toList.drop (u.data.toList.length - (k + 1))) = true) := by
          show _ = _
          have h2 := HI.out.digs
          have h3 := HIK.out
          have h4 := HSZ.out
          rw [show u.data.toList.length - (k + 1) = i by omega, drop_byte u i hiu, allDig_cons, hc]
          rw [show u.data.toList.length - k = i + 1 by omega] at h2
          rw [h2]; rfl
        clear hc h1 hq c0 c1 f0 f1
        go_wp2_with (at_builtin; refine wpList_push wr wr rfl (.tmp 59) (.tmp 65) 31 rfl W.heap.size 3 i0 (.int .i64 0) 8 Dg.Tryz.underD hi0 hz0 hz1 hz2 rfl _ _ _ _ rfl HO.out.row (.int .i64 ((q : Nat) : Int)) rfl 3 rfl (Below.refl _ _) hsz (by unfold maxLen; omega) (by omega) ?_; intro ao3 cap3 w3 hown3 hB3 hg3)
        have HJ : Hid (RPInv W u.data.toList (k + 1) ao3 cap3 w3) :=
          ⟨by rw [HQ.out]; exact Dg.Own.push q hown3 rfl hql HO.out.wf (by omega), HI.out.below.trans hB3, HDD.out⟩
        clear hown3 hB3 hg3
        go_roundg (u.size - (k + 1))
        case measure => have h1 := HG.out; have h2 := HII.out; omega
        case rel => exact ⟨k + 1, ao3, cap3, hlt, rfl, by congr 1; have h2 := HII.out; omega, rfl, HJ⟩
      | false =>
        have h1 : u[i].toNat < 48 ∨ (¬ u[i].toNat < 48 ∧ 57 < u[i].toNat) := by
          by_cases h2 : u[i].toNat < 48
          · exact .inl h2
          · right
            refine ⟨h2, ?_⟩
            rcases Nat.lt_or_ge 57 u[i].toNat with h3 | h3
            · exact h3
            · rw [isDig_iff.2 ⟨by omega, h3⟩] at hc; cases hc
        clear hc
        rcases h1 with h1 | ⟨h1, h2⟩
        · have h48 : ((u[i].toNat : Nat) : Int) < 48 := by omega
          go_wp2_with fail
          refine bodyPost_ret (v := noInt 4) (by simp [noInt, results, Tryz.results65, go_sem, c0, c1]) rfl ?_
          exact ⟨rfl, below_set2 (HB.out.trans (HI.out.below.mono HB.out.size)) (Nat.le_refl _) _ _⟩
        · have h48 : ¬ ((u[i].toNat : Nat) : Int) < 48 := by omega
          have h57 : (57 : Int) < ((u[i].toNat : Nat) : Int) := by omega
          go_wp2_with fail
          refine bodyPost_ret (v := noInt 4) (by simp [noInt, results, Tryz.results65, go_sem, c0, c1]) rfl ?_
          exact ⟨rfl, below_set2 (HB.out.trans (HI.out.below.mono HB.out.size)) (Nat.le_refl _) _ _⟩
    · obtain rfl : k = u.size := by omega
      exfalso
      have h1 := HI.out.digs
      have h2 := HSZ.out
      rw [← h2, Nat.sub_self, List.drop_zero, HU.out, HD.out] at h1
      cases h1

set_option maxHeartbeats 1000000 in
theorem rparse_oka (s : ByteArray) (w : World) (hs : s.size ≤ 20000) (hn : numB s.data.toList = true) (h48 : (unsign s.data.toList).head? ≠ some 48) :
    Calls Tryz.prog 65 #[.string s] w (NewPE w (numZ s.data.toList) 0) := by
  obtain ⟨m, hm⟩ : ∃ m, m = Lib.hasPrefix s.data.toList [45] := ⟨_, rfl⟩
  have HM := Lib.hid hm
  clear hm
  obtain ⟨i0, hi0, hz0, hz1, hz2⟩ := info_parts Dg.Tryz.info_int
  have h9 := numB_iff.1 hn
  have HE := Lib.hid h9.1
  have HAD := Lib.hid h9.2.1
  have HN := Lib.hid hn
  clear h9 hn
  have H4 := Lib.hid h48
  clear h48
  go_enter Tryz.func65, Tryz.ntmps65
  go_upto_region 4 with (fail)
  refine wp_world (fun W hW => ?_)
  have HX : Hid (Box W w.heap.size false none 0 0) := by rw [hW]; exact Box.new _ _ _ _ _ _ _ rfl
  have HB : Hid (Below w.heap.size w W) := by rw [hW]; exact below_alloc _ _
  clear hW
  go_cut [5] from 14 to 21 (fun s5 wx => W = wx ∧ s5 = .bool m)
  case first =>
    have hmi := minus_is s
    rw [← HM.out] at hmi
    rcases hmi with ⟨h0, rfl⟩ | ⟨h0, ⟨h1, rfl⟩ | ⟨h1, rfl⟩⟩
    · go_wp2_with fail
      go_meet
      exact ⟨rfl, rfl⟩
    · have hb : (((s[0].toNat : Nat) : Int) == 45) = true := by rw [h1]; rfl
      go_wp2_with fail
      go_meet
      exact ⟨rfl, rfl⟩
    · have hb : (((s[0].toNat : Nat) : Int) == 45) = false := by
        have h4 : s[0].toNat ≠ 45 := fun e => h1 (UInt8.toNat_inj.1 e)
        simp; omega
      go_wp2_with fail
      go_meet
      exact ⟨rfl, rfl⟩
  case rest =>
  obtain ⟨rfl, rfl⟩ := hcut
  go_upto_if 22 with (fail)
  go_cut [4] from 23 to 24 (fun s4 wx => W = wx ∧ ∃ u : ByteArray, s4 = .string u ∧ Hid (u.data.toList = unsign s.data.toList))
  case first =>
    cases m
    · have HU : Hid (s.data.toList = unsign s.data.toList) := by
        rcases minus_cases s.data.toList with ⟨r, hr⟩ | ⟨_, hu⟩
        · have h1 := HM.out
          rw [hr, (unsign_neg r).1] at h1
          cases h1
        · exact hu.symm
      go_wp2_with fail
      go_meet
      exact ⟨rfl, s, rfl, HU⟩
    · have hri := rest_is s HM.out.symm
      have HU : Hid ((s.extract 1 s.size).data.toList = unsign s.data.toList) := hri.1
      have h0 : 0 < s.size := hri.2
      have h1 : (1 : Int) ≤ ((s.size : Nat) : Int) := by omega
      clear hri
      go_wp2_with fail
      go_meet
      exact ⟨rfl, _, rfl, HU⟩
  case rest =>
  obtain ⟨rfl, u, rfl, HU⟩ := hcut
  have hul : u.size ≤ 20000 := by
    have h1 := unsign_length s.data.toList
    rw [← HU.out, ← Lib.size_eq, ← Lib.size_eq] at h1
    omega
  have c0 := HX.out.c0
  have c1 := HX.out.c1
  have f0 := HX.out.f0
  have f1 := HX.out.f1
  have hpos : 0 < u.size := by
    rw [Lib.size_eq, HU.out]
    exact List.length_pos_iff.2 HE.out
  have hne : (u.toList == []) = false := by
    rw [ByteArray.toList_eq, HU.out]
    simpa using HE.out
  have hne2 : u.toList.isEmpty = false := by
    rw [ByteArray.toList_eq, HU.out]
    simpa using HE.out
  have hne3 : ¬ u.toList = [] := by
    rw [ByteArray.toList_eq, HU.out]
    exact HE.out
  have hb0 : (((u[0].toNat : Nat) : Int) == 48) = false := by
    have h2 := head_byte u hpos
    rw [HU.out] at h2
    have h3 : u[0] ≠ 48 := fun e => H4.out (by rw [h2, e])
    have h4 : u[0].toNat ≠ 48 := fun e => h3 (UInt8.toNat_inj.1 e)
    simp; omega
  have HI : Hid (RPInv W u.data.toList 0 none 0 W) := ⟨Dg.Own.nil _ _, Below.refl _ _, by rw [Nat.sub_zero, List.drop_length]; rfl⟩
  have HSZ := Lib.hid (Lib.size_eq u)
  have is : ((u.size : Nat) : Int) - 1 = ((u.size - 0 : Nat) : Int) - 1 := by omega
  clear c0 c1 f0 f1
  go_wp2_with fail
  go_loopg [6, 7] u.size (fun g s6 s7 wr => ∃ (k : Nat) (ao : Option Addr) (cap : Nat), k ≤ u.size ∧ s6 = .slice ao k cap ∧ s7 = .int .i64 (((u.size - k : Nat) : Int) - 1) ∧ Hid (u.size - k = g) ∧ Hid (RPInv W u.data.toList k ao cap wr))
  case atStart => exact ⟨0, none, 0, Nat.zero_le _, rfl, by first | rfl | (rw [← is]) | simp, rfl, HI⟩
  case round =>
    clear HI is
    obtain ⟨k, ao, cap, hk, rfl, rfl, HG, HI⟩ := hrel
    have hbx := HX.out.below HI.out.below
    have c0 := hbx.c0
    have c1 := hbx.c1
    have f0 := hbx.f0
    have f1 := hbx.f1
    have HBX := Lib.hid hbx
    clear hbx
    by_cases hlt : k < u.size
    · obtain ⟨i, hi⟩ : ∃ i, u.size - k = i + 1 := ⟨u.size - k - 1, by omega⟩
      have hiu : i < u.size := by omega
      have hik : i + 1 + k = u.size := by omega
      have ei : ((u.size - k : Nat) : Int) - 1 = ((i : Nat) : Int) := by omega
      rw [ei]
      have HIK := Lib.hid hik
      have HII := Lib.hid hi
      clear ei hi hik
      cases hc : isDig u[i] with
      | true =>
        have h1 := isDig_iff.1 hc
        have h48 : ¬ ((u[i].toNat : Nat) : Int) < 48 := by omega
        have h57 : ¬ (57 : Int) < ((u[i].toNat : Nat) : Int) := by omega
        obtain ⟨q, hq⟩ : ∃ q, q = u[i].toNat - 48 := ⟨_, rfl⟩
        have hql : q < 10 := by omega
        have iq : ((u[i].toNat : Nat) : Int) - 48 = ((q : Nat) : Int) := by omega
        have hsz := HI.out.below.size
        have HO := Lib.hid HI.out.own
        have HQ : Hid ((lowDig u.data.toList).take (k + 1) = (lowDig u.data.toList).take k ++ [q]) := by
          show _ = _
          rw [take_succ_getD _ k (by rw [lowDig_length, ← HSZ.out]; exact hlt), lowDig_at u i k hiu HIK.out, ← hq]
        have HDD : Hid (allDig (u.data.toList.drop (u.data.toList.length - (k + 1))) = true) := by
          show _ = _
          have h2 := HI.out.digs
          have h3 := HIK.out
          have h4 := HSZ.out
          rw [show u.data.toList.length - (k + 1) = i by omega, drop_byte u i hiu, allDig_cons, hc]
          rw [show u.data.toList.length - k = i + 1 by omega] at h2
          rw [h2]; rfl
        clear hc h1 hq c0 c1 f0 f1
        go_wp2_with (at_builtin; refine wpList_push wr wr rfl (.tmp 59) (.tmp 65) 31 rfl W.heap.size 3 i0 (.int .i64 0) 8 Dg.Tryz.underD hi0 hz0 hz1 hz2 rfl _ _ _ _ rfl HO.out.row (.int .i64 ((q : Nat) : Int)) rfl 3 rfl (Below.refl _ _) hsz (by unfold maxLen; omega) (by omega) ?_; intro ao3 cap3 w3 hown3 hB3 hg3)
        have HJ : Hid (RPInv W u.data.toList (k + 1) ao3 cap3 w3) :=
          ⟨by rw [HQ.out]; exact Dg.Own.push q hown3 rfl hql HO.out.wf (by omega), HI.out.below.trans hB3, HDD.out⟩
        clear hown3 hB3 hg3
        go_roundg (u.size - (k + 1))
        case measure => have h1 := HG.out; have h2 := HII.out; omega
        case rel => exact ⟨k + 1, ao3, cap3, hlt, rfl, by congr 1; have h2 := HII.out; omega, rfl, HJ⟩
      | false =>
        exfalso
        have h1 := allDig_mem HAD.out u[i] (by rw [← HU.out]; simp [ByteArray.getElem_eq_getElem_data])
        rw [h1] at hc; cases hc
    · obtain rfl : k = u.size := by omega
      have HW2 := Lib.hid (HB.out.trans (HI.out.below.mono HB.out.size))
      have HZX : Hid (Zx wr m ao u.size cap (numZ s.data.toList)) := by
        refine ⟨⟨?_, ?_⟩, by omega⟩
        · rw [HM.out]; exact numB_sign HN.out
        · rw [numZ_abs, ← HU.out]
          have h1 := HI.out.own.sl
          rw [take_all _ u.size (by rw [lowDig_length]; exact HSZ.out.symm), lowDig_limbs (by rw [HU.out]; exact HAD.out) (by rw [HU.out]; exact HE.out) (by rw [HU.out]; exact H4.out)] at h1
          exact h1
      have h48s : (u.toList == [48]) = false := by
        rw [ByteArray.toList_eq, HU.out]
        have h1 : unsign s.data.toList ≠ [48] := fun e => H4.out (by rw [e]; rfl)
        simpa using h1
      clear c0 c1 f0 f1
      have hsz6 : u.size ≤ 1000000 := by omega
      go_wp2_with fail
      refine (zint_any (HZX.out.below (below_alloc _ _))).mono ?_
      rintro e w5 ⟨rm, r0, rn, rc, rfl, hX, hB5⟩
      have hbx := (HBX.out.below (below_alloc _ _)).below hB5
      have c0 := hbx.c0
      have c1 := hbx.c1
      have f0 := hbx.f0
      have f1 := hbx.f1
      have HBY := Lib.hid hbx
      have HX5 := Lib.hid hX
      have HB5 := Lib.hid (Below.steps (Below.steps HW2.out (below_alloc _ _)) hB5)
      clear hbx hX hB5
      go_wp2_with fail
      refine bodyPost_ret (v := .tuple #[.agg #[.bool rm, .slice r0 rn rc], .int .i64 0]) (by simp [results, Tryz.results65, go_sem, c0, c1]) rfl ?_
      exact ⟨_, _, _, _, rfl, HX5.out.set2 HBY.out _ _, below_set2 HB5.out (Nat.le_refl _) _ _⟩

set_option maxHeartbeats 1000000 in
theorem rparse_okb (s : ByteArray) (w : World) (hs : s.size ≤ 20000) (hn : numB s.data.toList = true) (h1 : s.data.toList = [48]) :
    Calls Tryz.prog 65 #[.string s] w (NewPE w (numZ s.data.toList) 0) := by
  obtain ⟨m, hm⟩ : ∃ m, m = Lib.hasPrefix s.data.toList [45] := ⟨_, rfl⟩
  have HM := Lib.hid hm
  clear hm
  obtain ⟨i0, hi0, hz0, hz1, hz2⟩ := info_parts Dg.Tryz.info_int
  have h9 := numB_iff.1 hn
  have HE := Lib.hid h9.1
  have HAD := Lib.hid h9.2.1
  have HN := Lib.hid hn
  clear h9 hn
  have H1 := Lib.hid h1
  clear h1
  go_enter Tryz.func65, Tryz.ntmps65
  go_upto_region 4 with (fail)
  refine wp_world (fun W hW => ?_)
  have HX : Hid (Box W w.heap.size false none 0 0) := by rw [hW]; exact Box.new _ _ _ _ _ _ _ rfl
  have HB : Hid (Below w.heap.size w W) := by rw [hW]; exact below_alloc _ _
  clear hW
  go_cut [5] from 14 to 21 (fun s5 wx => W = wx ∧ s5 = .bool m)
  case first =>
    have hmi := minus_is s
    rw [← HM.out] at hmi
    rcases hmi with ⟨h0, rfl⟩ | ⟨h0, ⟨h1, rfl⟩ | ⟨h1, rfl⟩⟩
    · go_wp2_with fail
      go_meet
      exact ⟨rfl, rfl⟩
    · have hb : (((s[0].toNat : Nat) : Int) == 45) = true := by rw [h1]; rfl
      go_wp2_with fail
      go_meet
      exact ⟨rfl, rfl⟩
    · have hb : (((s[0].toNat : Nat) : Int) == 45) = false := by
        have h4 : s[0].toNat ≠ 45 := fun e => h1 (UInt8.toNat_inj.1 e)
        simp; omega
      go_wp2_with fail
      go_meet
      exact ⟨rfl, rfl⟩
  case rest =>
  obtain ⟨rfl, rfl⟩ := hcut
  go_upto_if 22 with (fail)
  go_cut [4] from 23 to 24 (fun s4 wx => W = wx ∧ ∃ u : ByteArray, s4 = .string u ∧ Hid (u.data.toList = unsign s.data.toList))
  case first =>
    cases m
    · have HU : Hid (s.data.toList = unsign s.data.toList) := by
        rcases minus_cases s.data.toList with ⟨r, hr⟩ | ⟨_, hu⟩
        · have h1 := HM.out
          rw [hr, (unsign_neg r).1] at h1
          cases h1
        · exact hu.symm
      go_wp2_with fail
      go_meet
      exact ⟨rfl, s, rfl, HU⟩
    · have hri := rest_is s HM.out.symm
      have HU : Hid ((s.extract 1 s.size).data.toList = unsign s.data.toList) := hri.1
      have h0 : 0 < s.size := hri.2
      have h1 : (1 : Int) ≤ ((s.size : Nat) : Int) := by omega
      clear hri
      go_wp2_with fail
      go_meet
      exact ⟨rfl, _, rfl, HU⟩
  case rest =>
  obtain ⟨rfl, u, rfl, HU⟩ := hcut
  have hul : u.size ≤ 20000 := by
    have h1 := unsign_length s.data.toList
    rw [← HU.out, ← Lib.size_eq, ← Lib.size_eq] at h1
    omega
  have c0 := HX.out.c0
  have c1 := HX.out.c1
  have f0 := HX.out.f0
  have f1 := HX.out.f1
  have hmf : m = false := by rw [HM.out, H1.out]; rfl
  subst hmf
  have HU4 : Hid (u.data.toList = [48]) := by show _ = _; rw [HU.out, H1.out]; rfl
  have HZ0 : Hid (numZ s.data.toList = 0) := by show _ = _; rw [H1.out]; rfl
  have hpos : 0 < u.size := by
    rw [Lib.size_eq, HU.out]
    exact List.length_pos_iff.2 HE.out
  have hne : (u.toList == []) = false := by
    rw [ByteArray.toList_eq, HU.out]
    simpa using HE.out
  have hne2 : u.toList.isEmpty = false := by
    rw [ByteArray.toList_eq, HU.out]
    simpa using HE.out
  have hne3 : ¬ u.toList = [] := by
    rw [ByteArray.toList_eq, HU.out]
    exact HE.out
  have hu1 : u.size = 1 := by rw [Lib.size_eq, HU4.out]; rfl
  have hb0 : (((u[0].toNat : Nat) : Int) == 48) = true := by
    have h2 := head_byte u hpos
    rw [HU4.out] at h2
    rw [← Option.some.inj h2]; rfl
  have hlt1 : ¬ 1 < u.size := by omega
  clear hu1
  have HI : Hid (RPInv W u.data.toList 0 none 0 W) := ⟨Dg.Own.nil _ _, Below.refl _ _, by rw [Nat.sub_zero, List.drop_length]; rfl⟩
  have HSZ := Lib.hid (Lib.size_eq u)
  have is : ((u.size : Nat) : Int) - 1 = ((u.size - 0 : Nat) : Int) - 1 := by omega
  clear c0 c1 f0 f1
  go_wp2_with fail
  go_loopg [6, 7] u.size (fun g s6 s7 wr => ∃ (k : Nat) (ao : Option Addr) (cap : Nat), k ≤ u.size ∧ s6 = .slice ao k cap ∧ s7 = .int .i64 (((u.size - k : Nat) : Int) - 1) ∧ Hid (u.size - k = g) ∧ Hid (RPInv W u.data.toList k ao cap wr))
  case atStart => exact ⟨0, none, 0, Nat.zero_le _, rfl, by first | rfl | (rw [← is]) | simp, rfl, HI⟩
  case round =>
    clear HI is
    obtain ⟨k, ao, cap, hk, rfl, rfl, HG, HI⟩ := hrel
    have hbx := HX.out.below HI.out.below
    have c0 := hbx.c0
    have c1 := hbx.c1
    have f0 := hbx.f0
    have f1 := hbx.f1
    have HBX := Lib.hid hbx
    clear hbx
    by_cases hlt : k < u.size
    · obtain ⟨i, hi⟩ : ∃ i, u.size - k = i + 1 := ⟨u.size - k - 1, by omega⟩
      have hiu : i < u.size := by omega
      have hik : i + 1 + k = u.size := by omega
      have ei : ((u.size - k : Nat) : Int) - 1 = ((i : Nat) : Int) := by omega
      rw [ei]
      have HIK := Lib.hid hik
      have HII := Lib.hid hi
      clear ei hi hik
      cases hc : isDig u[i] with
      | true =>
        have h1 := isDig_iff.1 hc
        have h48 : ¬ ((u[i].toNat : Nat) : Int) < 48 := by omega
        have h57 : ¬ (57 : Int) < ((u[i].toNat : Nat) : Int) := by omega
        obtain ⟨q, hq⟩ : ∃ q, q = u[i].toNat - 48 := ⟨_, rfl⟩
        have hql : q < 10 := by omega
        have iq : ((u[i].toNat : Nat) : Int) - 48 = ((q : Nat) : Int) := by omega
        have hsz := HI.out.below.size
        have HO := Lib.hid HI.out.own
        have HQ : Hid ((lowDig u.data.toList).take (k + 1) = (lowDig u.data.toList).take k ++ [q]) := by
          show _ = _
          rw [take_succ_getD _ k (by rw [lowDig_length, ← HSZ.out]; exact hlt), lowDig_at u i k hiu HIK.out, ← hq]
        have HDD : Hid (allDig (u.data.toList.drop (u.data.toList.length - (k + 1))) = true) := by
          show _ = _
          have h2 := HI.out.digs
          have h3 := HIK.out
          have h4 := HSZ.out
          rw [show u.data.toList.length - (k + 1) = i by omega, drop_byte u i hiu, allDig_cons, hc]
          rw [show u.data.toList.length - k = i + 1 by omega] at h2
          rw [h2]; rfl
        clear hc h1 hq c0 c1 f0 f1
        go_wp2_with (at_builtin; refine wpList_push wr wr rfl (.tmp 59) (.tmp 65) 31 rfl W.heap.size 3 i0 (.int .i64 0) 8 Dg.Tryz.underD hi0 hz0 hz1 hz2 rfl _ _ _ _ rfl HO.out.row (.int .i64 ((q : Nat) : Int)) rfl 3 rfl (Below.refl _ _) hsz (by unfold maxLen; omega) (by omega) ?_; intro ao3 cap3 w3 hown3 hB3 hg3)
        have HJ : Hid (RPInv W u.data.toList (k + 1) ao3 cap3 w3) :=
          ⟨by rw [HQ.out]; exact Dg.Own.push q hown3 rfl hql HO.out.wf (by omega), HI.out.below.trans hB3, HDD.out⟩
        clear hown3 hB3 hg3
        go_roundg (u.size - (k + 1))
        case measure => have h1 := HG.out; have h2 := HII.out; omega
        case rel => exact ⟨k + 1, ao3, cap3, hlt, rfl, by congr 1; have h2 := HII.out; omega, rfl, HJ⟩
      | false =>
        exfalso
        have h1 := allDig_mem HAD.out u[i] (by rw [← HU.out]; simp [ByteArray.getElem_eq_getElem_data])
        rw [h1] at hc; cases hc
    · obtain rfl : k = u.size := by omega
      have HW2 := Lib.hid (HB.out.trans (HI.out.below.mono HB.out.size))
      have HZX : Hid (Zx wr false none 0 0 (numZ s.data.toList)) := by
        rw [HZ0.out]
        exact ⟨⟨rfl, Dg.Sl.none _⟩, by omega⟩
      have h48s : (u.toList == [48]) = true := by
        rw [ByteArray.toList_eq, HU4.out]; rfl
      clear c0 c1 f0 f1
      have hsz6 : u.size ≤ 1000000 := by omega
      go_wp2_with fail
      refine (zint_any (HZX.out.below (below_alloc _ _))).mono ?_
      rintro e w5 ⟨rm, r0, rn, rc, rfl, hX, hB5⟩
      have hbx := (HBX.out.below (below_alloc _ _)).below hB5
      have c0 := hbx.c0
      have c1 := hbx.c1
      have f0 := hbx.f0
      have f1 := hbx.f1
      have HBY := Lib.hid hbx
      have HX5 := Lib.hid hX
      have HB5 := Lib.hid (Below.steps (Below.steps HW2.out (below_alloc _ _)) hB5)
      clear hbx hX hB5
      go_wp2_with fail
      refine bodyPost_ret (v := .tuple #[.agg #[.bool rm, .slice r0 rn rc], .int .i64 0]) (by simp [results, Tryz.results65, go_sem, c0, c1]) rfl ?_
      exact ⟨_, _, _, _, rfl, HX5.out.set2 HBY.out _ _, below_set2 HB5.out (Nat.le_refl _) _ _⟩


theorem rparse_bad (s : ByteArray) (w : World) (hs : s.size ≤ 20000) (hn : numB s.data.toList = false) :
    Calls Tryz.prog 65 #[.string s] w (RetB (noInt 4) w) := by
  by_cases he : unsign s.data.toList = []
  · exact rparse_e s w hs he
  · by_cases h48 : (unsign s.data.toList).head? = some 48
    · by_cases h1 : s.data.toList = [48]
      · rw [h1] at hn
        exact absurd hn (by decide)
      · exact rparse_z s w hs he h48 h1
    · refine rparse_d s w hs he h48 ?_
      cases ha : allDig (unsign s.data.toList) with
      | false => rfl
      | true =>
        rw [numB_iff.2 ⟨he, ha, .inl h48⟩] at hn
        cases hn

theorem rparse_ok (s : ByteArray) (w : World) (hs : s.size ≤ 20000) (hn : numB s.data.toList = true) :
    Calls Tryz.prog 65 #[.string s] w (NewPE w (numZ s.data.toList) 0) := by
  rcases (numB_iff.1 hn).2.2 with h | h
  · exact rparse_oka s w hs hn h
  · exact rparse_okb s w hs hn h

theorem parse_bad (s : ByteArray) (w : World) (hs : s.size ≤ 20000) (hn : numB s.data.toList = false) :
    Calls Tryz.prog 64 #[.string s] w (RetB (noInt 4) w) := by
  cases hd : digB (unsign s.data.toList) with
  | false => exact parse_bad1 s w hs hd
  | true =>
    have hd2 := hd
    unfold digB at hd2
    rw [Bool.and_eq_true] at hd2
    have he : unsign s.data.toList ≠ [] := of_decide_eq_true hd2.2
    by_cases h48 : (unsign s.data.toList).head? = some 48
    · by_cases h1 : s.data.toList = [48]
      · rw [h1] at hn
        exact absurd hn (by decide)
      · exact parse_bad2 s w hs hd h48 h1
    · rw [numB_iff.2 ⟨he, hd2.1, .inl h48⟩] at hn
      cases hn

end Go.Proofs.YteceomlbnajihaaGreatDoor


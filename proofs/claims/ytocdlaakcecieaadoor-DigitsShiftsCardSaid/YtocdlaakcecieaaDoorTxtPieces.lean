/-
  The contracts of digits.pieceText, of digits.taker and the function that it answers, of digits.piecesOf.
-/
import Derived.Test.YtocdlaakcecieaaDoorTxtLimb
import Derived.Test.YtocdlaakcecieaaDoorTxtLib
import Derived.Test.YtocdlaakcecieaaDoorGMem
import Derived.Deep.Cut
import Derived.Deep.LoopGhost
set_option maxRecDepth 8192
namespace Go.Proofs.YtocdlaakcecieaaDoor
open Go.RowKit

theorem ptext_any (p : Nat) (hp : p < 4294967296) (w : World) (ht : Tab w) :
    Calls Tryd.prog 24 #[.int .u32 (p : Int)] w (RetB (.string ⟨(Lib.decDigits p).toArray⟩) w) := by
  have HT := Lib.hid ht
  clear ht
  go_enter Tryd.func24, Tryd.ntmps24
  go_wp2_with fail
  refine (fmt_any p (by omega) _ HT.out).mono ?_
  rintro e w' ⟨rfl, hB⟩
  go_wp2_with fail
  go_ret
  exact ⟨rfl, hB⟩

/-- A variable that holds a slice, in a block of its own. -/
structure SBox (w : World) (b : Nat) (ao : Option Addr) (n cap : Nat) : Prop where
  lt : b < w.heap.size
  c0 : w.cell? ⟨b, 0, none⟩ = some (.slice ao n cap)
  f0 : w.frozen? ⟨b, 0, none⟩ = false

theorem SBox.below {w w' : World} {b : Nat} {ao : Option Addr} {n cap : Nat} (h : SBox w b ao n cap) (hb : Below w.heap.size w w') : SBox w' b ao n cap :=
  ⟨Nat.lt_of_lt_of_le h.lt hb.size, (hb.cell h.lt).trans h.c0, (hb.frozen h.lt).trans h.f0⟩
theorem SBox.set {w : World} {b : Nat} {ao : Option Addr} {n cap : Nat} (h : SBox w b ao n cap) (ao' : Option Addr) (n' cap' : Nat) : SBox (w.setCell ⟨b, 0, none⟩ (.slice ao' n' cap')) b ao' n' cap' :=
  ⟨by simpa using h.lt, World.cell?_setCell_same _ _ _ h.c0, by simpa using h.f0⟩

/-- Limbs do not lie in such a variable. -/
theorem sl_setBox {w : World} {ao : Option Addr} {n cap : Nat} {xs : List Nat} (h : Sl w ao n cap xs) {b : Nat} {bo : Option Addr} {l cb : Nat} (hb : SBox w b bo l cb) (u : Value) : Sl (w.setCell ⟨b, 0, none⟩ u) ao n cap xs :=
  ⟨h.len, h.le, h.big, h.wf, h.nil, fun ad had t ht => by
    have h0 := h.cells ad had t ht
    rw [World.cell?_setCell_other _ _ _ _ (fun e => by rw [← e, hb.c0] at h0; cases h0)]
    exact h0⟩

/-- what digits.taker leaves: a function bound to a variable that holds the limbs -/
def NewT (w : World) (ao : Option Addr) (n cap : Nat) (e : Ending) (w' : World) : Prop :=
  ∃ b, e = .returned (.func (.func 56) #[] #[.pointer (some ⟨b, 0, none⟩)]) ∧ w.heap.size ≤ b ∧ SBox w' b ao n cap ∧ Below w.heap.size w w'

theorem taker_any (ao : Option Addr) (n cap : Nat) (w : World) : Calls Tryd.prog 42 #[.slice ao n cap] w (NewT w ao n cap) := by
  have hmf : ∀ (fn : Fn) (first cap : Array Value) (w : World), (Instr.makeFunc fn first cap).run Tryd.prog w = .ok (.func fn first cap) w := fun _ _ _ _ => rfl
  go_enter Tryd.func42, Tryd.ntmps42
  go_wp2_with fail
  go_ret
  exact ⟨_, rfl, Nat.le_refl _, ⟨by simp, by simp [go_sem], by simp [go_sem]⟩, below_alloc _ _⟩

/-- what one take leaves: nine digits, whether there are more; the rest in the variable -/
def Took (w : World) (b N : Nat) (e : Ending) (w' : World) : Prop :=
  ∃ (p : Nat) (m : Bool) (ao : Option Addr) (n cap : Nat) (w1 : World), e = .returned (.tuple #[.int .u32 (p : Int), .bool m]) ∧ p = N % 1000000000 ∧ m = decide (0 < N / 1000000000) ∧ Own w.heap.size w1 ao n cap (limbs (N / 1000000000)) ∧ Below w.heap.size w w1 ∧ w' = w1.setCell ⟨b, 0, none⟩ (.slice ao n cap)

theorem limbs_pos_iff {q n : Nat} (h : (limbs q).length = n) : 0 < n ↔ 0 < q := by
  rcases Nat.eq_zero_or_pos q with h0 | h0
  · subst h0
    rw [limbs_zero] at h
    simp at h; omega
  · refine ⟨fun _ => h0, fun _ => ?_⟩
    rcases Nat.eq_zero_or_pos n with h1 | h1
    · rw [h1] at h
      have h2 := val_limbs q
      rw [List.eq_nil_of_length_eq_zero h, val_nil] at h2
      omega
    · exact h1

set_option maxHeartbeats 1000000 in
theorem take_any (b : Nat) (ao : Option Addr) (n cap : Nat) (xs : List Nat) (w : World) (hb : SBox w b ao n cap) (hs : Sl w ao n cap xs) :
    Calls Tryd.prog 56 #[.pointer (some ⟨b, 0, none⟩)] w (Took w b (val xs)) := by
  have HB := Lib.hid hb
  have HS := Lib.hid hs
  have hc0 := hb.c0
  clear hb hs
  go_enter Tryd.func56, Tryd.ntmps56
  go_wp2_with fail
  refine (dlimb_own ao n cap xs 1000000000 _ HS.out (by omega) (by omega)).mono ?_
  rintro e w1 ⟨ao1, n1, cap1, rfl, hO, hB⟩
  have hx := HB.out.below hB
  have hc1 := hx.c0
  have hf1 := hx.f0
  have hn1 := limbs_pos_iff hO.len
  have HO := Lib.hid hO
  have HBB := Lib.hid hB
  have HN : Hid (decide (0 < n1) = decide (0 < val xs / 1000000000)) := by show _ = _; rw [decide_eq_decide]; exact hn1
  obtain ⟨p, hp⟩ : ∃ p, p = val xs % 1000000000 := ⟨_, rfl⟩
  rw [← hp]
  have HP := Lib.hid hp
  clear hO hB hx hn1 hc0 hp
  go_wp2_with fail
  go_ret2
  exact ⟨p, decide (0 < n1), ao1, n1, cap1, w1, by simp, HP.out, HN.out, HO.out, HBB.out, rfl⟩

/-- Memory of other blocks stays: so does what is read there. -/
theorem sl_grown {w w' : World} {ao : Option Addr} {n cap : Nat} {xs : List Nat} {row : Option Nat} (h : Sl w ao n cap xs) (hg : w.grownBy w' row) (hne : ∀ b, (Value.slice ao n cap).ownBlock = some b → row ≠ some b) : Sl w' ao n cap xs :=
  ⟨h.len, h.le, h.big, h.wf, h.nil, fun ad had t ht => by
    refine hg.cell (h.cells ad had t ht) (fun e => ?_)
    subst had
    refine hne ad.block rfl ?_
    rw [← e]
    congr 1
    unfold Addr.add; split <;> rfl⟩

theorem SBox.grown {w w' : World} {b : Nat} {ao : Option Addr} {n cap : Nat} {row : Option Nat} (h : SBox w b ao n cap) (hg : w.grownBy w' row) (hne : row ≠ some b) : SBox w' b ao n cap := by
  refine ⟨Nat.lt_of_lt_of_le h.lt hg.size, hg.cell h.c0 (fun e => hne e.symm), ?_⟩
  rw [World.frozen?_of_block (hg.block b h.lt (fun e => hne e.symm))]
  exact h.f0

/-- What the loop of piecesOf holds: k pieces are taken off N. -/
structure TakeInv (w0 w1 : World) (N b k : Nat) (ao : Option Addr) (n cap : Nat) (bo : Option Addr) (l cb : Nat) (mo : Bool) (wr : World) : Prop where
  own : Own w1.heap.size wr ao n cap (pcs N k)
  box : SBox wr b bo l cb
  low : b < w1.heap.size
  old : w0.heap.size ≤ b
  src : ∃ ys, Sl wr bo l cb ys ∧ val ys = N / 10 ^ (9 * k)
  more : mo = (decide (k = 0) || decide (0 < N / 10 ^ (9 * k)))
  prev : 1 < k → 0 < N / 10 ^ (9 * (k - 1))
  below : Below w0.heap.size w0 wr
  grow : w1.heap.size ≤ wr.heap.size

/-- What a call leaves that answers the pieces of N. -/
def NewP (w : World) (N : Nat) (e : Ending) (w' : World) : Prop :=
  ∃ K ao cap, e = .returned (.slice ao K cap) ∧ 1 ≤ K ∧ N / 10 ^ (9 * K) = 0 ∧ (1 < K → 0 < N / 10 ^ (9 * (K - 1))) ∧ Own w.heap.size w' ao K cap (pcs N K) ∧ Below w.heap.size w w'

theorem more_bound {N M k : Nat} (h : 0 < N / 10 ^ (9 * k)) (hN : N < 10 ^ (9 * M)) : k < M := by
  rcases Nat.lt_or_ge k M with h1 | h1
  · exact h1
  · have h2 : 10 ^ (9 * M) ≤ 10 ^ (9 * k) := Nat.pow_le_pow_right (by omega) (by omega)
    rw [Nat.div_eq_of_lt (by omega)] at h
    omega

/-- One round of the loop. -/
theorem TakeInv.step {w0 w1 wr w2 w3 : World} {N b k n cap l cb n' cap' cap1 : Nat} {ao bo ao' ao1 : Option Addr} (h : TakeInv w0 w1 N b k ao n cap bo l cb true wr)
    (hO : Own wr.heap.size w2 ao' n' cap' (limbs (N / 10 ^ (9 * (k + 1))))) (hB : Below wr.heap.size wr w2) (hk : k < 35184372088831)
    (hp : w3.ownsRow w1.heap.size 39 1 (.slice ao1 (n + 1) cap1) (n + 1) (cellsOf (pcs N k) ++ [.int .u32 ((piece N k : Nat) : Int)]))
    (hb3 : Below w0.heap.size w0 w3) (hg : ((w2.setCell ⟨b, 0, none⟩ (.slice ao' n' cap')).alloc (.cells #[.int .u32 ((piece N k : Nat) : Int)] 39)).grownBy w3 (Value.slice ao n cap).ownBlock) :
    TakeInv w0 w1 N b (k + 1) ao1 (n + 1) cap1 ao' n' cap' (decide (0 < N / 10 ^ (9 * (k + 1)))) w3 := by
  have hn : n = k := by rw [← h.own.len, pcs_length]
  have hx := (h.box.below hB).set ao' n' cap'
  have hx2 : SBox ((w2.setCell ⟨b, 0, none⟩ (.slice ao' n' cap')).alloc (.cells #[.int .u32 ((piece N k : Nat) : Int)] 39)) b ao' n' cap' := hx.below (below_alloc _ _)
  have hs2 : Sl ((w2.setCell ⟨b, 0, none⟩ (.slice ao' n' cap')).alloc (.cells #[.int .u32 ((piece N k : Nat) : Int)] 39)) ao' n' cap' (limbs (N / 10 ^ (9 * (k + 1)))) := (sl_setBox hO.sl (h.box.below hB) _).below (below_alloc _ _)
  have hrow : ∀ g, (Value.slice ao n cap).ownBlock = some g → w1.heap.size ≤ g ∧ g < wr.heap.size := fun g hg => h.own.row.lt g hg
  have hrow2 : ∀ g, (Value.slice ao' n' cap').ownBlock = some g → wr.heap.size ≤ g := fun g hg => (hO.row.lt g hg).1
  refine ⟨?_, hx2.grown hg (fun e => ?_), h.low, h.old, ⟨_, sl_grown hs2 hg (fun g hg1 e => ?_), val_limbs _⟩, ?_, fun hk1 => ?_, hb3, ?_⟩
  · rw [pcs_succ]
    exact push32 (piece N k) hp rfl (by have := piece_lt N k; omega) (pcs_lt N k) (by omega)
  · have := (hrow b e).1; have := h.low; omega
  · have h1 := (hrow g e).2; have h2 := hrow2 g hg1; omega
  · simp
  · have h1 := h.more
    rw [Nat.add_sub_cancel]
    simp at h1
    rcases h1 with h1 | h1
    · omega
    · exact Nat.div_pos h1.2 h1.1
  · have h1 := hg.size
    have h2 := h.grow
    have h3 := hB.size
    simp at h1
    omega

set_option maxHeartbeats 1000000 in
theorem pieces_any (M : Nat) (ao : Option Addr) (n cap : Nat) (xs : List Nat) (w : World) (hs : Sl w ao n cap xs) (hM : val xs < 10 ^ (9 * M)) (hM2 : M ≤ 1000000000) :
    Calls Tryd.prog 23 #[.slice ao n cap] w (NewP w (val xs)) := by
  obtain ⟨i0, hi, hz0, hz1, hz2⟩ := info_parts Tryd.info_u32
  obtain ⟨N, hN⟩ : ∃ N, N = val xs := ⟨_, rfl⟩
  rw [← hN] at hM ⊢
  have HS := Lib.hid hs
  have HN := Lib.hid hN
  have HM := Lib.hid hM
  clear hs hN hM
  go_enter Tryd.func23, Tryd.ntmps23
  go_wp2_with fail
  refine (taker_any ao n cap _).mono ?_
  rintro e w1 ⟨b, rfl, hb1, hb2, hB⟩
  have HI : Hid (TakeInv w w1 N b 0 none 0 0 ao n cap true w1) :=
    ⟨Own.nil _ _, hb2, hb2.lt, hb1, ⟨xs, HS.out.below hB, by rw [← HN.out]; simp⟩, rfl, fun h => by omega, hB, Nat.le_refl _⟩
  clear hb1 hb2 hB
  go_wp2_with fail
  go_loopg [4, 5] (N + 1) (fun g p m wr => ∃ (k : Nat) (po : Option Addr) (pc : Nat) (bo : Option Addr) (l cb : Nat) (mo : Bool), p = .slice po k pc ∧ m = .bool mo ∧ Hid (g = if mo then N / 10 ^ (9 * k) + 1 else 0) ∧ Hid (TakeInv w w1 N b k po k pc bo l cb mo wr))
  case atStart => exact ⟨0, none, 0, ao, n, cap, true, rfl, rfl, by show _ = _; simp, HI⟩
  case round =>
    clear HI
    obtain ⟨k, po, pc, bo, l, cb, mo, rfl, rfl, HG, HI⟩ := hrel
    cases mo
    · have h1 := HI.out.more
      have hk0 : k ≠ 0 := fun e => by simp [e] at h1
      have hz : N / 10 ^ (9 * k) = 0 := by
        rcases Nat.eq_zero_or_pos (N / 10 ^ (9 * k)) with h | h
        · exact h
        · simp [h] at h1
      have HZ := Lib.hid hz
      clear h1 hz
      go_wp2_with fail
      go_ret
      exact ⟨k, _, _, rfl, by omega, HZ.out, HI.out.prev, HI.out.own.mono (Nat.le_trans HI.out.old (Nat.le_of_lt HI.out.low)), HI.out.below⟩
    · have hk : k < 35184372088831 := by
        have h1 := HI.out.more
        rcases Nat.eq_zero_or_pos k with h | h
        · omega
        · have h2 : 0 < N / 10 ^ (9 * k) := by
            have h3 : k ≠ 0 := by omega
            simp only [h3, decide_false, Bool.false_or] at h1
            exact of_decide_eq_true h1.symm
          have := more_bound h2 HM.out
          omega
      obtain ⟨ys, hys, hv⟩ := HI.out.src
      have hT := take_any b bo l cb ys wr HI.out.box hys
      rw [hv] at hT
      have HT : Hid (Calls Tryd.prog 56 #[.pointer (some ⟨b, 0, none⟩)] wr (Took wr b (N / 10 ^ (9 * k)))) := hT
      clear hys hv hT
      go_wp2_with fail
      refine HT.out.mono ?_
      rintro e w4 ⟨q, mo, ao', n', cap', w2, rfl, hq, hmo, hO, hB, hw4⟩
      rw [left_succ] at hO hmo
      have HQ : Hid (q = piece N k) := hq
      have HMO := Lib.hid hmo
      have hql : q < 1000000000 := by rw [hq]; exact Nat.mod_lt _ (by omega)
      clear hq hmo
      have HO := Lib.hid hO
      have HB := Lib.hid hB
      have hx := (HI.out.box.below hB).set ao' n' cap'
      have hbr : b < wr.heap.size := HI.out.box.lt
      have hrow : Hid (w4.ownsRow w1.heap.size 39 1 (.slice po k pc) k (cellsOf (pcs N k))) := by
        rw [hw4]
        exact ownsRow_setCell_other (HI.out.own.below hB).row (fun e => by have := (HI.out.own.row.lt b e).1; have := HI.out.low; omega) _
      have hbl : Hid (Below w.heap.size w w4) := by rw [hw4]; exact (Below.steps HI.out.below hB).setCell HI.out.old _
      have hsz : Hid (w1.heap.size ≤ w4.heap.size) := by rw [hw4]; have h1 := hB.size; have h2 := HI.out.grow; show _ ≤ _; simp; omega
      have HW := Lib.hid hw4
      clear hO hB hx hbr hw4
      go_wp2_with (at_builtin; refine wpList_push w4 w4 rfl (.tmp 15) (.tmp 17) 22 rfl w1.heap.size 39 i0 (.int .u32 0) 4 Tryd.underlying22 hi hz0 hz1 hz2 rfl _ _ _ _ rfl hrow.out _ rfl 39 rfl (Below.refl _ _) hsz.out (by unfold maxLen; omega) (by omega) ?_; intro ao3 cap3 w3 hown3 hB3 hg3)
      have HJ : Hid (TakeInv w w1 N b (k + 1) ao3 (k + 1) cap3 ao' n' cap' mo w3) := by
        rw [HMO.out]
        rw [HQ.out] at hown3 hg3
        rw [HW.out] at hg3
        exact HI.out.step HO.out HB.out hk hown3 (hbl.out.trans (hB3.mono (Nat.le_trans HI.out.old (Nat.le_of_lt HI.out.low)))) hg3
      have hm1 := HI.out.more
      clear hown3 hB3 hg3 HO HB hrow hbl hsz HW
      go_roundg (if mo then N / 10 ^ (9 * (k + 1)) + 1 else 0)
      case measure =>
        have h1 := HG.out
        simp only [if_true] at h1
        rw [h1]
        split
        · have h2 := Nat.div_le_self (N / 10 ^ (9 * k)) 1000000000
          rw [left_succ] at h2
          have h3 : mo = true := ‹_›
          rw [HMO.out] at h3
          have h4 := of_decide_eq_true h3
          have h5 := Nat.div_lt_self (Nat.lt_of_lt_of_le h4 h2) (show 1 < 1000000000 by omega)
          rw [left_succ] at h5
          exact Nat.succ_lt_succ h5
        · exact Nat.succ_pos _
      case rel => exact ⟨k + 1, ao3, cap3, ao', n', cap', mo, rfl, rfl, rfl, HJ⟩

end Go.Proofs.YtocdlaakcecieaaDoor

/-
  The contract of bytes.Repeat, of one byte.
-/
import Derived.Test.YtocdlaakcecieaaDoorTxtRep
import Derived.Test.YtocdlaakcecieaaDoorTxtNum
import Derived.Lib.MakeNoZero
import Derived.Laws.CopyOwn
import Derived.Deep.Cut
import Derived.Deep.DeepCutAuto
import Derived.Deep.LoopGhost
import Derived.Deep.RegionLaw
import Derived.Deep.RegionHeld3
set_option maxRecDepth 8192
namespace Go.Proofs.YtocdlaakcecieaaDoor
open Go.RowKit

theorem Tryd.size_u8 : (Tryd.prog.info? 5).map (·.size) = some 1 := by kernel_rfl

theorem bmul_one (n : Nat) (hn : n < 18446744073709551616) (w : World) :
    Calls Tryd.prog 32 #[.int .u64 1, .int .u64 (n : Int)] w fun e w' => e = .returned (.tuple #[.int .u64 0, .int .u64 (n : Int)]) ∧ w = w' := by
  have h := Any.bits_Mul Tryd.lays212 1 n (by omega) hn w
  rw [Nat.one_mul, Nat.div_eq_of_lt hn, Nat.mod_eq_of_lt hn] at h
  exact h.mono fun _ _ h => ⟨h.1, h.2.symm⟩

/-- A block whose first k cells are the byte c. -/
def Filled (w : World) (g n k : Nat) (c : UInt8) : Prop :=
  ∃ cur : List Value, w.heap[g]? = some (.cells cur.toArray 5 (0, 0)) ∧ n ≤ cur.length ∧ ∀ j, j < k → cur[j]? = some (.int .u8 (c.toNat : Int))

/-- What a call leaves that answers a slice of n times the byte c, in a block of its own. -/
def NewFill (w : World) (n : Nat) (c : UInt8) (e : Ending) (w' : World) : Prop :=
  ∃ g, e = .returned (.slice (some ⟨g, 0, none⟩) n n) ∧ w.heap.size ≤ g ∧ Filled w' g n n c ∧ Below w.heap.size w w'

theorem splice_fill {cur : List Value} {k m : Nat} {c : UInt8} (h : ∀ j, j < k → cur[j]? = some (.int .u8 (c.toNat : Int))) (hk : k + m ≤ cur.length) :
    (splice cur k (List.replicate m (.int .u8 (c.toNat : Int)))).length = cur.length ∧ ∀ j, j < k + m → (splice cur k (List.replicate m (.int .u8 (c.toNat : Int))))[j]? = some (.int .u8 (c.toNat : Int)) := by
  unfold splice
  refine ⟨by simp; omega, fun j hj => ?_⟩
  by_cases h1 : j < k
  · rw [List.getElem?_append_left (by simp; omega), List.getElem?_take_of_lt h1, h j h1]
  · rw [List.getElem?_append_right (by simp; omega), List.length_take, Nat.min_eq_left (by omega), List.getElem?_append_left (by simp; omega), List.getElem?_replicate, if_pos (by omega)]

set_option maxHeartbeats 1000000 in
set_option maxRecDepth 100000 in
theorem brep_any (b o n : Nat) (c : UInt8) (w : World) (hc : w.cell? ⟨b, o, none⟩ = some (.int .u8 (c.toNat : Int))) (h0 : 0 < n) (hn : n ≤ 1000000000000) :
    Calls Tryd.prog 25 #[.slice (some ⟨b, o, none⟩) 1 1, .int .i64 (n : Int)] w (NewFill w n c) := by
  have e0 : (((n : Nat) : Int) == 0) = false := by simp; omega
  have i1 : (0 : Int) < ((n : Nat) : Int) := by omega
  have i2 : ((n : Nat) : Int) ≤ 1000000000000 := by omega
  obtain ⟨cs, hrun, hle, hmax⟩ := Lib.run_makeNoZero (P := Tryd.prog) w #[3] 53 5 Tryd.underlying53 n (by omega)
  have hcall : (callFunc 44 #[.int .i64 ((n : Nat) : Int)]).run Tryd.prog w = .ok (.value (.slice (some ⟨w.heap.size, 0, none⟩) n cs.size)) (w.drew.drew.alloc (.cells cs 5)) := by
    rw [run_callFunc_extern Tryd.func44 (by kernel_rfl) (by kernel_rfl) (by kernel_rfl) (e := Extern.BytealgMakeNoZero.makeNoZero #[3] #[53]) (by kernel_rfl), hrun]
    rfl
  clear hrun
  have HC := Lib.hid hc
  clear hc
  go_enter Tryd.func25, Tryd.ntmps25
  go_upto_if 42 with (first | (go_at_call 32; refine (bmul_one n (by omega) _).mono ?_; rintro e w' ⟨rfl, rfl⟩))
  go_cut [8] (fun s8 wx => w = wx ∧ ∃ m : Nat, 1 ≤ m ∧ m ≤ 1000000000000 ∧ s8 = .int .i64 (m : Int))
  case first =>
    go_wp2
    all_goals (go_meet; first | exact ⟨rfl, n, by omega, by omega, rfl⟩ | exact ⟨rfl, 8192, by omega, by omega, rfl⟩)
  case rest =>
    obtain ⟨rfl, m, hm1, hm2, rfl⟩ := hcut
    have HG : Hid (((w.alloc (.cells cs 5)).drew.drew).heap[w.heap.size]? = some (.cells cs.toList.toArray 5 (0, 0))) := by
      show (w.heap.push _)[w.heap.size]? = _
      rw [Array.getElem?_push_size, Array.toArray_toList]
    have HB : Hid (Below w.heap.size w ((w.alloc (.cells cs 5)).drew.drew)) := (((Below.refl _ _).alloc (Nat.le_refl _) _).drew).drew
    have hblt : b < w.heap.size := World.block_lt_of_cell? w _ HC.out
    have HS : Hid (0 < (List.replicate 1 (Value.int .u8 (c.toNat : Int))).length → some (⟨w.heap.size, 0, none⟩ : Addr) = some ⟨w.heap.size, 0, none⟩ ∧ ∃ ad, some (⟨b, o, none⟩ : Addr) = some ad ∧ ∀ j v, (List.replicate 1 (Value.int .u8 (c.toNat : Int)))[j]? = some v → ((w.alloc (.cells cs 5)).drew.drew).cell? (ad.add j) = some v) := by
      intro _
      refine ⟨rfl, _, rfl, fun j v hv => ?_⟩
      match j, hv with
      | 0, hv =>
        simp at hv
        subst hv
        exact (HB.out.cell (p := ⟨b, o, none⟩) hblt).trans HC.out
      | j + 1, hv => simp at hv
    have HL : Hid (n ≤ cs.toList.length) := by show _; rw [Array.length_toList]; exact hle
    have HN : Hid ((List.replicate 1 (Value.int .u8 (c.toNat : Int))).length = Nat.min 1 n) := by show _; rw [List.length_replicate]; exact (Nat.min_eq_left h0).symm
    have HT := Lib.hid (show 0 + (List.replicate 1 (Value.int .u8 (c.toNat : Int))).length ≤ cs.toList.length by rw [List.length_replicate]; have := HL.out; omega)
    have HO : Hid (∀ v ∈ List.replicate 1 (Value.int .u8 (c.toNat : Int)), v.oneCell' = true) := by intro v hv; rw [(List.mem_replicate.1 hv).2]; rfl
    clear hle hmax hblt
    go_wp2_with ((with_reducible refine wpList_copy_splice rfl (.tmp 58) (.tmp 59) 53 53 rfl 5 rfl Tryd.size_u8 _ _ _ _ _ _ rfl rfl w.heap.size 0 cs.toList 5 HG.out (List.replicate 1 (Value.int .u8 (c.toNat : Int))) HN.out HS.out HT.out HO.out w.heap.size w HB.out (Nat.le_refl _) ?_); intro w4 HG4 hb4)
    have HF : Hid (Filled w4 w.heap.size n 1 c) := by
      have h1 := splice_fill (cur := cs.toList) (k := 0) (m := 1) (c := c) (fun j hj => by omega) (by have := HL.out; omega)
      exact ⟨_, HG4.out, by rw [h1.1]; exact HL.out, fun j hj => h1.2 j (by omega)⟩
    have HB4 := Lib.hid hb4
    clear HG HB HS HL HG4 hb4 hcall HC HN HT HO
    go_loopg [10] (n - 1) (fun g s10 wx => ∃ k : Nat, 1 ≤ k ∧ k ≤ n ∧ s10 = .int .i64 (k : Int) ∧ Hid (n - k = g) ∧ Hid (Filled wx w.heap.size n k c) ∧ Hid (Below w.heap.size w wx))
    case atStart => exact ⟨1, Nat.le_refl _, h0, by simp, rfl, HF, HB4⟩
    case round =>
      clear HF HB4
      obtain ⟨k, hk1, hk2, rfl, HK, HF, HB⟩ := hrel
      by_cases hlt : k < n
      · obtain ⟨q, hq⟩ : ∃ q, q = min k m := ⟨_, rfl⟩
        obtain ⟨r, hr⟩ : ∃ r, r = min q (n - k) := ⟨_, rfl⟩
        obtain ⟨cur, hcur, hcl, hce⟩ := HF.out
        have hq1 : 1 ≤ q ∧ q ≤ k := by omega
        have hqn : ((q : Nat) : Int) ≤ ((n : Nat) : Int) := by omega
        have hr1 : 1 ≤ r ∧ k + r ≤ n ∧ r ≤ q := by omega
        have hmin : min ((k : Nat) : Int) ((m : Nat) : Int) = ((q : Nat) : Int) := by omega
        have hne : ¬ n = k := by omega
        have HC4 := Lib.hid hcur
        have HE := splice_fill (k := k) (m := r) hce (by omega)
        have HE1 : Hid (n ≤ (splice cur k (List.replicate r (.int .u8 (c.toNat : Int)))).length) := Nat.le_trans hcl (Nat.le_of_eq HE.1.symm)
        have HE2 := Lib.hid HE.2
        have HN := Lib.hid (show (List.replicate r (Value.int .u8 (c.toNat : Int))).length = Nat.min q (n - k) by rw [List.length_replicate]; exact hr)
        have HP : Hid (∀ j v, (List.replicate r (Value.int .u8 (c.toNat : Int)))[j]? = some v → wr.cell? ((⟨w.heap.size, 0, none⟩ : Addr).add j) = some v) := by
          intro j v hv
          have hj := (List.getElem?_eq_some_iff.1 hv).1
          rw [List.length_replicate] at hj
          rw [List.getElem?_replicate, if_pos hj] at hv
          cases hv
          rw [Addr.add_lit, Nat.zero_add, Lib.cell_of_heap hcur, List.getElem?_toArray, hce j (by omega)]
        have HT := Lib.hid (show k + (List.replicate r (Value.int .u8 (c.toNat : Int))).length ≤ cur.length by rw [List.length_replicate]; omega)
        have HO : Hid (∀ v ∈ List.replicate r (Value.int .u8 (c.toNat : Int)), v.oneCell' = true) := by intro v hv; rw [(List.mem_replicate.1 hv).2]; rfl
        have HR := Lib.hid hr1
        clear hr hq HE hcur hce hcl hr1 HF
        go_wp2_with fail
        refine wp_region_held_drew (S := fun _ => True) (by kernel_rfl) trivial (fun hH => ?_)
        refine anyH_world (fun w5 hW => ?_)
        have HC5 : Hid (w5.heap[w.heap.size]? = some (.cells cur.toArray 5 (0, 0))) := by rw [hW]; exact HC4.out
        have HB5 : Hid (Below w.heap.size w w5) := by rw [hW]; exact HB.out.drew
        have HP5 : Hid (∀ j v, (List.replicate r (Value.int .u8 (c.toNat : Int)))[j]? = some v → w5.cell? ((⟨w.heap.size, 0, none⟩ : Addr).add j) = some v) := by rw [hW]; exact HP.out
        clear hW HC4 HB HP
        refine step_on 0 rfl (by kernel_rfl) (fun _ _ _ h => h) (by rfl) hH (by intro w hS; go_simp <;> with_reducible rfl) ?_
        try simp only [nrm]
        refine step_on 1 rfl (by kernel_rfl) (fun _ _ _ h => h) (by rfl) hH (by intro w hS; go_simp <;> with_reducible rfl) ?_
        try simp only [nrm]
        refine step_on 2 rfl (by kernel_rfl) (fun _ _ _ h => h) (by rfl) hH (by intro w hS; go_simp <;> with_reducible rfl) ?_
        try simp only [nrm]
        refine step_on 3 rfl (by kernel_rfl) (fun _ _ _ h => h) (by rfl) hH (by intro w hS; go_simp <;> with_reducible rfl) ?_
        try simp only [nrm]
        refine step_on 4 rfl (by kernel_rfl) (fun _ _ _ h => h) (by rfl) hH (by intro w hS; go_simp <;> with_reducible rfl) ?_
        try simp only [nrm]
        refine step_on 5 rfl (by kernel_rfl) (fun _ _ _ h => h) (by rfl) hH (by intro w hS; go_simp <;> with_reducible rfl) ?_
        try simp only [nrm]
        refine step_on 6 rfl (by kernel_rfl) (fun _ _ _ h => h) (by rfl) hH (by intro w hS; go_simp <;> with_reducible rfl) ?_
        try simp only [nrm]
        refine step_one 7 rfl (by kernel_rfl) (fun K hK => ?_)
        refine step_copy_splice rfl (.tmp 70) (.tmp 73) 53 53 rfl 5 Tryd.underlying53 Tryd.size_u8 _ _ _ _ _ _ rfl rfl w.heap.size k cur 5 HC5.out (List.replicate r (Value.int .u8 (c.toNat : Int))) HN.out (fun _ => ⟨rfl, _, rfl, HP5.out⟩) HT.out HO.out w.heap.size w HB5.out (Nat.le_refl _) ?_
        intro w6 HG6 hb6
        refine hK.out _ _ trivial (fun h2 => ?_)
        clear hK K hH
        have hH := h2
        clear h2
        try simp only [nrm]
        have hlr : (List.replicate r (Value.int .u8 (c.toNat : Int))).length = r := List.length_replicate
        rw [hlr]
        have hr2 := HR.out
        have ib : ((k : Nat) : Int) + ((r : Nat) : Int) ≤ 1000000000000 := by omega
        clear hlr hr2
        refine step_on 8 rfl (by kernel_rfl) (fun _ _ _ h => h) (by rfl) hH (by intro w hS; go_simp <;> with_reducible rfl) ?_
        try simp only [nrm]
        refine step_on 9 rfl (by kernel_rfl) (fun _ _ _ h => h) (by rfl) hH (by intro w hS; go_simp <;> with_reducible rfl) ?_
        try simp only [nrm]
        refine wpAnyH_done (by kernel_rfl) ?_ _
        clear hH
        have hr3 := HR.out
        have HF6 : Hid (Filled w6 w.heap.size n (k + r) c) := ⟨_, HG6.out, HE1.out, HE2.out⟩
        have HB6 := Lib.hid hb6
        clear hr3 hb6
        have hwr : IntKind.i64.wrap (((k : Nat) : Int) + ((r : Nat) : Int)) = ((k + r : Nat) : Int) := by rw [IntKind.wrap_i64]; omega
        rw [hwr]
        clear hwr
        go_wp2_with fail
        go_roundg (n - (k + r))
        case measure => have := HR.out; have := HK.out; omega
        case rel => exact ⟨k + r, by have := HR.out; omega, HR.out.2.1, by go_num, rfl, HF6, HB6⟩
      · obtain rfl : k = n := by omega
        go_wp2_with fail
        go_ret
        exact ⟨_, rfl, Nat.le_refl _, HF.out, HB.out⟩

end Go.Proofs.YtocdlaakcecieaaDoor

/-
  The meter's Keep, Refuse, Limits, Fuel, Pieces, Need.
-/
import Derived.Test.YthllkgjgakeinaaMtProg
import Derived.BigQuiet
set_option maxRecDepth 8192
namespace Go.Proofs.Ythllkgjgakeinaa
open Go.RowKit
theorem mfuel_nil {w : World} : Calls Try.prog 20 #[.pointer none] w fun e w' => e = .returned (.int .i64 0) ∧ w = w' := by
  go_enter Try.func20, Try.ntmps20
  go_wp2
  go_ret
  exact ⟨rfl, rfl⟩
theorem mfuel_any {b : Nat} {s : MS} {w : World} (h : Cells w b (mc s)) : Calls Try.prog 20 #[.pointer (some ⟨b, 0, none⟩)] w fun e w' => e = .returned (.int .i64 s.st) ∧ w = w' := by
  have c4 : w.cell? ⟨b, 4, none⟩ = some (.int .i64 s.st) := h.cell 4
  clear h
  go_enter Try.func20, Try.ntmps20
  go_wp2_with fail
  refine (aload_any ⟨b, 4, none⟩ c4).mono ?_
  rintro e w2 ⟨rfl, rfl⟩
  go_wp2_with fail
  go_ret
  exact ⟨rfl, rfl⟩
theorem mpieces_nil {w : World} : Calls Try.prog 21 #[.pointer none] w fun e w' => e = .returned (.int .i64 0) ∧ w = w' := by
  go_enter Try.func21, Try.ntmps21
  go_wp2
  go_ret
  exact ⟨rfl, rfl⟩
theorem mpieces_any {b : Nat} {s : MS} {w : World} (h : Cells w b (mc s)) : Calls Try.prog 21 #[.pointer (some ⟨b, 0, none⟩)] w fun e w' => e = .returned (.int .i64 s.pc) ∧ w = w' := by
  have c4 : w.cell? ⟨b, 5, none⟩ = some (.int .i64 s.pc) := h.cell 5
  clear h
  go_enter Try.func21, Try.ntmps21
  go_wp2_with fail
  refine (aload_any ⟨b, 5, none⟩ c4).mono ?_
  rintro e w2 ⟨rfl, rfl⟩
  go_wp2_with fail
  go_ret
  exact ⟨rfl, rfl⟩
theorem mneed_nil {w : World} : Calls Try.prog 22 #[.pointer none] w (RetB (.agg #[.int .i64 0, .int .i64 0]) w) := by
  go_enter Try.func22, Try.ntmps22
  go_wp2_with fail
  refine bodyPost_ret (v := .agg #[.int .i64 0, .int .i64 0]) (by simp [results, Try.results22, go_sem]) rfl ?_
  exact ⟨rfl, step_alloc (Below.refl _ _)⟩
theorem mneed_any {b : Nat} {s : MS} {w : World} (h : Cells w b (mc s)) : Calls Try.prog 22 #[.pointer (some ⟨b, 0, none⟩)] w (RetB (.agg #[.int .i64 s.wh, .int .i64 s.n]) w) := by
  have hb := h.lt
  have c0 : w.cell? ⟨b, 9, none⟩ = some (.int .i64 s.wh) := h.cell 9
  have c1 : w.cell? ⟨b, 10, none⟩ = some (.int .i64 s.n) := h.cell 10
  clear h
  go_enter Try.func22, Try.ntmps22
  go_wp2_with fail
  refine bodyPost_ret (v := .agg #[.int .i64 s.wh, .int .i64 s.n]) (by simp [results, Try.results22, go_sem]) rfl ?_
  exact ⟨rfl, below_alloc _ _⟩
theorem mlimits_nil {w : World} : Calls Try.prog 11 #[.pointer none] w (RetB (.agg #[.int .i64 0, .int .i64 0, .int .i64 0, .int .i64 0]) w) := by
  go_enter Try.func11, Try.ntmps11
  go_wp2_with fail
  refine bodyPost_ret (v := .agg #[.int .i64 0, .int .i64 0, .int .i64 0, .int .i64 0]) (by simp [results, Try.results11, go_sem]) rfl ?_
  exact ⟨rfl, step_alloc (Below.refl _ _)⟩
theorem mlimits_any {b : Nat} {s : MS} {w : World} (h : Cells w b (mc s)) : Calls Try.prog 11 #[.pointer (some ⟨b, 0, none⟩)] w (RetB (.agg #[.int .i64 s.fu, .int .i64 s.li, .int .i64 s.te, .int .i64 s.pi]) w) := by
  have hb := h.lt
  have c0 : w.cell? ⟨b, 0, none⟩ = some (.int .i64 s.fu) := h.cell 0
  have c1 : w.cell? ⟨b, 1, none⟩ = some (.int .i64 s.li) := h.cell 1
  have c2 : w.cell? ⟨b, 2, none⟩ = some (.int .i64 s.te) := h.cell 2
  have c3 : w.cell? ⟨b, 3, none⟩ = some (.int .i64 s.pi) := h.cell 3
  clear h
  go_enter Try.func11, Try.ntmps11
  go_wp2_with fail
  refine bodyPost_ret (v := .agg #[.int .i64 s.fu, .int .i64 s.li, .int .i64 s.te, .int .i64 s.pi]) (by simp [results, Try.results11, go_sem]) rfl ?_
  exact ⟨rfl, below_alloc _ _⟩
set_option maxHeartbeats 1000000 in
theorem mrefer_nil {e : Int} {w : World} : Calls Try.prog 18 #[.pointer none, .int .i64 e] w fun x w' => x = .returned (.int .i64 e) ∧ w = w' := by
  go_enter Try.func18, Try.ntmps18
  go_wp2
  go_ret
  exact ⟨rfl, rfl⟩
set_option maxHeartbeats 1000000 in
theorem mrefer_any {b : Nat} {s : MS} {e : Int} {w : World} (h : Cells w b (mc s)) : Calls Try.prog 18 #[.pointer (some ⟨b, 0, none⟩), .int .i64 e] w (RetM b (mc (s.refE e)) (.int .i64 e) w) := by
  have HC := Lib.hid h
  clear h
  by_cases he : e = 8
  · subst he
    have HE : Hid (s.refE 8 = s.refuse 8 0) := by rw [Hid, MS.refE, if_pos rfl]
    go_enter Try.func18, Try.ntmps18
    go_wp2_with fail
    refine (mrefuse_any HC.out (by omega)).mono ?_
    rintro e w2 ⟨rfl, hC, hG⟩
    have HR := Lib.hid (And.intro hC hG)
    clear hC hG
    go_wp2_with fail
    go_ret
    rw [HE.out]
    exact ⟨rfl, HR.out⟩
  · have HE : Hid (s.refE e = s) := by rw [Hid, MS.refE, if_neg he]
    have hd : (e == 8) = false := by simpa using he
    clear he
    go_enter Try.func18, Try.ntmps18
    go_wp2_with fail
    go_ret
    rw [HE.out]
    exact ⟨rfl, HC.out, World.grownBy.refl _ _⟩
set_option maxHeartbeats 4000000 in
theorem keepfn_any {cp : Nat} {ao : Option Addr} {n cap : Nat} {ps : List (List Nat)} {w : World} (h : Lp w ao n cap ps) (hc : Cells w cp [.slice ao n cap]) :
    Calls Try.prog 27 #[.pointer (some ⟨cp, 0, none⟩)] w (RetB (.tuple #[.int .i64 (needL ps : Nat), .int .i64 n]) w) := by
  have HP := Lib.hid h
  have HL := Lib.hid h.len
  have HCB := Lib.hid hc
  have hbig := h.big
  have c0 := hc.c1
  clear h hc
  go_enter Try.func27, Try.ntmps27
  go_wp2
  go_loopw [1, 7] (fun m i wr => ∃ k : Nat, m = .int .i64 (needL (ps.take k) : Nat) ∧ i = .int .i64 k ∧ k ≤ n ∧ Hid (Below w.heap.size w wr)) (fun _ i _ => n - (intOf i).toNat)
  case atStart => exact ⟨0, by simp [needL], rfl, Nat.zero_le _, Below.refl _ _⟩
  case round =>
    clear c0
    obtain ⟨k, rfl, rfl, hk, HB⟩ := hrel
    by_cases hkn : k < n
    · obtain ⟨b, off, m, bo, l, c, co, e, cc, rfl, _, hs, hcl⟩ := HP.out.at hkn
      obtain ⟨a0, a1, a2⟩ := hcl wr HB.out
      obtain ⟨x, hx⟩ : ∃ x, x = nl (ps.getD k []) := ⟨_, rfl⟩
      obtain ⟨y, hy⟩ : ∃ y, y = needL (ps.take k) := ⟨_, rfl⟩
      rw [← hy]
      have HX : Hid (needL (ps.take (k + 1)) = max y x) := by rw [Hid, hx, hy]; exact needL_take ps k (by rw [HL.out]; exact hkn)
      have HN : Hid (∀ V, Below w.heap.size w V → Calls Try.prog 28 #[.slice bo l c] V fun e w' => e = .returned (.int .i64 (x : Nat)) ∧ V = w') := fun V hV => mlength_is x bo l c (ps.getD k []) V (hs.below hV) hx.symm
      have hki : (k : Int) < (n : Int) := by omega
      clear hcl hs hx hy
      go_wp2_with fail
      refine (HN.out _ (Below.steps HB.out (below_alloc _ _))).mono ?_
      rintro e w2 ⟨rfl, rfl⟩
      go_wp2_with fail
      go_roundw
      case rel => exact ⟨k + 1, by rw [HX.out]; go_num, by go_num, by omega, Below.steps HB.out (below_alloc _ _)⟩
      case measure => simp [intOf]; omega
    · obtain rfl : k = n := by omega
      have HE : Hid (needL (ps.take k) = needL ps) := by rw [Hid, List.take_of_length_le (by rw [HL.out]; exact Nat.le_refl _)]
      have cE : wr.cell? ⟨cp, 0, none⟩ = some (.slice ao k cap) := (HCB.out.keep (HB.out.block _ HCB.out.lt)).c1
      go_wp2_with fail
      go_quiet (fail)
      go_wp2_with fail
      go_ret2
      rw [HE.out]
      exact ⟨rfl, HB.out.trans (_root_.Go.below_drewN (Below.refl _ _) _)⟩
theorem mkeep_nil {ao : Option Addr} {n cap : Nat} {w : World} : Calls Try.prog 16 #[.pointer none, .slice ao n cap] w (RetB (.int .i64 0) w) := by
  go_enter Try.func16, Try.ntmps16
  go_wp2
  go_ret
  exact ⟨rfl, below_alloc _ _⟩
set_option maxHeartbeats 4000000 in
theorem mkeep_any {b : Nat} {s : MS} {ao : Option Addr} {n cap : Nat} {ps : List (List Nat)} {w : World} (h : Cells w b (mc s)) (hp : Lp w ao n cap ps) :
    Calls Try.prog 16 #[.pointer (some ⟨b, 0, none⟩), .slice ao n cap] w (RetM b (mc (s.keep ps)) (.int .i64 (s.keepE ps)) w) := by
  have hmf : ∀ (fn : Fn) (first cap : Array Value) (w : World), (Instr.makeFunc fn first cap).run Try.prog w = .ok (.func fn first cap) w := fun _ _ _ _ => rfl
  have HC := Lib.hid h
  have HP := Lib.hid hp
  have hlt := h.lt
  obtain ⟨x, hx⟩ : ∃ x, x = needL ps := ⟨_, rfl⟩
  have HX := Lib.hid hx
  have HL := Lib.hid hp.len
  clear h hp hx
  go_enter Try.func16, Try.ntmps16
  go_upto_region 1 with (fail)
  refine wp_world (fun W hW => ?_)
  have H1 : Hid (Below w.heap.size w W ∧ Cells W w.heap.size [.slice ao n cap]) := by rw [hW]; exact ⟨below_alloc _ _, Cells.new _ _ _ _ rfl⟩
  clear hW
  go_wp2_with fail
  refine (keepfn_any (HP.out.below H1.out.1) H1.out.2).mono ?_
  rintro e w2 ⟨rfl, hB⟩
  rw [← HX.out]
  have H2 := Lib.hid (Below.steps H1.out.1 hB)
  clear hB H1
  have C2 := Lib.hid (HC.out.keep (H2.out.block _ hlt))
  obtain ⟨⟨_, m1, m2, _⟩, _⟩ := C2.out.mt
  by_cases hc : s.li < (x : Int)
  · have HE : Hid (s.keep ps = s.refuse 10 (x : Int) ∧ s.keepE ps = 10) := by
      rw [HX.out] at hc ⊢
      exact ⟨by unfold MS.keep; rw [if_pos hc], by unfold MS.keepE; rw [if_pos hc]⟩
    go_wp2_with fail
    refine (mrefuse_any C2.out (by omega)).mono ?_
    rintro e w3 ⟨rfl, hC, hG⟩
    have HR := Lib.hid (And.intro hC (gb_trans (gb_of_below (some b) H2.out) hG))
    clear hC hG C2 m1 m2
    go_wp2_with fail
    go_ret
    rw [HE.out.1, HE.out.2]
    exact ⟨rfl, HR.out⟩
  · have hc' : Hid (¬ s.li < (needL ps : Nat)) := by rw [← HX.out]; exact hc
    by_cases hd : s.te < (n : Int)
    · have HE : Hid (s.keep ps = s.refuse 11 (n : Int) ∧ s.keepE ps = 11) := by
        have e := HL.out
        exact ⟨by unfold MS.keep; rw [if_neg hc'.out, e, if_pos hd], by unfold MS.keepE; rw [if_neg hc'.out, e, if_pos hd]⟩
      go_wp2_with fail
      refine (mrefuse_any C2.out (by omega)).mono ?_
      rintro e w3 ⟨rfl, hC, hG⟩
      have HR := Lib.hid (And.intro hC (gb_trans (gb_of_below (some b) H2.out) hG))
      clear hC hG C2 m1 m2
      go_wp2_with fail
      go_ret
      rw [HE.out.1, HE.out.2]
      exact ⟨rfl, HR.out⟩
    · have HE : Hid (s.keep ps = s ∧ s.keepE ps = 0) := by
        have e := HL.out
        exact ⟨by unfold MS.keep; rw [if_neg hc'.out, e, if_neg hd], by unfold MS.keepE; rw [if_neg hc'.out, e, if_neg hd]⟩
      go_wp2_with fail
      go_ret
      rw [HE.out.1, HE.out.2]
      exact ⟨rfl, C2.out, gb_of_below (some b) H2.out⟩
end Go.Proofs.Ythllkgjgakeinaa
/-
  sync.Once in a meter: what the first refusal would need is kept by it; refuse.
-/
import Derived.Test.YthllkgjgakeinaaMtSync
import Derived.Deep.Cut
import Derived.Deep.RegionHeld3
set_option maxRecDepth 8192
namespace Go.Proofs.Ythllkgjgakeinaa
open Go.RowKit
theorem gb_set (w : World) (b o : Nat) (v : Value) : w.grownBy (w.setCell ⟨b, o, none⟩ v) (some b) :=
  ⟨rfl, rfl, rfl, by simp [World.setCell], fun k _ hne => Below.heap_setCell _ _ _ _ (fun e => hne (by rw [e]))⟩
theorem gb_trans {w v u : World} {r : Option Nat} (h : w.grownBy v r) (k : v.grownBy u r) : w.grownBy u r :=
  ⟨k.os.trans h.os, k.tape.trans h.tape, k.output.trans h.output, Nat.le_trans h.size k.size, fun i hi hne => (k.block i (Nat.lt_of_lt_of_le hi h.size) hne).trans (h.block i hi hne)⟩
theorem gb_of_below {w w1 : World} (r : Option Nat) (h : Below w.heap.size w w1) : w.grownBy w1 r := ⟨h.os, h.tape, h.output, h.size, fun k hk _ => h.block k hk⟩
theorem gb_drew {w v : World} {r : Option Nat} (h : w.grownBy v r) : w.grownBy v.drew r := ⟨h.os, h.tape, h.output, h.size, h.block⟩
theorem gb_cells {w v : World} {b c : Nat} {vs : List Value} (h : w.grownBy v (some b)) (hc : Cells w c vs) (hne : c ≠ b) : Cells v c vs := hc.keep (h.block c hc.lt (by simpa using hne))
theorem gb_below {w v : World} {b B : Nat} (h : w.grownBy v (some b)) (hB : B ≤ b) (hw : B ≤ w.heap.size) : Below B w v := (Below.refl B w).grown h hw (fun k e => by cases e; exact hB)
theorem Cells.mt {w : World} {b : Nat} {s : MS} {d lk u v : Int} (h : Cells w b (mcl s d lk u v)) :
    (w.cell? ⟨b, 0, none⟩ = some (.int .i64 s.fu) ∧ w.cell? ⟨b, 1, none⟩ = some (.int .i64 s.li) ∧ w.cell? ⟨b, 2, none⟩ = some (.int .i64 s.te) ∧ w.cell? ⟨b, 3, none⟩ = some (.int .i64 s.pi)) ∧
    (w.cell? ⟨b, 4, none⟩ = some (.int .i64 s.st) ∧ w.cell? ⟨b, 5, none⟩ = some (.int .i64 s.pc) ∧ w.cell? ⟨b, 6, none⟩ = some (.int .u32 d) ∧ w.cell? ⟨b, 7, none⟩ = some (.int .i32 lk)) ∧
    w.cell? ⟨b, 9, none⟩ = some (.int .i64 u) ∧ w.cell? ⟨b, 10, none⟩ = some (.int .i64 v) :=
  ⟨⟨h.cell 0, h.cell 1, h.cell 2, h.cell 3⟩, ⟨h.cell 4, h.cell 5, h.cell 6, h.cell 7⟩, h.cell 9, h.cell 10⟩
theorem oload_no (a : Addr) {w : World} (hc : w.cell? a = some (.int .u32 0)) :
    Calls Try.prog 37 #[.pointer (some a)] w fun e w' => e = .returned (.bool false) ∧ w = w' := by
  have hl := run_call_load (P := Try.prog) Try.func39 (by kernel_rfl) (by kernel_rfl) (by kernel_rfl) .u32 (by kernel_rfl) hc
  go_enter Try.func37, Try.ntmps37
  go_wp2
  go_ret
  exact ⟨rfl, rfl⟩
theorem oload_yes (a : Addr) {w : World} (hc : w.cell? a = some (.int .u32 1)) :
    Calls Try.prog 37 #[.pointer (some a)] w fun e w' => e = .returned (.bool true) ∧ w = w' := by
  have hl := run_call_load (P := Try.prog) Try.func39 (by kernel_rfl) (by kernel_rfl) (by kernel_rfl) .u32 (by kernel_rfl) hc
  go_enter Try.func37, Try.ntmps37
  go_wp2
  go_ret
  exact ⟨rfl, rfl⟩
theorem ofn_any {b c0 c1 c2 : Nat} {s : MS} {d lk u v e n : Int} {w : World} (h : Cells w b (mcl s d lk u v)) (h0 : Cells w c0 [.pointer (some ⟨b, 0, none⟩)]) (h1 : Cells w c1 [.int .i64 e]) (h2 : Cells w c2 [.int .i64 n]) :
    Calls Try.prog 34 #[.pointer (some ⟨c1, 0, none⟩), .pointer (some ⟨c2, 0, none⟩), .pointer (some ⟨c0, 0, none⟩)] w (RetM b (mcl s d lk e n) (.tuple #[]) w) := by
  obtain ⟨_, _, m9, m10⟩ := h.mt
  have z9 := h.fz 9
  have z10 := h.fz 10
  have k0 := h0.c1
  have k1 := h1.c1
  have k2 := h2.c1
  have HC := Lib.hid h
  clear h h0 h1 h2
  go_enter Try.func34, Try.ntmps34
  go_wp2
  go_end0
  refine ⟨rfl, (HC.out.set 9 _).set 10 _, gb_trans (gb_set _ _ _ _) (gb_set _ _ _ _)⟩
section
variable {b c0 c1 c2 : Nat} {s : MS} {u v e n : Int} {w : World}
set_option maxRecDepth 100000 in
set_option maxHeartbeats 4000000 in
theorem slow_any (h : Cells w b (mcl s 0 0 u v)) (h0 : Cells w c0 [.pointer (some ⟨b, 0, none⟩)]) (h1 : Cells w c1 [.int .i64 e]) (h2 : Cells w c2 [.int .i64 n]) (d0 : c0 ≠ b) (d1 : c1 ≠ b) (d2 : c2 ≠ b) :
    Calls Try.prog 38 #[.pointer (some ⟨b, 6, none⟩), .func (.func 34) #[] #[.pointer (some ⟨c1, 0, none⟩), .pointer (some ⟨c2, 0, none⟩), .pointer (some ⟨c0, 0, none⟩)]] w (RetM b (mcl s 1 0 e n) (.tuple #[]) w) := by
  have m7 : w.cell? ⟨b, 7, none⟩ = some (.int .i32 0) := h.cell 7
  have HC := Lib.hid h
  have H0 := Lib.hid h0
  have H1 := Lib.hid h1
  have H2 := Lib.hid h2
  have z7 := h.fz 7
  clear h h0 h1 h2
  go_enter_defers Try.func38, Try.ntmps38
  go_wp2_with fail
  refine (lock_any ⟨b, 7, none⟩ _ m7 z7).mono ?_
  rintro e1 w1 ⟨rfl, hw⟩
  have C1 : Hid (Cells w1 b (mcl s 0 1 u v)) := by rw [hw]; exact HC.out.set 7 _
  have G1 : Hid (w.grownBy w1 (some b)) := by rw [hw]; exact gb_set _ _ _ _
  clear hw m7 z7
  have m6 : w1.cell? ⟨b, 6, none⟩ = some (.int .u32 0) := C1.out.cell 6
  go_wp2_with fail
  refine (oload_no ⟨b, 6, none⟩ m6).mono ?_
  rintro e2 w2 ⟨rfl, rfl⟩
  go_wp2_with fail
  refine (ofn_any C1.out (gb_cells G1.out H0.out d0) (gb_cells G1.out H1.out d1) (gb_cells G1.out H2.out d2)).mono ?_
  rintro e2 w2 ⟨rfl, hC, hG⟩
  have C2 := Lib.hid hC
  have G2 := Lib.hid (gb_trans G1.out hG)
  clear hC hG m6
  go_wp2_with fail
  refine leaves_cons (f := 42) (args := #[.pointer (some ⟨b, 6, none⟩), .bool true]) (by simp) (by simp [go_sem]) ?_
  refine (ostore_def ⟨b, 6, none⟩ (.int .u32 0) .returning _ (C2.out.cell 6) (C2.out.fz 6)).mono ?_
  rintro e3 u3 w3 ⟨rfl, rfl, hw⟩
  have C3 : Hid (Cells w3 b (mcl s 1 1 e n)) := by rw [hw]; exact (C2.out.keep rfl : Cells w2.drew b _).set 6 _
  have G3 : Hid (w.grownBy w3 (some b)) := by rw [hw]; exact gb_trans (gb_drew G2.out) (gb_set _ _ _ _)
  clear hw C2 G2
  refine leaves_cons (f := 41) (args := #[.pointer (some ⟨b, 7, none⟩)]) (by simp [settle]) (by simp [go_sem]) ?_
  refine (unlock_def ⟨b, 7, none⟩ _ _ (C3.out.cell 7) (C3.out.fz 7)).mono ?_
  rintro e4 u4 w4 ⟨rfl, rfl, hw⟩
  have C4 : Cells w4 b (mcl s 1 0 e n) := by rw [hw]; exact C3.out.set 7 _
  have G4 : w.grownBy w4 (some b) := by rw [hw]; exact gb_trans G3.out (gb_set _ _ _ _)
  clear hw
  have hr : RetM b (mcl s 1 0 e n) (.tuple #[]) w (.returned (.tuple #[])) w4 := ⟨rfl, C4, G4⟩
  simpa [Leaves, settle, results, Try.results38] using hr
set_option maxHeartbeats 1000000 in
theorem do_first (h : Cells w b (mcl s 0 0 u v)) (h0 : Cells w c0 [.pointer (some ⟨b, 0, none⟩)]) (h1 : Cells w c1 [.int .i64 e]) (h2 : Cells w c2 [.int .i64 n]) (d0 : c0 ≠ b) (d1 : c1 ≠ b) (d2 : c2 ≠ b) :
    Calls Try.prog 33 #[.pointer (some ⟨b, 6, none⟩), .func (.func 34) #[] #[.pointer (some ⟨c1, 0, none⟩), .pointer (some ⟨c2, 0, none⟩), .pointer (some ⟨c0, 0, none⟩)]] w (RetM b (mcl s 1 0 e n) (.tuple #[]) w) := by
  have m6 : w.cell? ⟨b, 6, none⟩ = some (.int .u32 0) := h.cell 6
  have HS := Lib.hid (slow_any h h0 h1 h2 d0 d1 d2)
  clear h h0 h1 h2
  go_enter Try.func33, Try.ntmps33
  go_wp2_with fail
  refine (oload_no ⟨b, 6, none⟩ m6).mono ?_
  rintro e2 w2 ⟨rfl, rfl⟩
  clear m6
  go_wp2_with fail
  refine HS.out.mono ?_
  rintro e2 w2 ⟨rfl, hC, hG⟩
  have H2 := Lib.hid (And.intro hC hG)
  clear hC hG
  go_wp2_with fail
  go_end0
  exact ⟨rfl, H2.out.1, H2.out.2⟩
theorem do_done (h : Cells w b (mcl s 1 0 u v)) (f : Value) : Calls Try.prog 33 #[.pointer (some ⟨b, 6, none⟩), f] w fun e w' => e = .returned (.tuple #[]) ∧ w = w' := by
  have m6 : w.cell? ⟨b, 6, none⟩ = some (.int .u32 1) := h.cell 6
  clear h
  go_enter Try.func33, Try.ntmps33
  go_wp2_with fail
  refine (oload_yes ⟨b, 6, none⟩ m6).mono ?_
  rintro e2 w2 ⟨rfl, rfl⟩
  clear m6
  go_wp2_with fail
  go_end0
  exact ⟨rfl, rfl⟩
set_option maxHeartbeats 1000000 in
theorem mrefuse_any (h : Cells w b (mc s)) (he : e ≠ 0) :
    Calls Try.prog 29 #[.pointer (some ⟨b, 0, none⟩), .int .i64 e, .int .i64 n] w (RetM b (mc (s.refuse e n)) (.int .i64 e) w) := by
  have HC := Lib.hid h
  have hb := h.lt
  clear h
  go_enter Try.func29, Try.ntmps29
  go_upto_region 1 with (fail)
  refine wp_world (fun W hW => ?_)
  have k0 := Cells.new w w.heap.size [.pointer (some ⟨b, 0, none⟩)] 27 rfl
  obtain ⟨w1, h1⟩ : ∃ w1, w1 = w.alloc (.cells #[.pointer (some ⟨b, 0, none⟩)] 27) := ⟨_, rfl⟩
  have s1 : w1.heap.size = w.heap.size + 1 := by rw [h1]; simp
  have b1 : Below w.heap.size w w1 := by rw [h1]; exact below_alloc _ _
  rw [show ([Value.pointer (some ⟨b, 0, none⟩)] : List Value).toArray = #[.pointer (some ⟨b, 0, none⟩)] from rfl, ← h1] at k0
  rw [← h1] at hW
  have k1 := Cells.new w1 (w.heap.size + 1) [.int .i64 e] 28 s1.symm
  obtain ⟨w2, h2⟩ : ∃ w2, w2 = w1.alloc (.cells #[.int .i64 e] 28) := ⟨_, rfl⟩
  have s2 : w2.heap.size = w.heap.size + 1 + 1 := by rw [h2]; simp [s1]
  have b2 : Below w1.heap.size w1 w2 := by rw [h2]; exact below_alloc _ _
  rw [show ([Value.int .i64 e] : List Value).toArray = #[.int .i64 e] from rfl, ← h2] at k1
  rw [← h2] at hW
  have k2 := Cells.new w2 (w.heap.size + 1 + 1) [.int .i64 n] 3 s2.symm
  have b3 : Below w2.heap.size w2 W := by rw [hW]; exact below_alloc _ _
  rw [show ([Value.int .i64 n] : List Value).toArray = #[.int .i64 n] from rfl, ← hW] at k2
  have B1 : Below w.heap.size w W := Below.steps (Below.steps b1 b2) b3
  have q0 : Cells W w.heap.size [.pointer (some ⟨b, 0, none⟩)] := k0.keep ((Below.steps b2 b3).block _ (by omega))
  have q1 : Cells W (w.heap.size + 1) [.int .i64 e] := k1.keep (b3.block _ (by omega))
  have G1 : w.grownBy W (some b) := gb_of_below _ B1
  have HQ := Lib.hid (And.intro q0 (And.intro q1 (And.intro k2 (And.intro (HC.out.keep (B1.block _ hb)) G1))))
  have p0 := q0.c1
  have p1 := q1.c1
  clear k0 k1 k2 h1 h2 s1 s2 b1 b2 b3 hW B1 q0 q1 G1 w1 w2 HC
  have hmf : ∀ (fn : Fn) (first cap : Array Value) (w : World), (Instr.makeFunc fn first cap).run Try.prog w = .ok (.func fn first cap) w := fun _ _ _ _ => rfl
  have hne0 : w.heap.size ≠ b := by omega
  have hne1 : w.heap.size + 1 ≠ b := by omega
  have hne2 : w.heap.size + 1 + 1 ≠ b := by omega
  by_cases h0 : s.wh = 0
  · have e1 : mc s = mcl s 0 0 s.wh s.n := by unfold mc; rw [if_pos h0]
    have e2 : mc (s.refuse e n) = mcl s 1 0 e n := by
      unfold mc MS.refuse mcl
      simp [h0, he]
    rw [e1] at HQ
    have HE := Lib.hid e2
    clear e1 e2
    go_wp2_with fail
    refine (do_first HQ.out.2.2.2.1 HQ.out.1 HQ.out.2.1 HQ.out.2.2.1 hne0 hne1 hne2).mono ?_
    rintro e2 w2 ⟨rfl, hC, hG⟩
    have p1 := (gb_cells hG HQ.out.2.1 hne1).c1
    have HR := Lib.hid (And.intro hC (gb_trans HQ.out.2.2.2.2 hG))
    clear hC hG HQ p0
    go_wp2_with fail
    go_ret
    rw [HE.out]
    exact ⟨rfl, HR.out.1, HR.out.2⟩
  · have e1 : mc s = mcl s 1 0 s.wh s.n := by unfold mc; rw [if_neg h0]
    have e2 : s.refuse e n = s := by unfold MS.refuse; rw [if_neg h0, if_neg h0]
    rw [e1] at HQ
    have HE := Lib.hid (And.intro e1 e2)
    clear e1 e2
    go_wp2_with fail
    refine (do_done HQ.out.2.2.2.1 _).mono ?_
    rintro e2 w2 ⟨rfl, rfl⟩
    have HR := Lib.hid (And.intro HQ.out.2.2.2.1 HQ.out.2.2.2.2)
    clear HQ p0
    go_wp2_with fail
    go_ret
    rw [HE.out.2, HE.out.1]
    exact ⟨rfl, HR.out.1, HR.out.2⟩
end
end Go.Proofs.Ythllkgjgakeinaa
/-
  What the laws of layer 4 share: porismlaw04.great and porismlaw04.own.
-/
import Derived.Test.YtponiigpmjnffaaWInt
import Derived.Test.YtponiigpmjnffaaGMem
import Derived.Deep.Cut
import Derived.LoopN
import Derived.Laws.AppendOwnNone
set_option maxRecDepth 8192
namespace Go.Proofs.Ytponiigpmjnffaa
open Go.RowKit

set_option maxHeartbeats 2000000 in
theorem great2_no (m0 m1 : Bool) (a0 a1 : Option Addr) (n0 c0 n1 c1 : Nat) (w : World) (h0 : n0 ≤ 25) (h1 : n1 ≤ 25) :
    Calls Try.prog 9 #[.slice (some ⟨w.heap.size, 0, none⟩) 2 2] (w.alloc (.cells #[.bool m0, .slice a0 n0 c0, .bool m1, .slice a1 n1 c1] 24)) (RetB (.bool false) (w.alloc (.cells #[.bool m0, .slice a0 n0 c0, .bool m1, .slice a1 n1 c1] 24))) := by
  have d0 : decide (25 < n0) = false := by simp; omega
  have d1 : decide (25 < n1) = false := by simp; omega
  go_enter Try.func9, Try.ntmps9
  go_wp2_with fail
  refine wp_loop_rounds 3 ?_
  rw [rounds_succ]
  go_wp2_with fail
  rw [rounds_succ]
  go_wp2_with fail
  rw [rounds_succ]
  go_wp2_with fail
  go_ret
  exact ⟨rfl, ((Below.refl _ _).alloc (by simp) _).alloc (by simp) _⟩

set_option maxHeartbeats 2000000 in
theorem great2_yes0 (m0 m1 : Bool) (a0 a1 : Option Addr) (n0 c0 n1 c1 : Nat) (w : World) (h0 : 25 < n0) :
    Calls Try.prog 9 #[.slice (some ⟨w.heap.size, 0, none⟩) 2 2] (w.alloc (.cells #[.bool m0, .slice a0 n0 c0, .bool m1, .slice a1 n1 c1] 24)) (RetB (.bool true) (w.alloc (.cells #[.bool m0, .slice a0 n0 c0, .bool m1, .slice a1 n1 c1] 24))) := by
  have d0 : decide (25 < n0) = true := by simpa using h0
  go_enter Try.func9, Try.ntmps9
  go_wp2_with fail
  refine wp_loop_rounds 3 ?_
  rw [rounds_succ]
  go_wp2_with fail
  go_ret
  exact ⟨rfl, (Below.refl _ _).alloc (by simp) _⟩

set_option maxHeartbeats 2000000 in
theorem great2_yes1 (m0 m1 : Bool) (a0 a1 : Option Addr) (n0 c0 n1 c1 : Nat) (w : World) (h0 : n0 ≤ 25) (h1 : 25 < n1) :
    Calls Try.prog 9 #[.slice (some ⟨w.heap.size, 0, none⟩) 2 2] (w.alloc (.cells #[.bool m0, .slice a0 n0 c0, .bool m1, .slice a1 n1 c1] 24)) (RetB (.bool true) (w.alloc (.cells #[.bool m0, .slice a0 n0 c0, .bool m1, .slice a1 n1 c1] 24))) := by
  have d0 : decide (25 < n0) = false := by simp; omega
  have d1 : decide (25 < n1) = true := by simpa using h1
  go_enter Try.func9, Try.ntmps9
  go_wp2_with fail
  refine wp_loop_rounds 3 ?_
  rw [rounds_succ]
  go_wp2_with fail
  rw [rounds_succ]
  go_wp2_with fail
  go_ret
  exact ⟨rfl, ((Below.refl _ _).alloc (by simp) _).alloc (by simp) _⟩

set_option maxHeartbeats 2000000 in
theorem great3_no (m0 m1 m2 : Bool) (a0 a1 a2 : Option Addr) (n0 c0 n1 c1 n2 c2 : Nat) (w : World) (h0 : n0 ≤ 25) (h1 : n1 ≤ 25) (h2 : n2 ≤ 25) :
    Calls Try.prog 9 #[.slice (some ⟨w.heap.size, 0, none⟩) 3 3] (w.alloc (.cells #[.bool m0, .slice a0 n0 c0, .bool m1, .slice a1 n1 c1, .bool m2, .slice a2 n2 c2] 24)) (RetB (.bool false) (w.alloc (.cells #[.bool m0, .slice a0 n0 c0, .bool m1, .slice a1 n1 c1, .bool m2, .slice a2 n2 c2] 24))) := by
  have d0 : decide (25 < n0) = false := by simp; omega
  have d1 : decide (25 < n1) = false := by simp; omega
  have d2 : decide (25 < n2) = false := by simp; omega
  go_enter Try.func9, Try.ntmps9
  go_wp2_with fail
  refine wp_loop_rounds 4 ?_
  rw [rounds_succ]
  go_wp2_with fail
  rw [rounds_succ]
  go_wp2_with fail
  rw [rounds_succ]
  go_wp2_with fail
  rw [rounds_succ]
  go_wp2_with fail
  go_ret
  exact ⟨rfl, (((Below.refl _ _).alloc (by simp) _).alloc (by simp) _).alloc (by simp) _⟩

set_option maxHeartbeats 2000000 in
theorem great3_yes0 (m0 m1 m2 : Bool) (a0 a1 a2 : Option Addr) (n0 c0 n1 c1 n2 c2 : Nat) (w : World) (h0 : 25 < n0) :
    Calls Try.prog 9 #[.slice (some ⟨w.heap.size, 0, none⟩) 3 3] (w.alloc (.cells #[.bool m0, .slice a0 n0 c0, .bool m1, .slice a1 n1 c1, .bool m2, .slice a2 n2 c2] 24)) (RetB (.bool true) (w.alloc (.cells #[.bool m0, .slice a0 n0 c0, .bool m1, .slice a1 n1 c1, .bool m2, .slice a2 n2 c2] 24))) := by
  have d0 : decide (25 < n0) = true := by simpa using h0
  go_enter Try.func9, Try.ntmps9
  go_wp2_with fail
  refine wp_loop_rounds 4 ?_
  rw [rounds_succ]
  go_wp2_with fail
  go_ret
  exact ⟨rfl, (Below.refl _ _).alloc (by simp) _⟩

set_option maxHeartbeats 2000000 in
theorem great3_yes1 (m0 m1 m2 : Bool) (a0 a1 a2 : Option Addr) (n0 c0 n1 c1 n2 c2 : Nat) (w : World) (h0 : n0 ≤ 25) (h1 : 25 < n1) :
    Calls Try.prog 9 #[.slice (some ⟨w.heap.size, 0, none⟩) 3 3] (w.alloc (.cells #[.bool m0, .slice a0 n0 c0, .bool m1, .slice a1 n1 c1, .bool m2, .slice a2 n2 c2] 24)) (RetB (.bool true) (w.alloc (.cells #[.bool m0, .slice a0 n0 c0, .bool m1, .slice a1 n1 c1, .bool m2, .slice a2 n2 c2] 24))) := by
  have d0 : decide (25 < n0) = false := by simp; omega
  have d1 : decide (25 < n1) = true := by simpa using h1
  go_enter Try.func9, Try.ntmps9
  go_wp2_with fail
  refine wp_loop_rounds 4 ?_
  rw [rounds_succ]
  go_wp2_with fail
  rw [rounds_succ]
  go_wp2_with fail
  go_ret
  exact ⟨rfl, ((Below.refl _ _).alloc (by simp) _).alloc (by simp) _⟩

set_option maxHeartbeats 2000000 in
theorem great3_yes2 (m0 m1 m2 : Bool) (a0 a1 a2 : Option Addr) (n0 c0 n1 c1 n2 c2 : Nat) (w : World) (h0 : n0 ≤ 25) (h1 : n1 ≤ 25) (h2 : 25 < n2) :
    Calls Try.prog 9 #[.slice (some ⟨w.heap.size, 0, none⟩) 3 3] (w.alloc (.cells #[.bool m0, .slice a0 n0 c0, .bool m1, .slice a1 n1 c1, .bool m2, .slice a2 n2 c2] 24)) (RetB (.bool true) (w.alloc (.cells #[.bool m0, .slice a0 n0 c0, .bool m1, .slice a1 n1 c1, .bool m2, .slice a2 n2 c2] 24))) := by
  have d0 : decide (25 < n0) = false := by simp; omega
  have d1 : decide (25 < n1) = false := by simp; omega
  have d2 : decide (25 < n2) = true := by simpa using h2
  go_enter Try.func9, Try.ntmps9
  go_wp2_with fail
  refine wp_loop_rounds 4 ?_
  rw [rounds_succ]
  go_wp2_with fail
  rw [rounds_succ]
  go_wp2_with fail
  rw [rounds_succ]
  go_wp2_with fail
  go_ret
  exact ⟨rfl, (((Below.refl _ _).alloc (by simp) _).alloc (by simp) _).alloc (by simp) _⟩

/-- 'append([]uint32{}, a...)' as a step of a region that draws its order. -/
theorem step_dup {P : Program} (w : World) {ops : Array Oper} {o : Oper} {a : Act} {K : Act → World → Prop} {Q : Exit → Act → World → Prop} {E : Prop}
    (hg : o.guard = none) (s x : Operand) (t : TypeId) (hop : o.op = Op.call { callee := Callee.builtin Builtin.append, args := #[s, x], argTypes := #[t, t] })
    (i : TypeInfo) (z : Value) (h1 : P.underlying t = some (.slice 76)) (h2 : P.info? 76 = some i) (h3 : i.zero = some z) (h4 : i.size = 1) (h5 : i.bytes = 4) (h6 : z.cells.size = 1)
    (hs : a.eval s = .slice (some ⟨w.heap.size, 0, none⟩) 0 0) (ao : Option Addr) (n cap : Nat) (xs : List Nat) (hx : a.eval x = .slice ao n cap) (hS : Sl w ao n cap xs)
    (hK : ∀ ao' cap' w', Own w.heap.size w' ao' n cap' xs → Below w.heap.size w w' → K (a.put o.dst (.slice ao' n cap')) w') :
    if Region.wanted o (yielded ops a.tmps) = true then Oper.wp P o a (w.alloc (.cells #[] 76)) K Q else E := by
  have hw : Region.wanted o (yielded ops a.tmps) = true := by simp [Region.wanted, hg]
  rw [if_pos hw]
  have hown0 : (w.alloc (.cells #[] 76)).ownsRow w.heap.size 76 1 (.slice (some ⟨w.heap.size, 0, none⟩) 0 0) 0 [] :=
    World.ownsRow_made w #[] 0 (Nat.le_refl _) (Nat.zero_le _) rfl
  have hbb : Below w.heap.size w (w.alloc (.cells #[] 76)) := (Below.refl _ _).alloc (Nat.le_refl _) _
  have hSa := hS.below hbb
  cases ao with
  | none =>
    have hn : n = 0 := by have := hS.nil rfl; have := hS.le; omega
    have hc : cap = 0 := hS.nil rfl
    subst hn; subst hc
    have hxs : xs = [] := List.eq_nil_of_length_eq_zero hS.len
    subst hxs
    have hrun := run_append_owned_none (P := P) (w.alloc (.cells #[] 76)) w.heap.size t o.type 76 i 1 h1 h2 _ 0 [] hown0
    unfold Oper.wp
    simp [execOp, hop, resolve, invoke, builtin, hs, hx, hrun, Result.andThen]
    exact hK _ _ _ ⟨by simpa [cellsOf] using hown0, Nat.zero_le _, fun _ h => by cases h⟩ hbb
  | some ad =>
    refine wp_append_own _ s x t hop w.heap.size 76 i z 1 4 h1 h2 h3 h4 h5 h6 (by decide) _ 0 [] hs hown0 ad n cap (cellsOf xs) hx (by rw [cellsOf_length, hS.len, Nat.mul_one]) ?_ (cellsOf_one xs) (by have := hS.big; unfold maxLen; omega) (by have := hS.big; omega) (by simp) ?_
    · intro j u hj
      have hjl : j < n := by have := (List.getElem?_eq_some_iff.1 hj).1; rwa [cellsOf_length, hS.len] at this
      rw [hSa.cells ad rfl j hjl, ← hj, cellsOf_get xs j (by rw [hS.len]; exact hjl)]
    · intro v' w' hown' hgrow _
      have hsh : ∃ ao' cap', v' = .slice ao' (0 + n) cap' := by
        rcases hown'.2 with ⟨hv, h0⟩ | ⟨g, cap, cur, hv, _⟩
        · exact ⟨none, 0, by rw [hv, h0]⟩
        · exact ⟨_, _, hv⟩
      obtain ⟨ao', cap', rfl⟩ := hsh
      rw [Nat.zero_add] at hown' ⊢
      refine hK ao' cap' w' ⟨by simpa using hown', hS.big, hS.wf⟩ (hbb.grown hgrow (by simp) fun k hk => ?_)
      simp [Value.ownBlock] at hk; omega

/-- What porismlaw04.own leaves: the same sign, the same limbs, in memory of their own. -/
def NewOwn (w : World) (m : Bool) (xs : List Nat) (n : Nat) (e : Ending) (w' : World) : Prop :=
  ∃ ao cap, e = .returned (.agg #[.bool m, .slice ao n cap]) ∧ Sl w' ao n cap xs ∧ Below w.heap.size w w'

set_option maxHeartbeats 4000000 in
theorem own_any {m : Bool} {ao : Option Addr} {n cap : Nat} {xs : List Nat} {w : World} (hs : Sl w ao n cap xs) :
    Calls Try.prog 11 #[.agg #[.bool m, .slice ao n cap]] w (NewOwn w m xs n) := by
  obtain ⟨i0, hi, hz0, hz1, hz2⟩ := info_parts Try.info_u32
  go_enter Try.func11, Try.ntmps11
  go_upto_region 1 with (fail)
  refine wp_world (fun W hW => ?_)
  have HB0 : Hid (Below w.heap.size w W) := by rw [hW]; exact step_alloc (below_alloc _ _)
  have hbx_bx : Box W (w.heap.size) m ao n cap := by rw [hW]; exact (Box.new _ _ _ _ _ _ _ (by simp)).below (below_alloc _ _)
  have hbx_br : Box W (w.heap.size + 1) false none 0 0 := by rw [hW]; exact Box.new _ _ _ _ _ _ _ (by simp)
  have HK0 := Lib.hid (Live.add_sl (hs.below HB0.out) (Live.add_box hbx_bx (Live.add_box hbx_br (Live.nil W))))
  clear hW hbx_bx hbx_br
  have bx_c0 := HK0.out.tail.box.c0
  have bx_c1 := HK0.out.tail.box.c1
  have bx_f0 := HK0.out.tail.box.f0
  have bx_f1 := HK0.out.tail.box.f1
  have br_c0 := HK0.out.tail.tail.box.c0
  have br_c1 := HK0.out.tail.tail.box.c1
  have br_f0 := HK0.out.tail.tail.box.f0
  have br_f1 := HK0.out.tail.tail.box.f1
  have HK0d := Lib.hid (HK0.out.below ((Below.refl _ _).drew))
  have HB0d := Lib.hid HB0.out.drew
  clear bx_c0 bx_c1 bx_f0 bx_f1 br_c0 br_c1 br_f0 br_f1
  clear HK0 HB0
  have HK0 := Lib.hid HK0d.out
  have HB0 := Lib.hid HB0d.out
  clear HK0d HB0d
  have bx_c0 := HK0.out.tail.box.c0
  have bx_c1 := HK0.out.tail.box.c1
  have bx_f0 := HK0.out.tail.box.f0
  have bx_f1 := HK0.out.tail.box.f1
  have br_c0 := HK0.out.tail.tail.box.c0
  have br_c1 := HK0.out.tail.tail.box.c1
  have br_f0 := HK0.out.tail.tail.box.f0
  have br_f1 := HK0.out.tail.tail.box.f1
  refine wp_region_held_drew (S := fun w' => w'.cell? ⟨w.heap.size, 0, none⟩ = some (.bool m) ∧ w'.cell? ⟨w.heap.size, 1, none⟩ = some (.slice ao n cap)) (by kernel_rfl) (And.intro HK0.out.tail.box.c0 (HK0.out.tail.box.c1)) (fun hHeld => ?_)
  refine step_on 0 rfl (by kernel_rfl) (fun _ _ _ h => h) (by rfl) hHeld (by intro w hSw; first | (go_simp; done) | (go_simp; with_reducible rfl)) ?_
  try simp only [Act.put, List.setIfInBounds_toArray, List.set_cons_zero, List.set_cons_succ]
  refine step_on 1 rfl (by kernel_rfl) (fun _ _ _ h => h) (by rfl) hHeld (by intro w hSw; first | (go_simp; done) | (go_simp; with_reducible rfl)) ?_
  try simp only [Act.put, List.setIfInBounds_toArray, List.set_cons_zero, List.set_cons_succ]
  refine step_on 3 rfl (by kernel_rfl) (fun _ _ _ h => h) (by rfl) hHeld (by intro w hSw; first | (go_simp; done) | (go_simp; with_reducible rfl)) ?_
  try simp only [Act.put, List.setIfInBounds_toArray, List.set_cons_zero, List.set_cons_succ]
  refine step_on 4 rfl (by kernel_rfl) (fun _ _ _ h => h) (by rfl) hHeld (by intro w hSw; first | (go_simp; done) | (go_simp; with_reducible rfl)) ?_
  try simp only [Act.put, List.setIfInBounds_toArray, List.set_cons_zero, List.set_cons_succ]
  refine step_one 2 rfl (by kernel_rfl) (fun K hK => ?_)
  go_simp
  have HK1 := Lib.hid (HK0.out.below (below_alloc _ (.cells #[] 76)))
  refine hK.out _ _ (And.intro HK1.out.tail.box.c0 HK1.out.tail.box.c1) (fun hHeld2 => ?_)
  clear hK K hHeld
  have hHeld := hHeld2
  clear hHeld2
  try simp only [Act.put, List.setIfInBounds_toArray, List.set_cons_zero, List.set_cons_succ]
  refine step_one 5 rfl (by kernel_rfl) (fun K hK => ?_)
  refine step_dup W.drew rfl (.tmp 5) (.tmp 7) 22 rfl i0 (.int .u32 0) Try.underlying22 hi hz0 hz1 hz2 rfl rfl ao n cap xs rfl HK0.out.sl ?_
  intro t0 tc w2 hT hB
  have HK2 := Lib.hid (Live.add_sl hT.sl (HK0.out.below hB))
  have HB2 := Lib.hid (Below.steps HB0.out hB)
  refine hK.out _ _ (And.intro HK2.out.tail.tail.box.c0 HK2.out.tail.tail.box.c1) (fun hHeld2 => ?_)
  clear hK K hHeld bx_c0 bx_c1 bx_f0 bx_f1 br_c0 br_c1 br_f0 br_f1 HK0 HB0 HK1 hT hB
  have hHeld := hHeld2
  clear hHeld2
  have bx_c0 := HK2.out.tail.tail.box.c0
  have bx_c1 := HK2.out.tail.tail.box.c1
  have br_c0 := HK2.out.tail.tail.tail.box.c0
  have br_c1 := HK2.out.tail.tail.tail.box.c1
  have br_f0 := HK2.out.tail.tail.tail.box.f0
  have br_f1 := HK2.out.tail.tail.tail.box.f1
  try simp only [Act.put, List.setIfInBounds_toArray, List.set_cons_zero, List.set_cons_succ]
  refine step_on 6 rfl (by kernel_rfl) (fun _ _ _ h => h) (by rfl) hHeld (by intro w hSw; first | (go_simp; done) | (go_simp; with_reducible rfl)) ?_
  try simp only [Act.put, List.setIfInBounds_toArray, List.set_cons_zero, List.set_cons_succ]
  refine step_one 7 rfl (by kernel_rfl) (fun K hK => ?_)
  go_simp
  refine hK.out _ _ ((And.intro ((cell_set2 (fun e => by have e2 : w.heap.size = w.heap.size + 1 := e; omega) _ _).trans bx_c0) ((cell_set2 (fun e => by have e2 : w.heap.size = w.heap.size + 1 := e; omega) _ _).trans bx_c1))) (fun hHeld2 => ?_)
  clear hK K hHeld hHeld2
  refine wpAnyH_done (by kernel_rfl) ?_ _
  go_wp2_with fail
  refine bodyPost_ret (v := .agg #[.bool m, .slice t0 n tc]) (by simp [results, Try.results11, go_sem, br_c0, br_c1]) rfl ?_
  exact ⟨_, _, rfl, sl_set2 HK2.out.sl HK2.out.tail.tail.tail.box _ _, below_set2 HB2.out (by omega) _ _⟩

end Go.Proofs.Ytponiigpmjnffaa

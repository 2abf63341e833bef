/-
  The contract of porismref07.Of.
-/
import Derived.Test.YtgalcdfleljliaaMExps
set_option maxRecDepth 8192
namespace Go.Proofs.Ytgalcdfleljliaa
open Go.RowKit

theorem calls_world {P : Program} {f : FuncId} {args : Array Value} {w : World} {Q : Ending → World → Prop} (h : ∀ W, W = w → Calls P f args W Q) : Calls P f args w Q := h w rfl

theorem Row.grown {B : Nat} {w w' : World} {o : Obj} {ao : Option Addr} {n cap : Nat} {ps : List (Int × Int)} {b : Nat} {f : Int → Int} (h : Row w b f) (hM : Mo B w ao n cap ps) (hG : (w.alloc o).grownBy w' (Value.slice ao n cap).ownBlock) : Row w' b f := by
  refine (h.below (below_alloc w o)).keep (hG.block b (by have := h.lt; simp; omega) fun e => ?_)
  rcases hM.parts with ⟨rfl, _⟩ | ⟨g, cur, rfl, _, _, _, hh⟩
  · cases e
  · have e' : b = g := Option.some.inj e
    subst e'
    unfold Row at h
    rw [h] at hh
    cases hh

theorem ofUp_succ (g : Int → Int) (k : Nat) : ofUp g (k + 1) = ofUp g k ++ if 0 < g ((k : Int) + 1) then [((k : Int) + 1, g ((k : Int) + 1))] else [] := rfl

set_option maxHeartbeats 1000000 in
set_option maxRecDepth 100000 in
theorem of7_any (g : Int → Int) (hg : ∀ v, 1 ≤ v → v ≤ 200 → in64 (g v)) (w : World) :
    Calls Try.prog 34 #[.agg (rowL g).toArray] w (NewM w (ofE g)) := by
  obtain ⟨i0, hi, hz0, hz1, hz2⟩ := info_parts Try.info_pow
  have HG := Lib.hid hg
  obtain ⟨qs, hqs⟩ : ∃ qs, qs = ofE g := ⟨_, rfl⟩
  have HQ : Hid (qs = ofUp g 200) := hqs.trans (by unfold ofE; rw [show lim = 200 from rfl])
  rw [← hqs]
  clear hg hqs
  go_enter Try.func34, Try.ntmps34
  go_upto_region 1 with (fail)
  refine wp_world (fun W hW => ?_)
  have HB : Hid (Below w.heap.size w W) := by rw [hW]; exact below_alloc _ _
  have H1 : Hid (Row W w.heap.size g) := by rw [hW]; exact Row.new w _
  clear hW
  go_wp2
  go_loopw [3, 4] (fun o i wr => ∃ (k m cap : Nat) (ao : Option Addr), k ≤ 200 ∧ i = .int .i64 ((k + 1 : Nat) : Int) ∧ o = .slice ao m cap ∧ Hid (Mo w.heap.size wr ao m cap (ofUp g k)) ∧ Hid (Row wr w.heap.size g ∧ Below w.heap.size w wr)) (fun _ i _ => 201 - (intOf i).toNat)
  case atStart => exact ⟨0, 0, 0, none, by omega, rfl, rfl, Mo.nil _ _, H1.out, HB.out⟩
  case round =>
    clear H1 HB
    obtain ⟨k, m, cap, ao, hk, rfl, rfl, HM, HS⟩ := hrel
    by_cases hk2 : k < 200
    · have c1 := HS.out.1.cell (k + 1) (by omega)
      have hml := HM.out.len
      have hul := ofUp_len g k
      have hm4 : m ≤ 200 := by omega
      have HU := Lib.hid (ofUp_succ g k)
      have ek : ((k : Int) + 1) = ((k + 1 : Nat) : Int) := by omega
      rw [ek] at HU
      have HI := Lib.hid (HG.out ((k + 1 : Nat) : Int) (by omega) (by omega))
      obtain ⟨z, hz⟩ : ∃ z, z = g ((k + 1 : Nat) : Int) := ⟨_, rfl⟩
      rw [← hz] at c1 HU HI
      clear hml hul ek hz
      obtain ⟨j, hj⟩ : ∃ j, j = k + 1 := ⟨_, rfl⟩
      rw [← hj] at c1 HU ⊢
      have HJ := Lib.hid hj
      have hj1 : 1 ≤ j := by omega
      have hj2 : j ≤ 200 := by omega
      clear hj hk hk2
      by_cases hp : 0 < z
      · have f1 : decide (0 < z) = true := decide_eq_true hp
        have HV : Hid (in64 (j : Int)) := by unfold in64; show _ ∧ _; omega
        have HP := Lib.hid hp
        clear hp
        go_wp2_with (at_builtin; refine wpList_push2 wr w rfl (.tmp 13) (.tmp 19) 23 rfl w.heap.size i0 (.agg #[.int .i64 0, .int .i64 0]) Try.underlying23 hi hz0 hz1 hz2 rfl ao m cap (ofUp g k) rfl HM.out (j : Int) z HV.out HI.out _ rfl HS.out.2 HS.out.2.size (by omega) ?_; intro ao2 cap2 w2 hM2 hB2 hG2; have HM2 := Lib.hid hM2; have HB2 := Lib.hid hB2; have HR2 := Lib.hid (HS.out.1.grown HM.out hG2); clear hM2 hB2 hG2 c1)
        go_roundw
        case rel => exact ⟨k + 1, m + 1, cap2, ao2, by have := HJ.out; omega, by rw [HJ.out]; go_num, rfl, by rw [Hid, ← HJ.out, HU.out, if_pos HP.out]; exact HM2.out, HR2.out, HB2.out⟩
        case measure => simp [intOf]; omega
      · have f1 : decide (0 < z) = false := decide_eq_false hp
        have HP := Lib.hid hp
        clear hp
        go_wp2
        go_roundw
        case rel => exact ⟨k + 1, m, cap, ao, by have := HJ.out; omega, by rw [HJ.out]; go_num, rfl, by rw [Hid, ← HJ.out, HU.out, if_neg HP.out, List.append_nil]; exact HM.out, HS.out⟩
        case measure => simp [intOf]; omega
    · obtain rfl : k = 200 := by omega
      go_wp2
      go_ret
      exact ⟨_, _, _, rfl, by rw [HQ.out]; exact HM.out.ml, HS.out.2⟩

end Go.Proofs.Ytgalcdfleljliaa

/- Rnd, PlBack, PlJoinM -/
import Derived.RangeFuncNested
import Derived.RangeFuncLeaves
import Derived.TacticsInMore
import Derived.OwnWalkIn
import Derived.LoopIn
import Derived.LoopNIn
import Derived.Test.YtmmgipcacceakaaGreatGP2
set_option maxHeartbeats 40000000
set_option maxRecDepth 100000
namespace Go.Proofs.YtmmgipcacceakaaGreat
open Go.RowKit
def noDefer (o : Oper) : Bool := match o.op with | .defer _ => false | _ => true
theorem noDefer_ne {o : Oper} (h : noDefer o = true) (c : Call) : o.op ≠ .defer c := fun e => by simp [noDefer, e] at h
section
variable {P : Program} {Q : Exit → Act → World → Prop} {l n : Nat}
theorem oper_round {o : Oper} (hd : noDefer o = true) {a : Act} {w : World} {K : Act → World → Prop} (h : o.wp P a w K Q) (hQ : ¬ LetsOut Q) : o.wpIn (Fence.wide.inRound l) n P a w K Q := by
 refine ⟨fun _ _ => trivial, ?_⟩
 rw [Oper.semAt_eq _ _ _ (noDefer_ne hd)]
 unfold Oper.wp at h
 generalize (execOp a.eval o).run P w = r at h ⊢
 cases r with
 | ok x w' =>
  cases x with
  | value v => exact h
  | skip => exact h
  | defer d => exact h
  | enter f args =>
   refine ⟨fun hx => by simp [Fence.inRound, Fence.wide] at hx, CallsIn.inRound l (callsIn_wide.2 (Calls.mono h ?_))⟩
   intro e w'' he
   cases e with
   | returned v => exact he
   | panicked ch => exact he
   | outgrown => exact (hQ he).elim
  | row row args =>
   refine ⟨fun hx => by simp [Fence.inRound, Fence.wide] at hx, fun c cs _ => ?_⟩
   obtain ⟨v, w2, h1, h2⟩ := h c cs
   exact ⟨v, w2, h1, stepsIn_wide.2 h2⟩
  | _ => exact h.elim
 | halt x w' => cases x <;> exact h
theorem list_round {ops : Array Oper} (hQ : ¬ LetsOut Q) : ∀ {os : List Oper} {a : Act} {w : World}, os.all noDefer = true → wpList P ops Q os a w → wpListIn (Fence.wide.inRound l) n P ops Q os a w
 | [], _, _, _, h => h
 | o :: os, a, w, hd, h => by
  simp only [List.all_cons, Bool.and_eq_true] at hd
  simp only [wpList] at h
  simp only [wpListIn]
  by_cases hw : Region.wanted o (yielded ops a.tmps) = true
  ·rw [if_pos hw] at h ⊢
   rcases h with h | ⟨_, h⟩
   ·exact Oper.wpIn_mono (fun a w h => list_round hQ hd.2 h) (oper_round hd.1 h hQ)
   ·exact (hQ h).elim
  ·rw [if_neg hw] at h ⊢
   exact ⟨fun _ _ => trivial, list_round hQ hd.2 h⟩
theorem region_round {id : Nat} {os : List Oper} {a : Act} {w : World} (hd : os.all noDefer = true) (hQ : ¬ LetsOut Q) (h : wpList P os.toArray Q os a w) : (Code.region id os.toArray false).wpIn (Fence.wide.inRound l) n P Q a w :=
 wpIn_region_lit (list_round hQ hd h)
theorem op_round {ops : Array Oper} (hd : ops.toList.all noDefer = true) (hQ : ¬ LetsOut Q) {i : Nat} {K K' : Act → World → Prop} {a : Act} {w : World} (hK : ∀ a w, K a w → K' a w) (h : wpOp P ops Q i K a w) : wpOpIn (Fence.wide.inRound l) n P ops Q i K' a w := by
 unfold wpOp at h
 unfold wpOpIn
 cases ho : ops[i]? with
 | none => rw [ho] at h; exact hK _ _ h
 | some o =>
  rw [ho] at h
  simp only at h ⊢
  have hdo : noDefer o = true := List.all_eq_true.1 hd o (Array.mem_toList_iff.2 (Array.mem_of_getElem? ho))
  by_cases hw : Region.wanted o (yielded ops a.tmps) = true
  ·rw [if_pos hw] at h ⊢
   rcases h with h | ⟨_, h⟩
   ·exact Oper.wpIn_mono hK (oper_round hdo h hQ)
   ·exact (hQ h).elim
  ·rw [if_neg hw] at h ⊢
   exact ⟨fun _ _ => trivial, hK _ _ h⟩
theorem any_round {md : Region.Mode} {ops : Array Oper} (hd : ops.toList.all noDefer = true) (hQ : ¬ LetsOut Q) : ∀ (fuel : Nat) (listed : Array Bool) (a : Act) (w : World), wpAny P md ops Q fuel listed a w → wpAnyIn (Fence.wide.inRound l) n P md ops Q fuel listed a w
 | 0, _, _, _, h => h
 | fuel + 1, _, _, _, h => ⟨h.1, fun i hi => op_round hd hQ (fun a w h => any_round hd hQ fuel _ a w h) (h.2 i hi)⟩
theorem held_round {id : Nat} {os : List Oper} {S : World → Prop} {a : Act} {w : World} (hd : os.all noDefer = true) (hQ : ¬ LetsOut Q) (hm : P.follows .mixedOrders = true) (hS : S w.drew)
  (h : S w.drew → wpAnyH P .any os.toArray Q S os.toArray.size (Array.replicate os.toArray.size false) a w.drew) : (Code.region id os.toArray true).wpIn (Fence.wide.inRound l) n P Q a w :=
 wpIn_region_any hm (any_round (by simpa using hd) hQ _ _ _ _ (wpAny_of_held _ _ _ _ (h hS)))
end
def Fast (Fx : Nat → Prop) (A B : World) : Prop := ∀ k, Fx k → B.heap[k]? = A.heap[k]?
theorem Fast.refl (Fx : Nat → Prop) (A : World) : Fast Fx A A := fun _ _ => rfl
theorem Fast.trans {Fx : Nat → Prop} {A B C : World} (h : Fast Fx A B) (k : Fast Fx B C) : Fast Fx A C := fun i hi => (k i hi).trans (h i hi)
theorem Fast.below {Fx : Nat → Prop} {n : Nat} {A B : World} (h : Below n A B) (hF : ∀ k, Fx k → k < n) : Fast Fx A B := fun i hi => h.block i (hF i hi)
theorem Fast.putObj {Fx : Nat → Prop} {A : World} {l : Nat} {o : Obj} (h : ¬ Fx l) : Fast Fx A (A.putObj l o) := fun _ hi => World.putObj_heap_other (fun e => h (e ▸ hi))
theorem Fast.put {Fx : Nat → Prop} {A B : World} {l : Nat} {o : Obj} (hA : Fast Fx A B) (h : ¬ Fx l) : Fast Fx A (B.putObj l o) := hA.trans (Fast.putObj h)
def Hands (P : Program) (g : Nat) (lb : Array Value) (encs : Nat → Array Value) (Fx : Nat → Prop) (N : Nat) (w : World) : Prop :=
 ∀ (l : Nat) (J : Nat → World → Prop) (W : World), Fast Fx w W →
  (∀ j W1, j < N → J j W1 → YieldAt Fence.wide 0 P l (encs j) W1 (fun e W' => e = .returned (.bool true) ∧ J (j + 1) W' ∧ Fast Fx W1 W')) →
  J 0 W → CallsIn Fence.wide 0 P g (#[.func (.yield l) #[] #[]] ++ lb) W (fun e W' => (∃ v, e = .returned v) ∧ J N W')
def offEnd (B : Nat) (Fx : Nat → Prop) (I : World → Prop) (W : World) : Exit → Act → World → Prop
 | .normal, _, W' => KeepsFrom B W W' ∧ Fast Fx W W' ∧ I W'
 | _, _, _ => False
def Turned (B : Nat) (X Y : World) : Prop := ∃ r, B ≤ r ∧ X.grownBy Y (some r) ∧ ∃ o : Obj, X.heap[r]? = some o ∧ o.isCells = false
theorem wpIn_range_hands {P : Program} {g : Operand} {ps : Array Tmp} {assign body : Code} {Q : Exit → Act → World → Prop} {a : Act} {w : World} {gf : Nat} {lb : Array Value} {encs : Nat → Array Value} {Fx : Nat → Prop} {N : Nat}
  (hg : a.eval g = .func (.func gf) #[] lb) (eg : ∀ args w, (callFunc gf args).run P w = .ok (.enter gf args) w) (hH : Hands P gf lb encs Fx N w) (hFx : ∀ k, Fx k → k < w.heap.size) (hps : ∀ j, (encs j).size = ps.size)
  (I : Nat → World → Prop) (hI : OwnFrom w.heap.size I) (h0 : I 0 w)
  (hround : ∀ (l j : Nat) (W : World), j < N → I j W →
   assign.wpIn (Fence.wide.inRound l) 0 P (Exit.then (fun a' X => KeepsFrom w.heap.size W X ∧ Fast Fx W X ∧ ∀ Y, Turned w.heap.size X Y → body.wpIn (Fence.wide.inRound l) 0 P (offEnd w.heap.size Fx (I (j + 1)) Y) a' Y) (fun _ _ _ => False))
    { tmps := (ps.zip (encs j)).foldl (fun t (p, v) => t.setIfInBounds p v) a.tmps, defers := [] } W)
  (hdone : ∀ (D : Nat) (W : World), w.heap.size ≤ D → I N W → W.heap[D]? = some (.deferred (some [])) → Q .normal { a with defers := { target := .collected D, args := #[] } :: a.defers } W) :
  (Code.rangeFunc g ps assign body).wpIn Fence.wide 0 P Q a w := by
 refine wpIn_rangeFunc fun fn _ => ?_
 obtain ⟨L, hL⟩ : ∃ L : LoopState → Loop, L = fun st => { state := st, pending := none, fn, tmps := a.tmps, params := ps, assign, body, defers := w.heap.size } := ⟨_, rfl⟩
 have hstart := run_enterLoop_outer (P := P) (w := w) fn a.tmps ps assign body
 have hLr : Loop.mk .ready none fn a.tmps ps assign body w.heap.size = L .ready := by rw [hL]
 rw [hLr] at hstart; obtain ⟨V, hV⟩ : ∃ V, V = (w.alloc (.deferred (some []))).alloc (.loop (L .ready)) := ⟨_, rfl⟩
 rw [← hV] at hstart
 have hBV : Below w.heap.size w V := by rw [hV]; exact ((Below.refl _ w).alloc (Nat.le_refl _) _).alloc (by simp) _
 have hIV : I 0 V := by rw [hV]; exact hI.alloc _ (hI.alloc _ h0)
 have hl0 : V.heap[w.heap.size + 1]? = some (.loop (L .ready)) := by rw [hV]; have := World.alloc_heap_new (w.alloc (.deferred (some []))) (.loop (L .ready)); rwa [World.size_alloc] at this
 have hd0 : V.heap[w.heap.size]? = some (.deferred (some [])) := by rw [hV]; exact (Below.heap_alloc _ _ _ (by simp)).trans (World.alloc_heap_new w _)
 clear hV
 have nF : ∀ {k}, w.heap.size ≤ k → ¬ Fx k := fun hk hf => by have := hFx _ hf; omega
 refine ⟨w.heap.size + 1, _, V, { target := .fn (.func gf) lb, args := #[.func (.yield (w.heap.size + 1)) #[] #[]] }, V, gf, #[.func (.yield (w.heap.size + 1)) #[] #[]] ++ lb, V, hstart, by simp only [resolve, hg]; simp [go_sem], fun _ _ => trivial, by simp [invoke, go_sem, eg], fun hx => by simp [Fence.wide] at hx, ?_⟩
 refine (hH (w.heap.size + 1) (fun j W => I j W ∧ W.heap[w.heap.size + 1]? = some (.loop (L .ready)) ∧ W.heap[w.heap.size]? = some (.deferred (some []))) V (Fast.below hBV hFx) ?_ ⟨hIV, hl0, hd0⟩).mono ?_
 ·rintro j W hj ⟨hi, hl, hd⟩
  have hy := run_yield (P := P) (args := encs j) hl (by rw [hL]; exact hps j)
  rw [hL] at hy
  refine ⟨fn, _, assign, body, hy, roundIn_of_wpIn trivial (wpIn_mono (hround _ j W hj hi) ?_)⟩
  clear hy; rintro e a' X hp
  cases e with
  | normal =>
   obtain ⟨hk, hf, hbody⟩ := hp
   have hl' := hk.same _ _ (by omega) hl rfl
   have hd' := hk.same _ _ (Nat.le_refl _) hd rfl
   have hlt : w.heap.size + 1 < X.heap.size := (Array.getElem?_eq_some_iff.1 hl').1
   refine ⟨_, run_beginRound hl' (by rw [hL]), ?_⟩
   obtain ⟨Y, hY⟩ : ∃ Y, Y = X.putObj (w.heap.size + 1) (.loop { L .ready with state := .busy }) := ⟨_, rfl⟩
   have hT : Turned w.heap.size X Y := ⟨w.heap.size + 1, by omega, by rw [hY]; exact grownBy_putObj' _ _ _, _, hl', rfl⟩
   have hlY : Y.heap[w.heap.size + 1]? = some (.loop { L .ready with state := .busy }) := by rw [hY]; exact World.putObj_heap_same hlt
   have hdY : Y.heap[w.heap.size]? = some (.deferred (some [])) := by rw [hY]; exact (World.putObj_heap_other (by omega)).trans hd'
   have hfY : Fast Fx W Y := by rw [hY]; exact hf.put (nF (by omega))
   rw [← hY]; clear hY
   refine wpIn_mono (hbody Y hT) ?_
   rintro e a3 Z hp
   cases e with
   | normal =>
    obtain ⟨hk3, hf3, hi3⟩ := hp
    have hlZ := hk3.same _ _ (by omega) hlY rfl
    have hdZ := hk3.same _ _ (Nat.le_refl _) hdY rfl
    refine ⟨_, _, run_endRound none hlZ, rfl, ⟨hI.putObj _ hi3 (by omega) hlZ rfl, ?_, (World.putObj_heap_other (by omega)).trans hdZ⟩, (hfY.trans hf3).put (nF (by omega))⟩
    rw [World.putObj_heap_same (Array.getElem?_eq_some_iff.1 hlZ).1, hL]
    rfl
   | _ => exact hp.elim
  | _ => exact hp.elim
 ·rintro e W ⟨⟨v, rfl⟩, hi, hl, hd⟩
  have he := run_endLoop (P := P) hl (by rw [hL]; simp)
  rw [hL] at he
  exact ⟨none, _, he, hdone _ _ (Nat.le_refl _) (hI.putObj _ hi (by omega) hl rfl) ((World.putObj_heap_other (by omega)).trans hd)⟩
theorem cell_of_heap {A B : World} {a : Addr} (h : B.heap[a.block]? = A.heap[a.block]?) : B.cell? a = A.cell? a := by unfold World.cell?; rw [h]
def retPost (P : Program) (fn : Func) (R : Ending → World → Prop) : Exit → Act → World → Prop
 | .normal, a, w => LeavesInM Fence.wide 0 P fn a.tmps R a.defers .returning w
 | .ret, a, w => LeavesInM Fence.wide 0 P fn a.tmps R a.defers .returning w
 | _, _, _ => False
theorem calls_of_marks {P : Program} {f : FuncId} {fn : Func} {c : Code} {args : Array Value} {w : World} {R : Ending → World → Prop} (hf : P.funcs[f]? = some fn) (hb : fn.body = some c)
  (h : c.wp P (retPost P fn R) { tmps := args ++ Array.replicate (fn.ntmps - args.size) undef, defers := [] } w) : Calls P f args w R :=
 (callsIn_wide (n := 0)).1 (callsIn_of_wp_marks hf hb trivial ((wpIn_wide (n := 0)).2 (wp_mono h fun e a w q => by cases e <;> first | exact q | exact q.elim)) rfl)
theorem Fast.cell {Fx : Nat → Prop} {A B : World} (h : Fast Fx A B) {a : Addr} (hF : Fx a.block) {v : Value} (hc : A.cell? a = some v) : B.cell? a = some v := (cell_of_heap (h _ hF)).trans hc
def backE (N : Nat) (vss : List (List Value)) (j : Nat) : Array Value := #[.int .i64 ((N - 1 - j : Nat) : Int), .agg (vss.getD (N - 1 - j) []).toArray]
theorem back_any {ao : Option Addr} {n cap : Nat} (w : World) : Calls Tryz.prog 93 #[.slice ao n cap] w (fun e w' => e = .returned (.func (.func 120) #[] #[.pointer (some ⟨w.heap.size, 0, none⟩)]) ∧ w' = w.alloc (.cells #[.slice ao n cap] 26)) := by
 have hmf : ∀ (fn : Fn) (first cap : Array Value) (w : World), (Instr.makeFunc fn first cap).run Tryz.prog w = .ok (.func fn first cap) w := fun _ _ _ _ => rfl
 go_enter Tryz.func93, Tryz.ntmps93
 go_wp2_with fail
 go_ret
 exact ⟨rfl, rfl⟩
theorem back_hands [Ol] {ao : Option Addr} {N cap Bs : Nat} {vss : List (List Value)} {w : World} {Fx : Nat → Prop} (hG : Gl 3 w ao N cap vss) (hB : w.cell? ⟨Bs, 0, none⟩ = some (.slice ao N cap)) (hF1 : Fx Bs) (hF2 : ∀ ad, ao = some ad → Fx ad.block) :
  Hands Tryz.prog 120 #[.pointer (some ⟨Bs, 0, none⟩)] (backE N vss) Fx N w := by
 intro l J W hW hY h0
 have hbig := hG.big; have hle := hG.le; have hcW := hW.cell (a := ⟨Bs, 0, none⟩) hF1 hB
 have HF : Hid (∀ V, Fast Fx W V → V.cell? ⟨Bs, 0, none⟩ = some (.slice ao N cap)) := fun V hV => hV.cell (a := ⟨Bs, 0, none⟩) hF1 hcW
 have HC : Hid (∀ k, k < N → ∃ b off u0 u1 u2, ao = some ⟨b, off, none⟩ ∧ vss.getD k [] = [u0, u1, u2] ∧ ∀ V, Fast Fx W V → V.cell? ⟨b, off + k * 3, none⟩ = some u0 ∧ V.cell? ⟨b, off + k * 3 + 1, none⟩ = some u1 ∧ V.cell? ⟨b, off + k * 3 + 2, none⟩ = some u2) := by
  intro k hk
  obtain ⟨b, off, hao, hb, hc⟩ := hG.at (by omega)
  have hlen : (vss.getD k []).length = 3 := (hG.each _ (getD_mem2 (by rw [hG.len]; exact hk))).1
  obtain ⟨u0, u1, u2, hv⟩ : ∃ u0 u1 u2, vss.getD k [] = [u0, u1, u2] := by
   match hm : vss.getD k [], hlen with
   | [u0, u1, u2], _ => exact ⟨_, _, _, rfl⟩
  refine ⟨b, off, u0, u1, u2, hao, hv, fun V hV => ?_⟩
  have hFb : Fx b := hF2 _ hao
  have h := fun j hj => hc w (Below.refl _ _) k hk j hj
  rw [hv] at h
  exact ⟨(hW.trans hV).cell (a := ⟨b, off + k * 3, none⟩) hFb (by have := h 0 (by omega); simpa using this), (hW.trans hV).cell (a := ⟨b, off + k * 3 + 1, none⟩) hFb (by have := h 1 (by omega); simpa using this), (hW.trans hV).cell (a := ⟨b, off + k * 3 + 2, none⟩) hFb (by have := h 2 (by omega); simpa using this)⟩
 have HY := Lib.hid hY; have HJ := Lib.hid h0; clear hY h0 hG hB hF1 hF2
 refine callsIn_of_wp Tryz.func120 rfl trivial ?_ rfl
 simp only [Tryz.ntmps120, List.size_toArray, List.length_cons, List.length_nil, Nat.reduceAdd, Nat.reduceSub, Array.replicate_succ, Array.replicate_zero, List.push_toArray, List.append_toArray, List.nil_append, List.cons_append]
 gi_wp2
 gi_loopw [3] (fun i wr => ∃ (k : Nat) (z : Int), i = .int .i64 z ∧ z = (k : Int) - 1 ∧ k ≤ N ∧ Hid (J (N - k) wr) ∧ Hid (Fast Fx W wr)) (fun i _ => (intOf i + 1).toNat)
 case atStart => exact ⟨N, _, rfl, by first | rfl | (go_num) | omega, Nat.le_refl _, by rw [Hid, Nat.sub_self]; exact HJ.out, Fast.refl _ _⟩
 case round =>
  clear hcW HJ; obtain ⟨k, z, rfl, hz, hk, HJ, HS⟩ := hrel
  by_cases hk0 : k = 0
  ·obtain rfl : z = -1 := by omega
   clear hz
   have hd : decide ((0 : Int) ≤ -1) = false := rfl
   gi_wp2
   go_end0
   exact ⟨⟨_, rfl⟩, by have := HJ.out; rw [hk0] at this; exact this⟩
  ·obtain ⟨m, rfl⟩ : ∃ m, k = m + 1 := ⟨k - 1, by omega⟩
   obtain rfl : z = (m : Int) := by omega
   clear hz hk0; have hcB := HF.out _ HS.out
   obtain ⟨b, off, u0, u1, u2, rfl, hv, hcs⟩ := HC.out m (by omega)
   obtain ⟨c0, c1, c2⟩ := hcs _ HS.out
   have hN : N - (m + 1) < N := by omega
   obtain ⟨fn, tmps, assign, body, hy, hR⟩ := HY.out (N - (m + 1)) wr hN HJ.out
   have e1 : N - 1 - (N - (m + 1)) = m := by omega
   have e2 : N - (m + 1) + 1 = N - m := by omega
   simp only [backE] at hy
   rw [e1, hv] at hy
   try simp only [List.getD_cons_zero] at hy
   rw [e2] at hR; have HR := Lib.hid hR
   clear hR HC hcs hv HY e1 e2 hN
   have hd : decide ((0 : Int) ≤ (m : Int)) = true := decide_eq_true (by omega)
   gi_wp2
   refine ⟨rfl, HR.out.mono ?_⟩
   rintro e W3 ⟨rfl, hJ3, hk3⟩
   gi_wp2
   go_roundw
   case rel => exact ⟨m, _, rfl, rfl, by omega, hJ3, HS.out.trans hk3⟩
   case measure => simp [intOf]
def NoInt (V : World) (r : Nat) : Prop := ∀ (ad : Addr) (k : IntKind) (x : Int), V.cell? ad = some (.int k x) → ad.block ≠ r
theorem CleanB.noInt {V : World} {r : Nat} (h : CleanB V r) : NoInt V r := fun _ _ _ hc => h.far hc
theorem noInt_obj {V : World} {r : Nat} {o : Obj} (h : V.heap[r]? = some o) (ho : o.isCells = false) : NoInt V r := fun ad k x hc e => by
 obtain ⟨b, off, s⟩ := ad; obtain rfl : b = r := e
 unfold World.cell? at hc
 simp only [h] at hc
 cases o <;> simp [Obj.isCells] at ho <;> simp at hc
theorem Cn.stepG {V V' : World} {row : Option Nat} (hg : V.grownBy V' row) (hn : ∀ r, row = some r → NoInt V r) {m : Bool} {ao : Option Addr} {n cap : Nat} {z : Int} (h : Cn V m ao n cap z) : Cn V' m ao n cap z :=
 ⟨h.neg, h.sl.len, h.sl.le, h.sl.big, h.sl.wf, h.sl.nil, fun ad had t ht => hg.cell (h.sl.cells ad had t ht) fun eq => hn _ eq.symm _ _ _ (h.sl.cells ad had t ht) rfl⟩
theorem Ml.stepG [Ol] {V V' : World} {row : Option Nat} (hg : V.grownBy V' row) (hn : ∀ r, row = some r → NoInt V r) {ao : Option Addr} {n cap : Nat} {ps : List (Int × Int)} (h : Ml V ao n cap ps) : Ml V' ao n cap ps :=
 ⟨h.len, h.le, h.big, h.wf, h.nil, fun ad had t ht => ⟨hg.cell (h.cells ad had t ht).1 fun eq => hn _ eq.symm _ _ _ (h.cells ad had t ht).1 rfl, hg.cell (h.cells ad had t ht).2 fun eq => hn _ eq.symm _ _ _ (h.cells ad had t ht).2 rfl⟩, fun h0 ad had => by
  obtain ⟨x, hx⟩ := h.int h0 had
  exact (h.kp h0 ad had).grown (h.blt h0 had) hg fun eq => hn _ eq.symm _ _ _ hx rfl⟩
theorem TmC.stepG [Ol] {V V' : World} {row : Option Nat} (hg : V.grownBy V' row) (hn : ∀ r, row = some r → NoInt V r) {K : Nat} {vs : List Value} {t : Term} (h : TmC K V vs t) : TmC K V' vs t := by
 obtain ⟨m, ao, n, cap, bo, k, cb, h1, h2, h3, h4⟩ := h
 exact ⟨m, ao, n, cap, bo, k, cb, h1, h2.stepG hg hn, h3, h4.stepG hg hn⟩
theorem tms_stepG [Ol] {V V' : World} {row : Option Nat} (hg : V.grownBy V' row) (hn : ∀ r, row = some r → NoInt V r) {K : Nat} {X : List (List Value)} {p : List Term} (h : Tms (TmC K V) X p) : Tms (TmC K V') X p := h.imp fun _ _ h => h.stepG hg hn
theorem Cn.setI {V : World} {b : Nat} {z : Int} {T : TypeId} (hA : AtN V b [.int .i64 z] T) (u : Value) {m : Bool} {ao : Option Addr} {n cap : Nat} {x : Int} (h : Cn V m ao n cap x) : Cn (V.setCell ⟨b, 0, none⟩ u) m ao n cap x := by
 refine ⟨h.neg, h.sl.len, h.sl.le, h.sl.big, h.sl.wf, h.sl.nil, fun ad had t ht => ?_⟩
 have hc := h.sl.cells ad had t ht
 refine (grown_put1 V b 0 u).cell hc fun eq => ?_
 have e : (ad.add t).block = b := Option.some.inj eq
 generalize ad.add t = a at hc e
 obtain ⟨b', o, s⟩ := a; obtain rfl : b' = b := e
 have hs : s = none := World.cell?_spot hc
 subst hs; rw [hA.cell] at hc
 match o, hc with
 | 0, hc => simp at hc
 | _ + 1, hc => simp at hc
theorem Ml.setI [Ol] {V : World} {b : Nat} {z : Int} {T : TypeId} (hA : AtN V b [.int .i64 z] T) (u : Value) {ao : Option Addr} {n cap : Nat} {ps : List (Int × Int)} (h : Ml V ao n cap ps) : Ml (V.setCell ⟨b, 0, none⟩ u) ao n cap ps := by
 have hne2 : ∀ ad, ao = some ad → ∀ t, t < n → ad.block ≠ b := by
  intro ad had t ht e
  have hc := h.cells ad had t ht; obtain ⟨b', o, s⟩ := ad; obtain rfl : b' = b := e; have h2 := hc.2
  cases s with
  | none =>
   rw [Addr.add_lit, hA.cell, show o + (t * 2 + 1) = o + t * 2 + 1 by omega] at h2
   simp at h2
  | some s =>
   rw [show (⟨b', o, some s⟩ : Addr).add (t * 2 + 1) = ⟨b', o + (t * 2 + 1), none⟩ from by unfold Addr.add; rw [if_neg (by omega)], hA.cell, show o + (t * 2 + 1) = o + t * 2 + 1 by omega] at h2
   simp at h2
 refine ⟨h.len, h.le, h.big, h.wf, h.nil, fun ad had t ht => ?_, fun h0 ad had => (h.kp h0 ad had).grown (h.blt h0 had) (grown_put1 V b 0 u) fun eq => hne2 ad had 0 h0 (Option.some.inj eq)⟩
 have hc := h.cells ad had t ht; have hne := hne2 ad had t ht
 exact ⟨(grown_put1 V b 0 u).cell hc.1 (fun eq => hne (by rw [← add_block3 ad (t * 2)]; exact Option.some.inj eq)), (grown_put1 V b 0 u).cell hc.2 (fun eq => hne (by rw [← add_block3 ad (t * 2 + 1)]; exact Option.some.inj eq))⟩
theorem tms_setI [Ol] {V : World} {b : Nat} {z : Int} {T : TypeId} (hA : AtN V b [.int .i64 z] T) (u : Value) {K : Nat} {X : List (List Value)} {p : List Term} (h : Tms (TmC K V) X p) : Tms (TmC K (V.setCell ⟨b, 0, none⟩ u)) X p := h.imp fun _ _ h => by
 obtain ⟨m, ao, n, cap, bo, k, cb, h1, h2, h3, h4⟩ := h
 exact ⟨m, ao, n, cap, bo, k, cb, h1, h2.setI hA u, h3, h4.setI hA u⟩
theorem AtN.ne {V : World} {a b : Nat} {L M : List Value} {S T : TypeId} (h : AtN V a L S) (k : AtN V b M T) (hST : S ≠ T) : a ≠ b := fun e => by
 subst e
 unfold AtN at h k
 rw [h] at k
 cases k
 exact hST rfl
theorem AtN.stepG {V V' : World} {row : Option Nat} (hg : V.grownBy V' row) {b : Nat} {L : List Value} {T : TypeId} (h : AtN V b L T) (hne : ∀ r, row = some r → r ≠ b) : AtN V' b L T := h.keep (hg.block b h.lt fun e => hne b e.symm rfl)
theorem Rm.stepG {V V' : World} {row : Option Nat} (hg : V.grownBy V' row) {g off cap : Nat} {L : List Value} (h : Rm g off cap L V) (hne : ∀ r, row = some r → r ≠ g) : Rm g off cap L V' := ⟨h.at1.stepG hg hne, h.cln, h.room, h.big⟩
structure JSt [Ol] (w : World) (g off cap N b7 b8 ba b5 : Nat) (fv : Value) (X Q : List (List Value)) (K : Nat) (p q S : List Term) (left : Nat) (lf pl : Int) (V : World) : Prop where
 ex : ∃ L Y, Rm g off cap L V ∧ Seg 3 L off (X.take left) ∧ Seg 3 L (off + (N - S.length) * 3) Y ∧ Each 3 Y ∧ Tms (TmC (K + 1) V) Y S
 px : Tms (TmC K V) X p
 qx : Tms (TmC K V) Q q
 e7 : AtN V b7 [.int .i64 lf] 3
 e8 : AtN V b8 [.int .i64 pl] 3
 ea : AtN V ba [.slice (some ⟨g, off, none⟩) N cap] 26
 e5 : AtN V b5 [fv] 104
 gr : w.grownBy V (some g)
 fit : S.length + left ≤ N
 ll : left ≤ X.length
 nc : N ≤ cap
 h7 : w.heap.size ≤ b7
 h8 : w.heap.size ≤ b8
 h78 : b7 ≠ b8
 hx : Each 3 X
section
variable {w : World} {g off cap N b7 b8 ba b5 : Nat} {fv : Value} {X Q : List (List Value)} {K : Nat} {p q S : List Term} {left : Nat} {lf pl : Int} {V V' : World}
theorem JSt.step [Ol] (h : JSt w g off cap N b7 b8 ba b5 fv X Q K p q S left lf pl V) {row : Option Nat} (hg : V.grownBy V' row) (hn : ∀ r, row = some r → NoInt V r) (hne : ∀ r, row = some r → r ≠ g ∧ r ≠ b7 ∧ r ≠ b8 ∧ r ≠ ba ∧ r ≠ b5 ∧ w.heap.size ≤ r) :
  JSt w g off cap N b7 b8 ba b5 fv X Q K p q S left lf pl V' := by
 obtain ⟨L, Y, h1, h2, h3, h4, h5⟩ := h.ex
 refine { h with ex := ⟨L, Y, h1.stepG hg (fun r e => (hne r e).1), h2, h3, h4, tms_stepG hg hn h5⟩, px := tms_stepG hg hn h.px, qx := tms_stepG hg hn h.qx, e7 := h.e7.stepG hg (fun r e => (hne r e).2.1), e8 := h.e8.stepG hg (fun r e => (hne r e).2.2.1), ea := h.ea.stepG hg (fun r e => (hne r e).2.2.2.1), e5 := h.e5.stepG hg (fun r e => (hne r e).2.2.2.2.1), gr := ?_ }
 exact ⟨hg.os.trans h.gr.os, hg.tape.trans h.gr.tape, hg.output.trans h.gr.output, Nat.le_trans h.gr.size hg.size, fun k hk hkg => (hg.block k (Nat.lt_of_lt_of_le hk h.gr.size) (fun e => by have := (hne k e.symm).2.2.2.2.2; omega)).trans (h.gr.block k hk hkg)⟩
theorem JSt.below [Ol] (h : JSt w g off cap N b7 b8 ba b5 fv X Q K p q S left lf pl V) (hb : Below V.heap.size V V') : JSt w g off cap N b7 b8 ba b5 fv X Q K p q S left lf pl V' :=
 h.step (grown_below none hb) (fun _ e => by cases e) (fun _ e => by cases e)
theorem JSt.g7 [Ol] (h : JSt w g off cap N b7 b8 ba b5 fv X Q K p q S left lf pl V) : g ≠ b7 ∧ g ≠ b8 ∧ g ≠ ba ∧ g ≠ b5 := by
 obtain ⟨L, Y, h1, _⟩ := h.ex
 exact ⟨h1.at1.ne h.e7 (by decide), h1.at1.ne h.e8 (by decide), h1.at1.ne h.ea (by decide), h1.at1.ne h.e5 (by decide)⟩
theorem JSt.v7 [Ol] (h : JSt w g off cap N b7 b8 ba b5 fv X Q K p q S left lf pl V) : b7 ≠ ba ∧ b7 ≠ b5 ∧ b8 ≠ ba ∧ b8 ≠ b5 := ⟨h.e7.ne h.ea (by decide), h.e7.ne h.e5 (by decide), h.e8.ne h.ea (by decide), h.e8.ne h.e5 (by decide)⟩
theorem JSt.far [Ol] (h : JSt w g off cap N b7 b8 ba b5 fv X Q K p q S left lf pl V) {c : Nat} {L : List Value} {T : TypeId} (hA : AtN V c L T) (hc : Clean L) (hcg : c ≠ g) (hT : T ≠ 3 ∧ T ≠ 26 ∧ T ≠ 104) (hw : w.heap.size ≤ c) (hg : V.grownBy V' (some c)) :
  JSt w g off cap N b7 b8 ba b5 fv X Q K p q S left lf pl V' :=
 h.step hg (fun r e => by cases e; exact (hA.cleanB hc).noInt) (fun r e => by cases e; exact ⟨hcg, hA.ne h.e7 hT.1, hA.ne h.e8 hT.1, hA.ne h.ea hT.2.1, hA.ne h.e5 hT.2.2, hw⟩)
theorem grown_int {A B C : World} {b g : Nat} (h : A.grownBy B (some g)) (hb : A.heap.size ≤ b) (k : B.grownBy C (some b)) : A.grownBy C (some g) :=
 ⟨k.os.trans h.os, k.tape.trans h.tape, k.output.trans h.output, Nat.le_trans h.size k.size, fun i hi hig => (k.block i (Nat.lt_of_lt_of_le hi h.size) (fun e => by cases e; omega)).trans (h.block i hi hig)⟩
theorem JSt.set7 [Ol] (h : JSt w g off cap N b7 b8 ba b5 fv X Q K p q S left lf pl V) (z : Int) : JSt w g off cap N b7 b8 ba b5 fv X Q K p q S left z pl (V.setCell ⟨b7, 0, none⟩ (.int .i64 z)) := by
 obtain ⟨L, Y, h1, h2, h3, h4, h5⟩ := h.ex; have hg := grown_put1 V b7 0 (.int .i64 z); have d := h.g7; have e := h.v7
 exact { h with
  ex := ⟨L, Y, h1.stepG hg (fun r e => by cases e; exact d.1.symm), h2, h3, h4, tms_setI h.e7 _ h5⟩, px := tms_setI h.e7 _ h.px, qx := tms_setI h.e7 _ h.qx, e7 := h.e7.set 0 _
  e8 := h.e8.far h.h78 0 _, ea := h.ea.far e.1 0 _, e5 := h.e5.far e.2.1 0 _, gr := grown_int h.gr h.h7 hg }
theorem JSt.set8 [Ol] (h : JSt w g off cap N b7 b8 ba b5 fv X Q K p q S left lf pl V) (z : Int) : JSt w g off cap N b7 b8 ba b5 fv X Q K p q S left lf z (V.setCell ⟨b8, 0, none⟩ (.int .i64 z)) := by
 obtain ⟨L, Y, h1, h2, h3, h4, h5⟩ := h.ex; have hg := grown_put1 V b8 0 (.int .i64 z); have d := h.g7; have e := h.v7
 exact { h with
  ex := ⟨L, Y, h1.stepG hg (fun r e => by cases e; exact d.2.1.symm), h2, h3, h4, tms_setI h.e8 _ h5⟩, px := tms_setI h.e8 _ h.px, qx := tms_setI h.e8 _ h.qx, e8 := h.e8.set 0 _
  e7 := h.e7.far h.h78.symm 0 _, ea := h.ea.far e.2.2.1 0 _, e5 := h.e5.far e.2.2.2 0 _, gr := grown_int h.gr h.h8 hg }
theorem JSt.get [Ol] (h : JSt w g off cap N b7 b8 ba b5 fv X Q K p q S left lf pl V) {k : Nat} (hk : k < left) :
  ∃ xm xa xn xc xp xq xr, X.getD k [] = [.bool xm, .slice xa xn xc, .slice xp xq xr] ∧ (V.cell? ⟨g, off + k * 3, none⟩ = some (.bool xm) ∧ V.cell? ⟨g, off + k * 3 + 1, none⟩ = some (.slice xa xn xc) ∧ V.cell? ⟨g, off + k * 3 + 2, none⟩ = some (.slice xp xq xr)) ∧ Cn V xm xa xn xc (p.getD k (0, [])).1 ∧ Bd (p.getD k (0, [])).1 K ∧ Ml V xp xq xr (p.getD k (0, [])).2 := by
 obtain ⟨L, Y, h1, h2, _⟩ := h.ex
 have hkX : k < X.length := Nat.lt_of_lt_of_le hk h.ll
 have hkp : k < p.length := by rw [← h.px.len]; exact hkX
 obtain ⟨xm, xa, xn, xc, xp, xq, xr, hv, c1, c2, c3⟩ := Tms.get (0, []) h.px k hkp
 have hg := h2 k (by rw [List.length_take]; omega)
 have ht : (X.take left).getD k [] = X.getD k [] := by simp [List.getD, hk]
 rw [ht, hv] at hg
 refine ⟨xm, xa, xn, xc, xp, xq, xr, hv, ⟨?_, ?_, ?_⟩, c1, c2, c3⟩
 ·rw [h1.at1.cell]; exact hg 0 (by omega)
 ·rw [h1.at1.cell]; exact hg 1 (by omega)
 ·rw [h1.at1.cell]; exact hg 2 (by omega)
theorem JSt.spot [Ol] (h : JSt w g off cap N b7 b8 ba b5 fv X Q K p q S left lf pl V) {k : Nat} (hk : k < N) :
  (∃ a b c, V.cell? ⟨g, off + k * 3, none⟩ = some a ∧ V.cell? ⟨g, off + k * 3 + 1, none⟩ = some b ∧ V.cell? ⟨g, off + k * 3 + 2, none⟩ = some c) ∧ V.frozen? ⟨g, off + k * 3, none⟩ = false ∧ V.frozen? ⟨g, off + k * 3 + 1, none⟩ = false ∧ V.frozen? ⟨g, off + k * 3 + 2, none⟩ = false := by
 obtain ⟨L, Y, h1, _⟩ := h.ex; have hr := h1.room
 have hl : (k + 1) * 3 ≤ cap * 3 := Nat.mul_le_mul_right _ (Nat.le_trans hk h.nc)
 exact ⟨⟨_, _, _, (h1.at1.cell _).trans (List.getElem?_eq_getElem (by omega)), (h1.at1.cell _).trans (List.getElem?_eq_getElem (by omega)), (h1.at1.cell _).trans (List.getElem?_eq_getElem (by omega))⟩, h1.at1.fz _, h1.at1.fz _, h1.at1.fz _⟩
theorem JSt.drop [Ol] (h : JSt w g off cap N b7 b8 ba b5 fv X Q K p q S left lf pl V) {l2 : Nat} (hl : l2 ≤ left) : JSt w g off cap N b7 b8 ba b5 fv X Q K p q S l2 lf pl V := by
 obtain ⟨L, Y, h1, h2, h3⟩ := h.ex
 refine { h with ex := ⟨L, Y, h1, ?_, h3⟩, fit := by have := h.fit; omega, ll := Nat.le_trans hl h.ll }
 have := h2.take l2
 rwa [List.take_take, Nat.min_eq_left hl] at this
theorem JSt.put [Ol] (h : JSt w g off cap N b7 b8 ba b5 fv X Q K p q S left lf pl V) (hf : S.length + left < N) {t : Term} {m : Bool} {ao : Option Addr} {n c : Nat} {bo : Option Addr} {l cb : Nat} (hC : Cn V m ao n c t.1) (hB : Bd t.1 (K + 1)) (hM : Ml V bo l cb t.2) :
  JSt w g off cap N b7 b8 ba b5 fv X Q K p q (t :: S) left lf pl (((V.setCell ⟨g, off + (N - S.length - 1) * 3, none⟩ (.bool m)).setCell ⟨g, off + (N - S.length - 1) * 3 + 1, none⟩ (.slice ao n c)).setCell ⟨g, off + (N - S.length - 1) * 3 + 2, none⟩ (.slice bo l cb)) := by
 obtain ⟨L, Y, h1, h2, h3, h4, h5⟩ := h.ex; have hg := grown_put3 V g (off + (N - S.length - 1) * 3) (.bool m) (.slice ao n c) (.slice bo l cb)
 have hn : ∀ r, some g = some r → NoInt V r := fun r e => by cases e; exact (h1.at1.cleanB h1.cln).noInt
 have d := h.g7; have hYl := h5.len; have hroom := h1.room; have hnc := h.nc
 have hNN : (N - S.length) * 3 ≤ cap * 3 := Nat.mul_le_mul_right _ (by omega)
 have e1 : N - (t :: S).length = N - S.length - 1 := by rw [List.length_cons]; omega
 have e2 : (N - S.length - 1 + 1) * 3 = (N - S.length) * 3 := by congr 1; omega
 exact { h with
  ex := ⟨putL L (off + (N - S.length - 1) * 3) [.bool m, .slice ao n c, .slice bo l cb], [.bool m, .slice ao n c, .slice bo l cb] :: Y, ⟨h1.at1.put3 _ _ _ _, clean_put _ _ _ h1.cln (clean3 _ _ _ _ _ _ _), by rw [putL_length]; exact h1.room, h1.big⟩,
   h2.far (.inr (by rw [List.length_take, Nat.min_eq_left h.ll]; have : left * 3 ≤ (N - S.length - 1) * 3 := Nat.mul_le_mul_right _ (by omega); omega)),
   by
    rw [e1]
    refine Seg.cons (Seg.one (by omega)) ?_
    refine Seg.cast (h3.far (.inl ?_)) (by omega)
    simp only [List.length_cons, List.length_nil]
    omega,
   fun vs hv => by
    rcases List.mem_cons.1 hv with rfl | hv
    ·exact ⟨rfl, fun u hu => by simp at hu; rcases hu with rfl | rfl | rfl <;> rfl⟩
    ·exact h4 vs hv,
   ⟨⟨m, ao, n, c, bo, l, cb, rfl, hC.stepG hg hn, hB, hM.stepG hg hn⟩, tms_stepG hg hn h5⟩⟩
  px := tms_stepG hg hn h.px, qx := tms_stepG hg hn h.qx
  e7 := h.e7.stepG hg (fun r e => by cases e; exact d.1), e8 := h.e8.stepG hg (fun r e => by cases e; exact d.2.1), ea := h.ea.stepG hg (fun r e => by cases e; exact d.2.2.1), e5 := h.e5.stepG hg (fun r e => by cases e; exact d.2.2.2)
  gr := grown_trans h.gr hg, fit := by rw [List.length_cons]; omega }
end
end Go.Proofs.YtmmgipcacceakaaGreat

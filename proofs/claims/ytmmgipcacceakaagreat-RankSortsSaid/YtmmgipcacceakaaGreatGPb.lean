/- Drawn, SrtK -/
import Derived.Lone
import Derived.Calls
import Derived.Shelf.SlSortCmp.InsertionK
import Derived.Test.YtmmgipcacceakaaGreatGP2
set_option maxHeartbeats 40000000
set_option maxRecDepth 100000
/- A run never takes a draw back: whatever call returns leaves a world in which at least as much was drawn. (Of any program.) -/
namespace Go.Proofs.YtmmgipcacceakaaGreat
namespace Dw
def rd {α : Type} : Result α → Nat
 | .ok _ w => w.drawn
 | .halt _ w => w.drawn
def gd : GStep → Nat
 | .go _ w _ => w.drawn
 | .comm _ _ _ _ w _ => w.drawn
 | .spawn _ _ w _ => w.drawn
 | .count _ w _ => w.drawn
 | .timer _ _ w _ => w.drawn
 | .alone _ _ w _ => w.drawn
 | .newcoro _ _ _ w _ => w.drawn
 | .coroswitch _ _ _ w _ => w.drawn
 | .collect _ w _ => w.drawn
 | .watch _ w _ => w.drawn
 | .ended _ w _ => w.drawn
theorem gd_after (es : Array Event) (s : GStep) : gd (GStep.after es s) = gd s := by cases s <;> rfl
theorem ask_drawn {α : Type} : ∀ (a : Ask α) (w : World), w.drawn ≤ (w.ask a).2.drawn := by
 intro a
 induction a with
 | done a => intro w; exact Nat.le_refl _
 | ask what range k ih =>
  intro w
  unfold World.ask
  simp only []
  split
  ·exact ih _ w
  ·exact Nat.le_trans (Nat.le_succ _) (ih _ { w with drawn := w.drawn + 1 })
theorem sys_drawn (w : World) (c : Sys) : w.drawn ≤ (w.sys c).2.drawn := by
 have h := ask_drawn (Kernel.perform c w.os) w
 unfold World.sys
 split
 ·exact Nat.le_refl _
 ·rename_i heq
  rw [heq] at h
  exact h
theorem far_drawn {p : Program} {w w' : World} {a : Addr} {v : Value} {at_ : Bool} {ts : List Addr} (h : w.farStore p a v at_ = .ok (w', ts)) : w'.drawn = w.drawn := by
 unfold World.farStore at h
 split at h
 ·split at h
  ·rename_i r hr
   unfold World.viewStore at hr
   simp only [bind, Except.bind, pure, Except.pure] at hr
   repeat' (split at hr)
   all_goals first
    | (simp at hr; done)
    | (simp only [Except.ok.injEq] at hr h; rw [← hr] at h; simp only [Prod.mk.injEq] at h; rw [← h.1])
  ·simp at h
 ·simp at h
theorem freeze_drawn (w : World) (a : Addr) (n : Nat) : (w.freeze a n).drawn = w.drawn := by
 unfold World.freeze
 repeat' split
 all_goals rfl
theorem run_drawn {α : Type} (p : Program) : ∀ (s : Sem α) (w : World), w.drawn ≤ rd (s.run p w) := by
 intro s
 induction s with
 | pure a => intro w; exact Nat.le_refl _
 | load m a k ih =>
  intro w
  simp only [Sem.run]
  split
  ·exact ih _ _
  ·split
   ·exact ih _ _
   ·exact Nat.le_refl _
 | store m a v k ih =>
  intro w
  have H : ∀ w1, w1.drawn = w.drawn → w.drawn ≤ rd (k.run p w1) := fun w1 h1 => h1 ▸ ih w1
  cases v <;> simp only [Sem.run]
  all_goals first
   | exact Nat.le_refl _
   | (split
      ·split
       ·exact Nat.le_refl _
       ·exact H _ rfl
      ·split
       ·rename_i hf; exact H _ (far_drawn hf)
       ·exact Nat.le_refl _)
 | new o k ih => intro w; exact ih _ { w with heap := w.heap.push o }
 | shape r k ih => intro w; exact ih _ w
 | freeze a n k ih => intro w; exact Nat.le_trans (Nat.le_of_eq (freeze_drawn w a n).symm) (ih (w.freeze a n))
 | frozen a k ih => intro w; exact ih _ w
 | getObj r k ih =>
  intro w
  simp only [Sem.run]
  split
  ·exact Nat.le_refl _
  ·exact ih _ _
  ·exact Nat.le_refl _
 | setObj r o k ih =>
  intro w
  simp only [Sem.run]
  split
  ·exact Nat.le_refl _
  ·exact ih { w with heap := w.heap.setIfInBounds r o }
  ·exact Nat.le_refl _
 | choose q k ih =>
  intro w
  simp only [Sem.run]
  split
  ·exact ih _ _
  ·exact Nat.le_trans (Nat.le_succ _) (ih _ { w with drawn := w.drawn + 1 })
 | sys c k ih => intro w; exact Nat.le_trans (sys_drawn w c) (ih _ _)
 | program k ih => intro w; exact ih _ w
 | mark m k ih => intro w; exact ih w
 | halt h => intro w; exact Nat.le_refl _
theorem runT_drawn {α : Type} (p : Program) (s : Sem α) (w : World) (es : Array Event) : w.drawn ≤ rd (s.runT p w es).1 := by
 rw [Sem.runT_fst]; exact run_drawn p s w
theorem endThrow_d (fr : Frame) (m : String) (w : World) : gd (endThrow fr m w) = w.drawn := rfl
theorem endWith_d (w : World) (fd : Nat) (text : ByteArray) (o : Outcome) : w.drawn ≤ gd (endWith w fd text o) := by
 have h := sys_drawn w (.write fd text)
 unfold endWith
 simp only []
 split
 ·rename_i heq; rw [heq] at h; split <;> exact h
 ·rename_i heq; rw [heq] at h; exact h
 ·rename_i heq; rw [heq] at h; exact h
theorem endPrinting_d (p : Program) (fr : Frame) (v : Value) (w : World) : gd (endPrinting p fr v w) = w.drawn := by
 unfold endPrinting
 simp only []
 split <;> rfl
theorem of_run {α : Type} {p : Program} {s : Sem α} {w : World} {r : Result α} (h : s.run p w = r) : w.drawn ≤ rd r := h ▸ run_drawn p s w
theorem of_runT {α : Type} {p : Program} {s : Sem α} {w : World} {es es' : Array Event} {r : Result α} (h : s.runT p w es = (r, es')) : w.drawn ≤ rd r := by
 have := runT_drawn p s w es
 rw [h] at this
 exact this
theorem endFatal_d (p : Program) (fr : Frame) (callers : List Frame) (dying : Option Dying) (m : String) (w : World) : w.drawn ≤ gd (endFatal p fr callers dying m w) := by
 unfold endFatal
 simp only []
 split
 ·rename_i heq; exact of_run heq
 ·rename_i heq; exact of_run heq
 ·rename_i heq; exact of_run heq
theorem writeOn_d (p : Program) (fr : Frame) (d : Dying) (f : Fatal) (w : World) : w.drawn ≤ gd (writeOn p fr d f w) := by
 unfold writeOn
 simp only []
 split
 ·exact Nat.le_refl _
 ·split
  all_goals (rename_i heq; exact of_runT heq)
theorem of_runT1 {α : Type} {p : Program} {s : Sem α} {w : World} {es : Array Event} {r : Result α} (h : (s.runT p w es).1 = r) : w.drawn ≤ rd r := h ▸ runT_drawn p s w es
theorem of_either1 {α : Type} {p : Program} {s : Sem α} {w : World} {b : Bool} {r : Result α} (h : (if b = true then s.runT p w #[] else (s.run p w, #[])).1 = r) : w.drawn ≤ rd r := by
 cases b with
 | true => exact of_runT1 h
 | false => exact of_run h
theorem die_d (p : Program) (fr : Frame) (d : Dying) (w : World) : w.drawn ≤ gd (die p fr d w) := by
 unfold die
 simp only []
 split
 ·exact writeOn_d _ _ _ _ _
 ·split
  ·split
   ·exact Nat.le_refl _
   ·exact endWith_d _ _ _ _
  ·split
   ·exact Nat.le_refl _
   ·split
    all_goals (rename_i heq; exact of_run heq)
   ·rw [gd_after]
    split
    all_goals first
     | exact Nat.le_refl _
     | (rename_i heq; exact of_runT1 heq)
     | (rename_i heq; rw [endPrinting_d]; exact of_runT1 heq)
   ·exact Nat.le_refl _
theorem doReturn_d (p : Program) (main : Bool) (fr : Frame) (callers : List Frame) (dying : Option Dying) (v : Value) (w : World) : gd (doReturn p main fr callers dying v w) = w.drawn := by
 unfold doReturn
 repeat' split
 all_goals first
  | rfl
  | (simp only []; rfl)
  | (repeat' split <;> rfl)
theorem callDeferred_d (p : Program) (fr : Frame) (callers : List Frame) (dying : Option Dying) (d : Deferred) (w : World) : w.drawn ≤ gd (callDeferred p fr callers dying d w) := by
 unfold callDeferred
 simp only []
 generalize ((d.target matches .nil) && (fr.mode matches .panicking _)) = c
 cases c with
 | true => exact Nat.le_refl _
 | false =>
  simp only [Bool.false_eq_true, if_false]
  rw [gd_after]
  split
  all_goals first
   | (rename_i heq; exact of_runT1 heq)
   | (rename_i heq; exact Nat.le_trans (of_runT1 heq) (endFatal_d _ _ _ _ _ _))
   | (rename_i heq; split <;> exact of_runT1 heq)
theorem unwind_d (p : Program) (main : Bool) (fr : Frame) (callers : List Frame) (dying : Option Dying) (w : World) : w.drawn ≤ gd (unwind p main fr callers dying w) := by
 unfold unwind
 split
 ·simp only []
  rw [gd_after]
  split
  all_goals (rename_i heq; exact of_runT1 heq)
 ·exact callDeferred_d _ _ _ _ _ _
 ·split
  ·exact Nat.le_refl _
  ·split
   ·exact Nat.le_refl _
   ·split
    ·exact Nat.le_refl _
    ·split
     ·split
      ·exact Nat.le_refl _
      ·split
       all_goals (rename_i heq; exact of_run heq)
     ·split
      ·rw [endPrinting_d]; exact Nat.le_refl _
      ·exact Nat.le_refl _
  ·split
   ·rw [doReturn_d]; exact Nat.le_refl _
   ·simp only []
    rw [gd_after]
    split
    ·rename_i heq; rw [doReturn_d]; exact of_runT1 heq
    ·rename_i heq; exact of_runT1 heq
    ·rename_i heq; exact of_runT1 heq
theorem early_d (p : Program) (fr : Frame) (callers : List Frame) (dying : Option Dying) (g : Nat) (w : World) : w.drawn ≤ gd (early p fr callers dying g w) := by
 unfold early
 simp only []
 repeat' split
 all_goals first
  | exact Nat.le_refl _
  | (rename_i heq; exact of_run heq)
  | (rename_i heq _ _; exact of_run heq)
  | (rename_i heq _ _ _; exact of_run heq)
  | (rename_i heq _ _ _ _; exact of_run heq)
theorem gd_ite {c : Prop} [Decidable c] {a b : GStep} {d : Nat} (ha : gd a = d) (hb : gd b = d) : gd (ite c a b) = d := by split <;> assumption
theorem apply_d (p : Program) (listen : Bool) (fr : Frame) (callers : List Frame) (dying : Option Dying) (s : Sem Next) (w : World) : w.drawn ≤ gd (stepG.apply p listen fr callers dying s w) := by
 unfold stepG.apply
 simp only []
 rw [gd_after]
 split
 all_goals first
  | (rename_i heq; exact of_either1 heq)
  | (rename_i heq; exact Nat.le_trans (of_either1 heq) (endFatal_d _ _ _ _ _ _))
  | (rename_i heq; exact Nat.le_trans (of_either1 heq) (early_d _ _ _ _ _ _))
  | (rename_i heq; refine Nat.le_trans (of_either1 heq) (Nat.le_of_eq (gd_ite rfl rfl).symm))
  | (rename_i heq; have h := of_either1 heq; clear heq; (repeat' split) <;> exact h)
theorem oper_d (p : Program) (listen : Bool) (fr : Frame) (callers : List Frame) (dying : Option Dying) (w : World) : w.drawn ≤ gd (stepG.oper p listen fr callers dying w) := by
 unfold stepG.oper
 split
 ·exact Nat.le_refl _
 ·split <;> exact apply_d _ _ _ _ _ _ _
theorem exec_d (p : Program) (main listen : Bool) (fr : Frame) (callers : List Frame) (dying : Option Dying) (w : World) : w.drawn ≤ gd (stepG.exec p main listen fr callers dying w) := by
 unfold stepG.exec
 simp only []
 split
 all_goals first
  | exact Nat.le_refl _
  | exact apply_d _ _ _ _ _ _ _
  | (split <;> exact Nat.le_refl _)
  | (split
     ·first | exact Nat.le_refl _ | (rw [if_pos trivial]; exact Nat.le_refl _) | (split <;> exact Nat.le_refl _)
     ·rw [gd_after]
      split
      ·rename_i heq; rw [doReturn_d]; exact of_runT1 heq
      ·rename_i heq; exact of_runT1 heq)
  | (rw [gd_after]; split <;> (rename_i heq; exact of_runT1 heq))
  | (rw [gd_after]
     split
     ·rename_i heq; exact Nat.le_trans (of_runT1 heq) (apply_d _ _ _ _ _ _ _)
     ·rename_i heq; exact of_runT1 heq)
  | (split
     ·exact Nat.le_refl _
     ·split <;> (rename_i heq; exact of_run heq))
  | (split
     ·exact oper_d _ _ _ _ _ _
     ·exact Nat.le_refl _)
  | (cases Extern.next _ with
     | none => exact Nat.le_refl _
     | some e => exact apply_d _ _ _ _ _ _ _)
  | (cases exitTo _ _ with
     | some e => exact Nat.le_refl _
     | none =>
      simp only [Option.elim]
      split
      ·first | exact Nat.le_refl _ | (split <;> exact Nat.le_refl _)
      ·rw [gd_after]
       split
       ·rename_i heq; rw [doReturn_d]; exact of_runT1 heq
       ·rename_i heq; exact of_runT1 heq)
  | (cases gotoIn _ _ with
     | some e => exact Nat.le_refl _
     | none =>
      simp only [Option.elim]
      split
      ·first | exact Nat.le_refl _ | (split <;> exact Nat.le_refl _)
      ·rw [gd_after]
       split
       ·rename_i heq; rw [doReturn_d]; exact of_runT1 heq
       ·rename_i heq; exact of_runT1 heq)
theorem stepG_d (p : Program) (main : Bool) (g : Goroutine) (w : World) (listen : Bool) : w.drawn ≤ gd (stepG p main g w listen) := by
 unfold stepG
 split
 split
 ·exact die_d _ _ _ _
 ·exact exec_d _ _ _ _ _ _ _
 ·exact unwind_d _ _ _ _ _ _
theorem waiting_d {rest : Rest} {cases : Array CommCase} {w w' : World} (h : waitingAt rest cases w = some w') : w'.drawn = w.drawn := by
 unfold waitingAt at h
 split at h
 ·split at h
  ·simp only [Option.some.injEq] at h; subst h; rfl
  ·simp at h
 ·simp only [Option.some.injEq] at h; subst h; rfl
theorem communicate_d (p : Program) (rest : Rest) (gs : Array Goroutine) (i : Nat) (g : Goroutine) (cases : Array CommCase) (blocking : Bool)
  (shape : CommShape) (w : World) (m' : Machine) (h : (communicate p rest gs i g cases blocking shape w).1 = .next m') : w.drawn ≤ m'.world.drawn := by
 unfold communicate at h
 simp only [] at h
 split at h
 ·simp at h
 ·split at h
  ·split at h
   ·split at h
    ·rename_i hw
     simp only [Stepped.next.injEq] at h
     subst h
     exact Nat.le_of_eq (waiting_d hw).symm
    ·simp at h
   ·simp only [Stepped.next.injEq] at h
    subst h
    exact Nat.le_refl _
  ·split at h
   ·simp at h
   ·rename_i heq
    have h1 := of_run heq; clear heq
    repeat' first
     | (simp at h; done)
     | (simp only [Stepped.next.injEq] at h; subst h; exact h1)
     | (rename_i heq2; simp only [Stepped.next.injEq] at h; subst h; exact Nat.le_trans h1 (of_run heq2))
     | split at h
theorem look_d (p : Program) (gs : Array Goroutine) (rest : Rest) (w : World) (m' : Machine) (h : look p gs rest w = .next m') : w.drawn ≤ m'.world.drawn := by
 unfold look at h
 simp only [] at h
 repeat' first
  | (simp at h; done)
  | (simp only [Stepped.next.injEq] at h; subst h; rename_i heq; exact of_run heq)
  | split at h
theorem drain_d (w : World) (c : Nat) : (drain w c).2.drawn = w.drawn := by
 unfold drain
 split <;> rfl
theorem retime_d (m : Machine) (k : Nat) (t : Timer) (a b : Nat) : (retime m k t a b).2.world.drawn = m.world.drawn := by
 unfold retime
 cases hc : t.chan with
 | none => simp only []
 | some c => simp only []; exact drain_d _ _
theorem named_d {m : Machine} {var : Addr} {f : Nat → Timer → Value × Machine} {d : Nat} (hf : ∀ k t, (f k t).2.world.drawn = d) {v : Value} {m' : Machine} (h : timerOp.named m var f = .ok (v, m')) : m'.world.drawn = d := by
 unfold timerOp.named at h
 split at h
 ·simp only [Except.ok.injEq] at h
  have := hf ‹_› (m.rest.timers.getD ‹_› default)
  rw [h] at this
  exact this
 ·simp at h
theorem timerOp_d (m m' : Machine) (op : TimerOp) (v : Value) (h : timerOp m op = .ok (v, m')) : m'.world.drawn = m.world.drawn := by
 unfold timerOp at h
 split at h
 ·split at h
  ·simp only [Except.ok.injEq, Prod.mk.injEq] at h; rw [← h.2]; rfl
  ·split at h
   ·split at h
    ·simp at h
    ·simp only [Except.ok.injEq, Prod.mk.injEq] at h; rw [← h.2]
   ·simp at h
 ·exact named_d (fun k t => retime_d _ _ _ _ _) h
 ·split at h
  ·rename_i m1 hm
   have hm1 : m1.world.drawn = m.world.drawn := by
    unfold timerOp.opened at hm
    split at hm
    ·split at hm
     ·simp only [Option.some.injEq] at hm; rw [← hm]
     ·simp at hm
    ·simp only [Option.some.injEq] at hm; rw [← hm]
   rw [← hm1]
   exact named_d (fun k t => retime_d _ _ _ _ _) h
  ·simp at h
 ·simp only [Except.ok.injEq, Prod.mk.injEq] at h; rw [← h.2]; rfl
theorem runT_d (p : Program) (m m' : Machine) (i : Nat) (b : Bool) (h : (runT p m i b).1 = .next m') : m.world.drawn ≤ m'.world.drawn := by
 simp only [runT] at h
 revert h
 generalize m.gs.swapAt! _ _ = gg
 have hs := stepG_d p (i == 0) gg.1 m.world b
 generalize stepG p _ gg.1 m.world b = s at hs
 intro h
 cases s <;> simp only [] at h
 all_goals first
  | (simp at h; done)
  | exact Nat.le_trans hs (communicate_d _ _ _ _ _ _ _ _ _ _ h)
  | exact Nat.le_trans hs (look_d _ _ _ _ _ h)
  | (simp only [Stepped.next.injEq] at h; subst h; exact hs)
  | (repeat' first
    | (simp at h; done)
    | (simp only [Stepped.next.injEq] at h; subst h; exact hs)
    | (rename_i heq; simp only [Stepped.next.injEq] at h; subst h; have e := congrArg gd heq; rw [endThrow_d] at e; exact Nat.le_trans hs (Nat.le_of_eq e))
    | (rename_i heq; simp only [Stepped.next.injEq] at h; subst h; exact Nat.le_trans hs (Nat.le_of_eq (timerOp_d _ _ _ _ heq).symm))
    | split at h)
theorem serve_d (p : Program) (m m' : Machine) (k : Nat) (h : serve p m k = .next m') : m'.world.drawn = m.world.drawn := by
 unfold serve at h
 simp only [] at h
 repeat' first
  | (simp at h; done)
  | (simp only [Stepped.next.injEq] at h; subst h; rfl)
  | split at h
theorem run_ok_d {α : Type} {p : Program} {s : Sem α} {w w' : World} {a : α} (h : s.run p w = .ok a w') : w.drawn ≤ w'.drawn := of_run h
theorem askOn_g (p : Program) (m m' : Machine) (i : Nat) (h : askOn p m = .goroutine m' i) : m.world.drawn ≤ m'.world.drawn := by
 unfold askOn at h
 simp only [] at h
 repeat' first
  | (simp at h; done)
  | (simp only [Move.goroutine.injEq] at h; obtain ⟨hm, hi⟩ := h; rw [← hm]; clear hm hi m' i; (try simp only [Machine.advanceTo] at *); grind [→ run_ok_d])
  | split at h
theorem askOn_m (p : Program) (m m' : Machine) (ops : Array MemOp) (h : askOn p m = .machine (.next m') ops) : m.world.drawn ≤ m'.world.drawn := by
 unfold askOn at h
 simp only [] at h
 repeat' first
  | (simp at h; done)
  | (simp only [Move.machine.injEq] at h; have hv := serve_d _ _ _ _ h.1; rw [hv]; clear h hv; simp only []; grind [→ run_ok_d])
  | (simp only [Move.machine.injEq, Stepped.next.injEq] at h; obtain ⟨rfl, _⟩ := h; (try simp only [Machine.advanceTo] at *); grind [→ run_ok_d])
  | split at h
theorem ask_d (p : Program) (m : Machine) : (∃ m₂, m.world.drawn ≤ m₂.world.drawn ∧ ask p m = askOn p m₂) ∨ (∃ o w, ask p m = .machine (.ended o w) #[]) := by
 unfold ask
 by_cases hw : m.rest.watch = true
 ·rw [if_pos hw]
  cases hr : (choose (.extern "collector.look" 2)).run p m.world with
  | halt h w => exact .inr ⟨_, _, rfl⟩
  | ok k world =>
   have hd := run_ok_d hr
   rcases k with _ | _ | k
   ·exact .inl ⟨{ m with world }, hd, rfl⟩
   ·show (∃ m₂, m.world.drawn ≤ m₂.world.drawn ∧ (match look p m.gs m.rest world with | .next m => askOn p m | e => Move.machine e) = askOn p m₂) ∨
     (∃ o w, (match look p m.gs m.rest world with | .next m => askOn p m | e => Move.machine e) = .machine (.ended o w) #[])
    cases hl : look p m.gs m.rest world with
    | next m₂ => exact .inl ⟨m₂, Nat.le_trans hd (look_d _ _ _ _ _ hl), rfl⟩
    | ended o w => exact .inr ⟨o, w, rfl⟩
   ·exact .inl ⟨{ m with world }, hd, rfl⟩
 ·simp only [hw, Bool.false_eq_true, if_false]
  exact .inl ⟨m, Nat.le_refl _, rfl⟩
theorem move_g (p : Program) (m m' : Machine) (i : Nat) (h : move p m = .goroutine m' i) : m.world.drawn ≤ m'.world.drawn := by
 have H : ∀ m₁ : Machine, m₁.world = m.world → ask p m₁ = .goroutine m' i → m.world.drawn ≤ m'.world.drawn := by
  intro m₁ e h
  rcases ask_d p m₁ with ⟨m₂, hd, he⟩ | ⟨o, w, he⟩
  ·rw [he] at h
   rw [e] at hd
   exact Nat.le_trans hd (askOn_g p m₂ m' i h)
  ·rw [he] at h; cases h
 unfold move at h
 repeat' first
  | (simp at h; done)
  | exact H _ (by rfl) h
  | (simp only [Move.goroutine.injEq] at h; obtain ⟨hm, _⟩ := h; rw [← hm]; exact Nat.le_refl _)
  | split at h
theorem move_m (p : Program) (m m' : Machine) (ops : Array MemOp) (h : move p m = .machine (.next m') ops) : m.world.drawn ≤ m'.world.drawn := by
 have H : ∀ m₁ : Machine, m₁.world = m.world → ask p m₁ = .machine (.next m') ops → m.world.drawn ≤ m'.world.drawn := by
  intro m₁ e h
  rcases ask_d p m₁ with ⟨m₂, hd, he⟩ | ⟨o, w, he⟩
  ·rw [he] at h
   rw [e] at hd
   exact Nat.le_trans hd (askOn_m p m₂ m' ops h)
  ·rw [he] at h; simp at h
 unfold move at h
 repeat' first
  | (simp at h; done)
  | exact H _ (by rfl) h
  | split at h
theorem step_d (p : Program) (m m' : Machine) (h : step p m = .next m') : m.world.drawn ≤ m'.world.drawn := by
 simp only [step, stepT] at h
 split at h
 next m₁ i hm => exact Nat.le_trans (move_g p m m₁ i hm) (runT_d p m₁ m' i true h)
 next s ops hm =>
  simp only [] at h
  subst h
  exact move_m p m m' ops hm
theorem steps_d {P : Program} {m m' : Machine} (h : Steps P m m') : m.world.drawn ≤ m'.world.drawn := by
 obtain ⟨n, hn⟩ := h
 induction n generalizing m with
 | zero =>
  have h : Stepped.next m = .next m' := hn
  cases h
  exact Nat.le_refl _
 | succ n ih =>
  simp only [runN] at hn
  cases hs : step P m with
  | next m₁ => rw [hs] at hn; exact Nat.le_trans (step_d P m m₁ hs) (ih hn)
  | ended o w => rw [hs] at hn; cases hn
theorem calls_drawn {P : Program} {f : FuncId} {args : Array Value} {w : World} {R : Ending → World → Prop} (h : Calls P f args w R) (hR : ∀ e w', R e w' → ∃ v, e = .returned v) :
  Calls P f args w (fun e w' => R e w' ∧ w.drawn ≤ w'.drawn) := by
 intro cs
 obtain ⟨e, w', fr, hr, hc, hf, hl⟩ := h cs; obtain ⟨v, rfl⟩ := hR _ _ hr
 exact ⟨_, w', fr, ⟨hr, steps_d hc⟩, hc, hf, hl⟩
end Dw
end Go.Proofs.YtmmgipcacceakaaGreat

/- A row of three cells an element that a sort has gone over: its cells, what lies beside it. For any element type. -/
namespace Go.Proofs.YtmmgipcacceakaaGreat
open Go.Shelf Go.RowKit Go.Lib
theorem grown_of {W w' : World} (hb : Below W.heap.size W w') (hd : W.drawn ≤ w'.drawn) : ∃ q os, w' = Sort.grow (W.drewN q) os := by
 refine ⟨w'.drawn - W.drawn, w'.heap.extract W.heap.size w'.heap.size, ?_⟩
 obtain ⟨h1, t1, d1, o1, p1⟩ := W; obtain ⟨h2, t2, d2, o2, p2⟩ := w'
 have e1 : o2 = o1 := hb.os
 have e2 : t2 = t1 := hb.tape
 have e3 : p2 = p1 := hb.output
 subst e1 e2 e3
 have hs : h1.size ≤ h2.size := hb.size
 have hk : ∀ k, k < h1.size → h2[k]? = h1[k]? := hb.block
 have hdd : d1 ≤ d2 := hd
 show (⟨h2, t2, d2, o2, p2⟩ : World) = ⟨h1 ++ h2.extract h1.size h2.size, t2, d1 + (d2 - d1), o2, p2⟩
 rw [show d1 + (d2 - d1) = d2 by omega]
 congr 1
 apply Array.ext_getElem?
 intro i
 by_cases hi : i < h1.size
 ·rw [hk i hi, Array.getElem?_append_left hi]
 ·rw [Array.getElem?_append_right (by omega), Array.getElem?_extract]
  by_cases h2i : i < h2.size
  ·rw [if_pos (by omega), show h1.size + (i - h1.size) = i by omega]
  ·rw [if_neg (by omega), Array.getElem?_eq_none (by omega)]
theorem AtN.sorted {α : Type} [Inhabited α] {enc : α → List Value} {w : World} {g off : Nat} {L : List Value} {T : TypeId} (h : AtN w g L T) (d : Array α) (n : Nat) (os : Array Obj) :
  AtN (sortWorldK enc 3 w g off n d os) g (Sort.putCells id off (Sort.flatK enc 3 d) L.toArray).toList T := by
 have hlt := h.lt
 unfold AtN at h ⊢
 show ((w.heap.modify g _) ++ os)[g]? = _
 rw [Array.getElem?_append_left (by simpa using hlt)]
 simp [Array.getElem?_modify, h, Sort.onCells]
theorem grown_sorted {α : Type} [Inhabited α] (enc : α → List Value) (w : World) (g off : Nat) (d : Array α) (n : Nat) (os : Array Obj) : w.grownBy (sortWorldK enc 3 w g off n d os) (some g) := by
 refine ⟨rfl, rfl, rfl, ?_, fun k hk hne => ?_⟩
 ·show w.heap.size ≤ ((w.heap.modify g _) ++ os).size
  simp
 ·show ((w.heap.modify g _) ++ os)[k]? = _
  have hk2 : g ≠ k := fun e => hne (by rw [e])
  rw [Array.getElem?_append_left (by simpa using hk)]
  simp [Array.getElem?_modify, hk2]
theorem holds_seg {α : Type} [Inhabited α] {enc : α → List Value} (hk : ∀ x, (enc x).length = 3) {w : World} {g off : Nat} {L : List Value} {T : TypeId} (h : AtN w g L T) {d : Array α} (hs : Seg 3 L off (d.toList.map enc)) :
  Sort.HoldsK enc 3 w g off d := fun j hj => by
 have hj' : j < d.size * 3 := by simpa using hj
 have hq : j / 3 < d.size := by omega
 refine ⟨?_, h.fz _⟩
 rw [h.cell, Sort.get_flatK _ _ _ _ hj']
 have h3 := hs (j / 3) (by simpa using hq) (j % 3) (by omega)
 have e : (d.toList.map enc).getD (j / 3) [] = enc d[j / 3]! := by
  rw [getElem!_pos d (j / 3) hq]
  simp [List.getD, hq]
 rw [show off + j = off + j / 3 * 3 + j % 3 by omega, h3, e, List.getElem?_eq_getElem (by rw [hk]; omega), getElem!_pos (enc d[j / 3]!) (j % 3) (by rw [hk]; omega)]
 rfl
theorem put_at {α : Type} [Inhabited α] {enc : α → List Value} (L : List Value) (off : Nat) (d : Array α) (i : Nat) (hi : i < L.length) :
  (Sort.putCells id off (Sort.flatK enc 3 d) L.toArray).toList[i]? = some (if off ≤ i ∧ i < off + d.size * 3 then (enc d[(i - off) / 3]!)[(i - off) % 3]! else L[i]) := by
 rw [Array.getElem?_toList]
 unfold Sort.putCells
 rw [Array.getElem?_mapIdx, List.getElem?_toArray, List.getElem?_eq_getElem hi, Option.map_some, Sort.size_flatK]
 by_cases hc : off ≤ i ∧ i < off + d.size * 3
 ·rw [if_pos hc, if_pos hc, Sort.get_flatK _ _ _ _ (by omega)]; rfl
 ·rw [if_neg hc, if_neg hc]
theorem put_len {α : Type} [Inhabited α] {enc : α → List Value} (L : List Value) (off : Nat) (d : Array α) : (Sort.putCells id off (Sort.flatK enc 3 d) L.toArray).toList.length = L.length := by simp [Sort.putCells]
theorem seg_put {α : Type} [Inhabited α] {enc : α → List Value} (hk : ∀ x, (enc x).length = 3) (L : List Value) (off : Nat) (d : Array α) (hl : off + d.size * 3 ≤ L.length) :
  Seg 3 (Sort.putCells id off (Sort.flatK enc 3 d) L.toArray).toList off (d.toList.map enc) := fun t ht j hj => by
 have hq : t < d.size := by simpa using ht
 have e : (d.toList.map enc).getD t [] = enc d[t]! := by
  rw [getElem!_pos d t hq]
  simp [List.getD, hq]
 rw [put_at L off d _ (by omega), if_pos (by omega), e, show (off + t * 3 + j - off) / 3 = t by omega, show (off + t * 3 + j - off) % 3 = j by omega, List.getElem?_eq_getElem (by rw [hk]; exact hj), getElem!_pos (enc d[t]!) j (by rw [hk]; exact hj)]
end Go.Proofs.YtmmgipcacceakaaGreat


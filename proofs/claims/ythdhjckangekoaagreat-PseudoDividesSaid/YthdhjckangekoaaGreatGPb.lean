/- Drawn, SortLay, SortNone, PlSort, PlBackOrd -/
import Derived.Lone
import Derived.Calls
import Derived.Shelf.SlSortCmp.WholeK
import Derived.Test.YthdhjckangekoaaGreatGP2
set_option maxHeartbeats 40000000
set_option maxRecDepth 100000
namespace Go.Proofs.YthdhjckangekoaaGreat
namespace Dw
def rd {α:Type}:Result α->Nat
 | .ok _ w=>w.drawn
 | .halt _ w=>w.drawn
def gd:GStep->Nat
 | .go _ w _=>w.drawn
 | .comm _ _ _ _ w _=>w.drawn
 | .spawn _ _ w _=>w.drawn
 | .count _ w _=>w.drawn
 | .timer _ _ w _=>w.drawn
 | .alone _ _ w _=>w.drawn
 | .newcoro _ _ _ w _=>w.drawn
 | .coroswitch _ _ _ w _=>w.drawn
 | .collect _ w _=>w.drawn
 | .watch _ w _=>w.drawn
 | .ended _ w _=>w.drawn
theorem iR (es:Array Event) (s:GStep):gd (GStep.after es s)=gd s:=by cases s<;>rfl
theorem L6 {α:Type}:∀(a:Ask α) (w:World),w.drawn<=(w.ask a).2.drawn:=by
 intro a;induction a with
 |done a=>intro w;exact Nat.le_refl _
 |ask what range k ih=>
  intro w;unfold World.ask;simp only[];split
  ·exact ih _ w
  ·exact Nat.le_trans (Nat.le_succ _) (ih _ { w with drawn:=w.drawn+1 })
theorem Bp (w:World) (c:Sys):w.drawn<=(w.sys c).2.drawn:=by
 have h:=L6 (Kernel.perform c w.os) w;unfold World.sys;split
 ·exact Nat.le_refl _
 ·rename_i heq;rw[heq]at h;exact h
theorem L8 {p:Program} {w w':World} {a:Addr} {v:Value} {at_:Bool} {ts:List Addr} (h:w.farStore p a v at_= .ok (w',ts)):w'.drawn=w.drawn:=by
 unfold World.farStore at h;split at h
 ·split at h
  ·rename_i r hr;unfold World.viewStore at hr;simp only[bind,Except.bind,pure,Except.pure]at hr
   repeat' (split at hr)
   all_goals first
    |(simp at hr;done)
    |(simp only[Except.ok.injEq]at hr h;rw[<-hr]at h;simp only[Prod.mk.injEq]at h;rw[<-h.1])
  ·simp at h
 ·simp at h
theorem Da (w:World) (a:Addr) (n:Nat):(w.freeze a n).drawn=w.drawn:=by
 unfold World.freeze
 repeat' split
 all_goals rfl
theorem Br {α:Type} (p:Program):∀(s:Sem α) (w:World),w.drawn<=rd (s.run p w):=by
 intro s;induction s with
 |pure a=>intro w;exact Nat.le_refl _
 |load m a k ih=>
  intro w;simp only[Sem.run];split
  ·exact ih _ _
  ·split
   ·exact ih _ _
   ·exact Nat.le_refl _
 |store m a v k ih=>
  intro w;have H:∀w1,w1.drawn=w.drawn->w.drawn<=rd (k.run p w1):=fun w1 h1=>h1▸ih w1
  cases v<;>simp only[Sem.run]
  all_goals first
   |exact Nat.le_refl _
   |(split
     ·split
      ·exact Nat.le_refl _
      ·exact H _ rfl
     ·split
      ·rename_i hf;exact H _ (L8 hf)
      ·exact Nat.le_refl _)
 |new o k ih=>intro w;exact ih _ { w with heap:=w.heap.push o }
 |shape r k ih=>intro w;exact ih _ w
 |freeze a n k ih=>intro w;exact Nat.le_trans (Nat.le_of_eq (Da w a n).symm) (ih (w.freeze a n))
 |frozen a k ih=>intro w;exact ih _ w
 |getObj r k ih=>
  intro w;simp only[Sem.run];split
  ·exact Nat.le_refl _
  ·exact ih _ _
  ·exact Nat.le_refl _
 |setObj r o k ih=>
  intro w;simp only[Sem.run];split
  ·exact Nat.le_refl _
  ·exact ih { w with heap:=w.heap.setIfInBounds r o }
  ·exact Nat.le_refl _
 |choose q k ih=>
  intro w;simp only[Sem.run];split
  ·exact ih _ _
  ·exact Nat.le_trans (Nat.le_succ _) (ih _ { w with drawn:=w.drawn+1 })
 |sys c k ih=>intro w;exact Nat.le_trans (Bp w c) (ih _ _)
 |program k ih=>intro w;exact ih _ w
 |mark m k ih=>intro w;exact ih w
 |halt h=>intro w;exact Nat.le_refl _
theorem zi {α:Type} (p:Program) (s:Sem α) (w:World) (es:Array Event):w.drawn<=rd (s.runT p w es).1:=by
 rw[Sem.runT_fst];exact Br p s w
theorem IC (fr:Frame) (m:String) (w:World):gd (endThrow fr m w)=w.drawn:=rfl
theorem L9 (w:World) (fd:Nat) (text:ByteArray) (o:Outcome):w.drawn<=gd (endWith w fd text o):=by
 have h:=Bp w (.write fd text);unfold endWith;simp only[];split
 ·rename_i heq;rw[heq]at h;split<;>exact h
 ·rename_i heq;rw[heq]at h;exact h
 ·rename_i heq;rw[heq]at h;exact h
theorem su (p:Program) (fr:Frame) (v:Value) (w:World):gd (endPrinting p fr v w)=w.drawn:=by
 unfold endPrinting;simp only[];split<;>rfl
theorem of_run {α:Type} {p:Program} {s:Sem α} {w:World} {r:Result α} (h:s.run p w=r):w.drawn<=rd r:=h▸Br p s w
theorem SQ {α:Type} {p:Program} {s:Sem α} {w:World} {es es':Array Event} {r:Result α} (h:s.runT p w es=(r,es')):w.drawn<=rd r:=by
 have:=zi p s w es;rw[h]at this;exact this
theorem zk (p:Program) (fr:Frame) (callers:List Frame) (dying:Option Dying) (m:String) (w:World):w.drawn<=gd (endFatal p fr callers dying m w):=by
 unfold endFatal;simp only[];split
 ·rename_i heq;exact of_run heq
 ·rename_i heq;exact of_run heq
 ·rename_i heq;exact of_run heq
theorem Ma (p:Program) (fr:Frame) (d:Dying) (f:Fatal) (w:World):w.drawn<=gd (writeOn p fr d f w):=by
 unfold writeOn;simp only[];split
 ·exact Nat.le_refl _
 ·split
  all_goals (rename_i heq;exact SQ heq)
theorem dw {α:Type} {p:Program} {s:Sem α} {w:World} {es:Array Event} {r:Result α} (h:(s.runT p w es).1=r):w.drawn<=rd r:=h▸zi p s w es
theorem lU {α:Type} {p:Program} {s:Sem α} {w:World} {b:Bool} {r:Result α} (h:(if b=true then s.runT p w #[]else(s.run p w,#[])).1=r):w.drawn<=rd r:=by
 cases b with
 |true=>exact dw h
 |false=>exact of_run h
theorem ae4 (p:Program) (fr:Frame) (d:Dying) (w:World):w.drawn<=gd (die p fr d w):=by
 unfold die;simp only[];split
 ·exact Ma _ _ _ _ _
 ·split
  ·split
   ·exact Nat.le_refl _
   ·exact L9 _ _ _ _
  ·split
   ·exact Nat.le_refl _
   ·split
    all_goals (rename_i heq;exact of_run heq)
   ·rw[iR];split
    all_goals first
     |exact Nat.le_refl _
     |(rename_i heq;exact dw heq)
     |(rename_i heq;rw[su];exact dw heq)
   ·exact Nat.le_refl _
theorem lV (p:Program) (main:Bool) (fr:Frame) (callers:List Frame) (dying:Option Dying) (v:Value) (w:World):gd (doReturn p main fr callers dying v w)=w.drawn:=by
 unfold doReturn
 repeat' split
 all_goals first
  |rfl
  |(simp only[];rfl)
  |(repeat' split<;>rfl)
theorem zl (p:Program) (fr:Frame) (callers:List Frame) (dying:Option Dying) (d:Deferred) (w:World):w.drawn<=gd (callDeferred p fr callers dying d w):=by
 unfold callDeferred;simp only[];generalize ((d.target matches .nil)&&(fr.mode matches .panicking _))=c;cases c with
 |true=>exact Nat.le_refl _
 |false=>
  simp only[Bool.false_eq_true,if_false];rw[iR];split
  all_goals first
   |(rename_i heq;exact dw heq)
   |(rename_i heq;exact Nat.le_trans (dw heq) (zk _ _ _ _ _ _))
   |(rename_i heq;split<;>exact dw heq)
theorem Qo (p:Program) (main:Bool) (fr:Frame) (callers:List Frame) (dying:Option Dying) (w:World):w.drawn<=gd (unwind p main fr callers dying w):=by
 unfold unwind;split
 ·simp only[];rw[iR];split
  all_goals (rename_i heq;exact dw heq)
 ·exact zl _ _ _ _ _ _
 ·split
  ·exact Nat.le_refl _
  ·split
   ·exact Nat.le_refl _
   ·split
    ·exact Nat.le_refl _
    ·split
     ·split
      ·exact Nat.le_refl _
      ·split
       all_goals (rename_i heq;exact of_run heq)
     ·split
      ·rw[su];exact Nat.le_refl _
      ·exact Nat.le_refl _
  ·split
   ·rw[lV];exact Nat.le_refl _
   ·simp only[];rw[iR];split
    ·rename_i heq;rw[lV];exact dw heq
    ·rename_i heq;exact dw heq
    ·rename_i heq;exact dw heq
theorem SS (p:Program) (fr:Frame) (callers:List Frame) (dying:Option Dying) (g:Nat) (w:World):w.drawn<=gd (early p fr callers dying g w):=by
 unfold early;simp only[]
 repeat' split
 all_goals first
  |exact Nat.le_refl _
  |(rename_i heq;exact of_run heq)
  |(rename_i heq _ _;exact of_run heq)
  |(rename_i heq _ _ _;exact of_run heq)
  |(rename_i heq _ _ _ _;exact of_run heq)
theorem Xz {c:Prop} [Decidable c] {a b:GStep} {d:Nat} (ha:gd a=d) (hb:gd b=d):gd (ite c a b)=d:=by split<;>assumption
theorem xG (p:Program) (listen:Bool) (fr:Frame) (callers:List Frame) (dying:Option Dying) (s:Sem Next) (w:World):w.drawn<=gd (stepG.apply p listen fr callers dying s w):=by
 unfold stepG.apply;simp only[];rw[iR];split
 all_goals first
  |(rename_i heq;exact lU heq)
  |(rename_i heq;exact Nat.le_trans (lU heq) (zk _ _ _ _ _ _))
  |(rename_i heq;exact Nat.le_trans (lU heq) (SS _ _ _ _ _ _))
  |(rename_i heq;refine Nat.le_trans (lU heq) (Nat.le_of_eq (Xz rfl rfl).symm))
  |(rename_i heq;have h:=lU heq;clear heq;(repeat' split)<;>exact h)
theorem XA (p:Program) (listen:Bool) (fr:Frame) (callers:List Frame) (dying:Option Dying) (w:World):w.drawn<=gd (stepG.oper p listen fr callers dying w):=by
 unfold stepG.oper;split
 ·exact Nat.le_refl _
 ·split<;>exact xG _ _ _ _ _ _ _
theorem XB (p:Program) (main listen:Bool) (fr:Frame) (callers:List Frame) (dying:Option Dying) (w:World):w.drawn<=gd (stepG.exec p main listen fr callers dying w):=by
 unfold stepG.exec;simp only[];split
 all_goals first
  |exact Nat.le_refl _
  |exact xG _ _ _ _ _ _ _
  |(split<;>exact Nat.le_refl _)
  |(split
    ·first|exact Nat.le_refl _|(rw[if_pos trivial];exact Nat.le_refl _)|(split<;>exact Nat.le_refl _)
    ·rw[iR];split
     ·rename_i heq;rw[lV];exact dw heq
     ·rename_i heq;exact dw heq)
  |(rw[iR];split<;>(rename_i heq;exact dw heq))
  |(rw[iR]
    split
    ·rename_i heq;exact Nat.le_trans (dw heq) (xG _ _ _ _ _ _ _)
    ·rename_i heq;exact dw heq)
  |(split
    ·exact Nat.le_refl _
    ·split<;>(rename_i heq;exact of_run heq))
  |(split
    ·exact XA _ _ _ _ _ _
    ·exact Nat.le_refl _)
  |(cases Extern.next _ with
    |none=>exact Nat.le_refl _
    |some e=>exact xG _ _ _ _ _ _ _)
  |(cases exitTo _ _ with
    |some e=>exact Nat.le_refl _
    |none=>
     simp only[Option.elim];split
     ·first|exact Nat.le_refl _|(split<;>exact Nat.le_refl _)
     ·rw[iR];split
      ·rename_i heq;rw[lV];exact dw heq
      ·rename_i heq;exact dw heq)
  |(cases gotoIn _ _ with
    |some e=>exact Nat.le_refl _
    |none=>
     simp only[Option.elim];split
     ·first|exact Nat.le_refl _|(split<;>exact Nat.le_refl _)
     ·rw[iR];split
      ·rename_i heq;rw[lV];exact dw heq
      ·rename_i heq;exact dw heq)
theorem SV (p:Program) (main:Bool) (g:Goroutine) (w:World) (listen:Bool):w.drawn<=gd (stepG p main g w listen):=by
 unfold stepG;split;split
 ·exact ae4 _ _ _ _
 ·exact XB _ _ _ _ _ _ _
 ·exact Qo _ _ _ _ _ _
theorem Mc {rest:Rest} {cases:Array CommCase} {w w':World} (h:waitingAt rest cases w=some w'):w'.drawn=w.drawn:=by
 unfold waitingAt at h;split at h
 ·split at h
  ·simp only[Option.some.injEq]at h;subst h;rfl
  ·simp at h
 ·simp only[Option.some.injEq]at h;subst h;rfl
theorem z8 (p:Program) (rest:Rest) (gs:Array Goroutine) (i:Nat) (g:Goroutine) (cases:Array CommCase) (blocking:Bool)
  (shape:CommShape) (w:World) (m':Machine) (h:(communicate p rest gs i g cases blocking shape w).1= .next m'):w.drawn<=m'.world.drawn:=by
 unfold communicate at h;simp only[]at h;split at h
 ·simp at h
 ·split at h
  ·split at h
   ·split at h
    ·rename_i hw;simp only[Stepped.next.injEq]at h;subst h;exact Nat.le_of_eq (Mc hw).symm
    ·simp at h
   ·simp only[Stepped.next.injEq]at h;subst h;exact Nat.le_refl _
  ·split at h
   ·simp at h
   ·rename_i heq;have h1:=of_run heq;clear heq
    repeat' first
     |(simp at h;done)
     |(simp only[Stepped.next.injEq]at h;subst h;exact h1)
     |(rename_i heq2;simp only[Stepped.next.injEq]at h;subst h;exact Nat.le_trans h1 (of_run heq2))
     |split at h
theorem Qp (p:Program) (gs:Array Goroutine) (rest:Rest) (w:World) (m':Machine) (h:look p gs rest w= .next m'):w.drawn<=m'.world.drawn:=by
 unfold look at h;simp only[]at h
 repeat' first
  |(simp at h;done)
  |(simp only[Stepped.next.injEq]at h;subst h;rename_i heq;exact of_run heq)
  |split at h
theorem SX (w:World) (c:Nat):(drain w c).2.drawn=w.drawn:=by
 unfold drain;split<;>rfl
theorem FI (m:Machine) (k:Nat) (t:Timer) (a b:Nat):(retime m k t a b).2.world.drawn=m.world.drawn:=by
 unfold retime;cases hc:t.chan with
 |none=>simp only[]
 |some c=>simp only[];exact SX _ _
theorem J4 {m:Machine} {var:Addr} {f:Nat->Timer->Value×Machine} {d:Nat} (hf:∀k t,(f k t).2.world.drawn=d) {v:Value} {m':Machine} (h:timerOp.named m var f= .ok (v,m')):m'.world.drawn=d:=by
 unfold timerOp.named at h;split at h
 ·simp only[Except.ok.injEq]at h;have:=hf ‹_› (m.rest.timers.getD ‹_› default);rw[h]at this;exact this
 ·simp at h
theorem Md (m m':Machine) (op:TimerOp) (v:Value) (h:timerOp m op= .ok (v,m')):m'.world.drawn=m.world.drawn:=by
 unfold timerOp at h;split at h
 ·split at h
  ·simp only[Except.ok.injEq,Prod.mk.injEq]at h;rw[<-h.2];rfl
  ·split at h
   ·split at h
    ·simp at h
    ·simp only[Except.ok.injEq,Prod.mk.injEq]at h;rw[<-h.2]
   ·simp at h
 ·exact J4 (fun k t=>FI _ _ _ _ _) h
 ·split at h
  ·rename_i m1 hm
   have hm1:m1.world.drawn=m.world.drawn:=by
    unfold timerOp.opened at hm;split at hm
    ·split at hm
     ·simp only[Option.some.injEq]at hm;rw[<-hm]
     ·simp at hm
    ·simp only[Option.some.injEq]at hm;rw[<-hm]
   rw[<-hm1];exact J4 (fun k t=>FI _ _ _ _ _) h
  ·simp at h
 ·simp only[Except.ok.injEq,Prod.mk.injEq]at h;rw[<-h.2];rfl
theorem XC (p:Program) (m m':Machine) (i:Nat) (b:Bool) (h:(runT p m i b).1= .next m'):m.world.drawn<=m'.world.drawn:=by
 simp only[runT]at h
 revert h
 generalize m.gs.swapAt! _ _=gg;have hs:=SV p (i==0) gg.1 m.world b;generalize stepG p _ gg.1 m.world b=s at hs;intro h;cases s<;>simp only[]at h
 all_goals first
  |(simp at h;done)
  |exact Nat.le_trans hs (z8 _ _ _ _ _ _ _ _ _ _ h)
  |exact Nat.le_trans hs (Qp _ _ _ _ _ h)
  |(simp only[Stepped.next.injEq]at h;subst h;exact hs)
  |(repeat' first
   |(simp at h;done)
   |(simp only[Stepped.next.injEq]at h;subst h;exact hs)
   |(rename_i heq;simp only[Stepped.next.injEq]at h;subst h;have e:=congrArg gd heq;rw[IC]at e;exact Nat.le_trans hs (Nat.le_of_eq e))
   |(rename_i heq;simp only[Stepped.next.injEq]at h;subst h;exact Nat.le_trans hs (Nat.le_of_eq (Md _ _ _ _ heq).symm))
   |split at h)
theorem SY (p:Program) (m m':Machine) (k:Nat) (h:serve p m k= .next m'):m'.world.drawn=m.world.drawn:=by
 unfold serve at h;simp only[]at h
 repeat' first
  |(simp at h;done)
  |(simp only[Stepped.next.injEq]at h;subst h;rfl)
  |split at h
theorem uG {α:Type} {p:Program} {s:Sem α} {w w':World} {a:α} (h:s.run p w= .ok a w'):w.drawn<=w'.drawn:=of_run h
theorem Ta (p:Program) (m m':Machine) (i:Nat) (h:askOn p m= .goroutine m' i):m.world.drawn<=m'.world.drawn:=by
 unfold askOn at h;simp only[]at h
 repeat' first
  |(simp at h;done)
  |(simp only[Move.goroutine.injEq]at h;obtain⟨hm,hi⟩:=h;rw[<-hm];clear hm hi m' i;(try simp only[Machine.advanceTo]at*);grind [->uG])
  |split at h
theorem Tc (p:Program) (m m':Machine) (ops:Array MemOp) (h:askOn p m= .machine (.next m') ops):m.world.drawn<=m'.world.drawn:=by
 unfold askOn at h;simp only[]at h
 repeat' first
  |(simp at h;done)
  |(simp only[Move.machine.injEq]at h;have hv:=SY _ _ _ _ h.1;rw[hv];clear h hv;simp only[];grind [->uG])
  |(simp only[Move.machine.injEq,Stepped.next.injEq]at h;obtain⟨rfl,_⟩:=h;(try simp only[Machine.advanceTo]at*);grind [->uG])
  |split at h
theorem VF (p:Program) (m:Machine):(∃m₂,m.world.drawn<=m₂.world.drawn/\ ask p m=askOn p m₂)∨(∃o w,ask p m= .machine (.ended o w) #[]):=by
 unfold ask;by_cases hw:m.rest.watch=true
 ·rw[if_pos hw]
  cases hr : (choose (.extern "collector.look" 2)).run p m.world with
  |halt h w=>exact .inr ⟨_,_,rfl⟩
  |ok k world=>
   have hd:=uG hr;rcases k with _| _|k
   ·exact .inl ⟨{ m with world },hd,rfl⟩
   ·show(∃m₂,m.world.drawn<=m₂.world.drawn/\ (match look p m.gs m.rest world with| .next m=>askOn p m|e=>Move.machine e)=askOn p m₂)∨
     (∃o w,(match look p m.gs m.rest world with| .next m=>askOn p m|e=>Move.machine e)= .machine (.ended o w) #[])
    cases hl:look p m.gs m.rest world with
    |next m₂=>exact .inl ⟨m₂,Nat.le_trans hd (Qp _ _ _ _ _ hl),rfl⟩
    |ended o w=>exact .inr ⟨o,w,rfl⟩
   ·exact .inl ⟨{ m with world },hd,rfl⟩
 ·simp only[hw,Bool.false_eq_true,if_false];exact .inl ⟨m,Nat.le_refl _,rfl⟩
theorem XD (p:Program) (m m':Machine) (i:Nat) (h:move p m= .goroutine m' i):m.world.drawn<=m'.world.drawn:=by
 have H:∀m₁:Machine,m₁.world=m.world->ask p m₁= .goroutine m' i->m.world.drawn<=m'.world.drawn:=by
  intro m₁ e h;rcases VF p m₁ with⟨m₂,hd,he⟩|⟨o,w,he⟩
  ·rw[he]at h;rw[e]at hd;exact Nat.le_trans hd (Ta p m₂ m' i h)
  ·rw[he]at h;cases h
 unfold move at h
 repeat' first
  |(simp at h;done)
  |exact H _ (by rfl) h
  |(simp only[Move.goroutine.injEq]at h;obtain⟨hm,_⟩:=h;rw[<-hm];exact Nat.le_refl _)
  |split at h
theorem XE (p:Program) (m m':Machine) (ops:Array MemOp) (h:move p m= .machine (.next m') ops):m.world.drawn<=m'.world.drawn:=by
 have H:∀m₁:Machine,m₁.world=m.world->ask p m₁= .machine (.next m') ops->m.world.drawn<=m'.world.drawn:=by
  intro m₁ e h;rcases VF p m₁ with⟨m₂,hd,he⟩|⟨o,w,he⟩
  ·rw[he]at h;rw[e]at hd;exact Nat.le_trans hd (Tc p m₂ m' ops h)
  ·rw[he]at h;simp at h
 unfold move at h
 repeat' first
  |(simp at h;done)
  |exact H _ (by rfl) h
  |split at h
theorem XF (p:Program) (m m':Machine) (h:step p m= .next m'):m.world.drawn<=m'.world.drawn:=by
 simp only[step,stepT]at h;split at h
 next m₁ i hm=>exact Nat.le_trans (XD p m m₁ i hm) (XC p m₁ m' i true h)
 next s ops hm=>
  simp only[]at h;subst h;exact XE p m m' ops hm
theorem Td {P:Program} {m m':Machine} (h:Steps P m m'):m.world.drawn<=m'.world.drawn:=by
 obtain⟨n,hn⟩:=h;induction n generalizing m with
 |zero=>
  have h:Stepped.next m= .next m':=hn;cases h;exact Nat.le_refl _
 |succ n ih=>
  simp only[runN]at hn;cases hs:step P m with
  |next m₁=>rw[hs]at hn;exact Nat.le_trans (XF P m m₁ hs) (ih hn)
  |ended o w=>rw[hs]at hn;cases hn
theorem FJ {P:Program} {f:FuncId} {args:Array Value} {w:World} {R:Ending->World->Prop} (h:Calls P f args w R) (hR:∀e w',R e w'->∃v,e= .returned v):
  Calls P f args w (fun e w'=>R e w'/\ w.drawn<=w'.drawn):=by
 intro cs;obtain⟨e,w',fr,hr,hc,hf,hl⟩:=h cs;obtain⟨v,rfl⟩:=hR _ _ hr;exact⟨_,w',fr,⟨hr,Td hc⟩,hc,hf,hl⟩
end Dw
open Go.Shelf
def Tryz.Bt:Go.Shelf.Ren:=⟨fun|6=>171|14=>183|15=>184|20=>196|21=>197|22=>198|23=>199|24=>200|25=>201|26=>202|27=>203|28=>130|29=>204|46=>216|47=>217|48=>218|49=>219|50=>220|57=>225|n=>n,fun|0=>0|3=>3|4=>4|5=>5|9=>9|22=>22|24=>54|25=>141|39=>212|45=>246|46=>247|50=>251|53=>105|55=>137|66=>258|70=>262|76=>268|77=>151|n=>n,fun n=>n⟩
theorem Tryz.VG:Go.Proofs.SlLaysF0.n6 Tryz.prog Tryz.Bt:={
 mixed:=by kernel_rfl
 f6 := ⟨ "slices.SortFunc[[]porism/api.Term,porism/api.Term]", by kernel_rfl, Tryz.func171.trans (congrArg some (by kernel_rfl))⟩
 f14 := ⟨ "slices.pdqsortCmpFunc[porism/api.Term]", by kernel_rfl, Tryz.func183.trans (congrArg some (by kernel_rfl))⟩
 f15:=Tryz.func184.trans (congrArg some (by kernel_rfl))
 f20 := ⟨ "slices.insertionSortCmpFunc[porism/api.Term]", by kernel_rfl, Tryz.func196.trans (congrArg some (by kernel_rfl))⟩
 f21 := ⟨ "slices.heapSortCmpFunc[porism/api.Term]", by kernel_rfl, Tryz.func197.trans (congrArg some (by kernel_rfl))⟩
 f22 := ⟨ "slices.breakPatternsCmpFunc[porism/api.Term]", by kernel_rfl, Tryz.func198.trans (congrArg some (by kernel_rfl))⟩
 f23 := ⟨ "slices.choosePivotCmpFunc[porism/api.Term]", by kernel_rfl, Tryz.func199.trans (congrArg some (by kernel_rfl))⟩
 f24 := ⟨ "slices.reverseRangeCmpFunc[porism/api.Term]", by kernel_rfl, Tryz.func200.trans (congrArg some (by kernel_rfl))⟩
 f25 := ⟨ "slices.partialInsertionSortCmpFunc[porism/api.Term]", by kernel_rfl, Tryz.func201.trans (congrArg some (by kernel_rfl))⟩
 f26 := ⟨ "slices.partitionEqualCmpFunc[porism/api.Term]", by kernel_rfl, Tryz.func202.trans (congrArg some (by kernel_rfl))⟩
 f27 := ⟨ "slices.partitionCmpFunc[porism/api.Term]", by kernel_rfl, Tryz.func203.trans (congrArg some (by kernel_rfl))⟩
 f28:=Tryz.func130.trans (congrArg some (by kernel_rfl))
 f29:=Tryz.func204.trans (congrArg some (by kernel_rfl))
 f46 := ⟨ "slices.siftDownCmpFunc[porism/api.Term]", by kernel_rfl, Tryz.func216.trans (congrArg some (by kernel_rfl))⟩
 f47:=Tryz.func217.trans (congrArg some (by kernel_rfl))
 f48:=Tryz.func218.trans (congrArg some (by kernel_rfl))
 f49 := ⟨ "slices.medianAdjacentCmpFunc[porism/api.Term]", by kernel_rfl, Tryz.func219.trans (congrArg some (by kernel_rfl))⟩
 f50 := ⟨ "slices.medianCmpFunc[porism/api.Term]", by kernel_rfl, Tryz.func220.trans (congrArg some (by kernel_rfl))⟩
 f57 := ⟨ "slices.order2CmpFunc[porism/api.Term]", by kernel_rfl, Tryz.func225.trans (congrArg some (by kernel_rfl))⟩
 t0:=Tryz.underlying0
 a0:=Tryz.isAgg0
 z0:=Tryz.sizeOf0
 v0:=Tryz.zeroValue0
 t3:=Tryz.underlying3
 a3:=Tryz.isAgg3
 z3:=Tryz.sizeOf3
 v3:=Tryz.zeroValue3
 t4:=Tryz.underlying4
 a4:=Tryz.isAgg4
 z4:=Tryz.sizeOf4
 v4:=Tryz.zeroValue4
 t5:=Tryz.underlying5
 a5:=Tryz.isAgg5
 z5:=Tryz.sizeOf5
 v5:=Tryz.zeroValue5
 t9:=Tryz.underlying9
 a9:=Tryz.isAgg9
 z9:=Tryz.sizeOf9
 v9:=Tryz.zeroValue9
 t22:=Tryz.underlying22
 a22:=Tryz.isAgg22
 z22:=Tryz.sizeOf22
 v22:=Tryz.zeroValue22
 t25:=Tryz.underlying141
 a25:=Tryz.isAgg141
 z25:=Tryz.sizeOf141
 v25:=Tryz.zeroValue141
 t39:=Tryz.underlying212
 a39:=Tryz.isAgg212
 z39:=Tryz.sizeOf212
 v39:=Tryz.zeroValue212
 t45:=Tryz.underlying246
 a45:=Tryz.isAgg246
 z45:=Tryz.sizeOf246
 v45:=Tryz.zeroValue246
 t46:=Tryz.underlying247
 a46:=Tryz.isAgg247
 z46:=Tryz.sizeOf247
 v46:=Tryz.zeroValue247
 t50:=Tryz.underlying251
 a50:=Tryz.isAgg251
 z50:=Tryz.sizeOf251
 v50:=Tryz.zeroValue251
 t53:=Tryz.underlying105
 a53:=Tryz.isAgg105
 z53:=Tryz.sizeOf105
 v53:=Tryz.zeroValue105
 t55:=Tryz.underlying137
 a55:=Tryz.isAgg137
 z55:=Tryz.sizeOf137
 v55:=Tryz.zeroValue137
 t66:=Tryz.underlying258
 a66:=Tryz.isAgg258
 z66:=Tryz.sizeOf258
 v66:=Tryz.zeroValue258
 t70:=Tryz.underlying262
 a70:=Tryz.isAgg262
 z70:=Tryz.sizeOf262
 v70:=Tryz.zeroValue262
 t76:=Tryz.underlying268
 a76:=Tryz.isAgg268
 z76:=Tryz.sizeOf268
 v76:=Tryz.zeroValue268
 t77:=Tryz.underlying151
 a77:=Tryz.isAgg151
 z77:=Tryz.sizeOf151
 v77:=Tryz.zeroValue151 }
open Go.RowKit Go.Shelf
theorem zm (ao:Option Addr) (cap:Nat) (fv:Value) (w:World):
  Calls Tryz.prog 196 #[.slice ao 0 cap,.int .i64 0,.int .i64 0,fv] w (fun e w'=>e= .returned (.tuple #[])/\ w'=w):=by
 go_enter Tryz.func196,Tryz.ntmps196;go_wp2;refine wp_loop_rounds 1 ?_;rw[rounds_succ];go_wp2;go_end0;exact⟨rfl,rfl⟩
theorem FK (ao:Option Addr) (cap:Nat) (l:Int) (fv:Value) (w:World):
  Calls Tryz.prog 183 #[.slice ao 0 cap,.int .i64 0,.int .i64 0,.int .i64 l,fv] w (fun e w'=>e= .returned (.tuple #[])/\ w'=w):=by
 go_enter Tryz.func183,Tryz.ntmps183;go_wp2;refine wp_loop_rounds 1 ?_;rw[rounds_succ];go_wp2_with fail;refine(zm _ _ _ _).mono ?_;rintro e w' ⟨rfl,rfl⟩;go_wp2_with fail
 (try simp only[Exit.inBlock,Exit.then])
 refine bodyPost_ret (results_none rfl _ _ _) rfl ?_;exact⟨rfl,rfl⟩
theorem C9 (ao:Option Addr) (cap:Nat) (fv:Value) (w:World):
  Calls Tryz.prog 171 #[.slice ao 0 cap,fv] w (fun e w'=>e= .returned (.tuple #[])/\ w'=w):=by
 have L:=Tryz.VG;have hl:∀W,Calls Tryz.prog 184 #[.int .u64 0] W (fun e w'=>e= .returned (.int .i64 (Lib.bitLen 0:Nat))/\ w'=W):=fun W=>Any.bits_Len (SlLaysF0.n15.bits (P:=Tryz.prog) (ρ:=Tryz.Bt) { L with }) 0 W (by omega) (by omega)
 clear L;go_enter Tryz.func171,Tryz.ntmps171;go_wp2_with fail;refine(hl _).mono ?_;rintro e w' ⟨rfl,rfl⟩;go_wp2_with fail;refine(FK _ _ _ _ _).mono ?_;rintro e w' ⟨rfl,rfl⟩;go_wp2_with fail;go_end0;exact⟨rfl,rfl⟩
open Go.Shelf Go.RowKit Go.Lib
theorem grown_of {W w':World} (hb:Below W.heap.size W w') (hd:W.drawn<=w'.drawn):∃q os,w'=Sort.grow (W.drewN q) os:=by
 refine⟨w'.drawn-W.drawn,w'.heap.extract W.heap.size w'.heap.size,?_⟩;obtain⟨h1,t1,d1,o1,p1⟩:=W;obtain⟨h2,t2,d2,o2,p2⟩:=w';have e1:o2=o1:=hb.os;have e2:t2=t1:=hb.tape;have e3:p2=p1:=hb.output;subst e1 e2 e3;have hs:h1.size<=h2.size:=hb.size;have hk:∀k,k<h1.size->h2[k]? =h1[k]? :=hb.block;have hdd:d1<=d2:=hd;show(⟨h2,t2,d2,o2,p2⟩:World)=⟨h1++h2.extract h1.size h2.size,t2,d1+(d2-d1),o2,p2⟩;rw[show d1+(d2-d1)=d2 by omega]
 congr 1
 apply Array.ext_getElem?;intro i;by_cases hi:i<h1.size
 ·rw[hk i hi,Array.getElem?_append_left hi]
 ·rw[Array.getElem?_append_right (by omega),Array.getElem?_extract];by_cases h2i:i<h2.size
  ·rw[if_pos (by omega),show h1.size+(i-h1.size)=i by omega]
  ·rw[if_neg (by omega),Array.getElem?_eq_none (by omega)]
structure qQ where
 m:Bool
 ao:Option Addr
 n:Nat
 cap:Nat
 bo:Option Addr
 k:Nat
 cb:Nat
 t:Term
def qQ.vs (c:qQ):List Value:=[.bool c.m,.slice c.ao c.n c.cap,.slice c.bo c.k c.cb]
def MO [Ol] (K:Nat) (w:World) (c:qQ):Prop:=(Cn w c.m c.ao c.n c.cap c.t.1/\ Bd c.t.1 K/\ Ml w c.bo c.k c.cb c.t.2)/\ aJ 0 c.t.2=true
def MP [Ol] (K:Nat) (w:World):Type:={c:qQ//MO K w c}
def encS [Ol] {K:Nat} {w:World} (x:MP K w):List Value:=x.1.vs
def Yx [Ol] {K:Nat} {w:World} (x y:MP K w):Int:=gN y.1.t.2 x.1.t.2
theorem MO.stays [Ol] {K:Nat} {w w':World} {g:Nat} (hc:bV w g) (hG:w.grownBy w' (some g)) {c:qQ} (h:MO K w c):MO K w' c:=
 ⟨⟨h.1.1.eY hc hG,h.1.2.1,h.1.2.2.eY hc hG⟩,h.2⟩
theorem J5 [Ol] {K:Nat} {w:World}:∀{X:List (List Value)} {p:List Term},bG (fP K w) X p->(∀t∈p,aJ 0 t.2=true)->∃l:List (MP K w),l.map encS=X/\ l.map (fun x=>x.1.t)=p
 |[],[],_,_=>⟨[],rfl,rfl⟩
 |v::X,t::p,h,hm=>by
  obtain⟨⟨m,ao,n,cap,bo,k,cb,rfl,h2,h3,h4⟩,hr⟩:=h;obtain⟨l,rfl,rfl⟩:=J5 hr (fun s hs=>hm s (List.mem_cons_of_mem _ hs));exact⟨⟨⟨m,ao,n,cap,bo,k,cb,t⟩,⟨h2,h3,h4⟩,hm t List.mem_cons_self⟩::l,rfl,rfl⟩
 |[],_::_,h,_=>h.elim
 | _::_,[],h,_=>h.elim
theorem J6 [Ol] {K:Nat} {w w':World} (hw:∀c:qQ,MO K w c->MO K w' c):∀l:List (MP K w),bG (fP K w') (l.map encS) (l.map (fun x=>x.1.t))
 |[]=>trivial
 |x::l=>by
  have h:=hw x.1 x.2;exact⟨⟨x.1.m,x.1.ao,x.1.n,x.1.cap,x.1.bo,x.1.k,x.1.cb,rfl,h.1.1,h.1.2.1,h.1.2.2⟩,J6 hw l⟩
theorem J7 [Ol] {K:Nat} {w:World} (x y:MP K w):ltOf Yx x y=true↔kY x.1.t.2 y.1.t.2:=by
 have hx:=x.2.2;have hy:=y.2.2;unfold ltOf Yx;rw[decide_eq_true_iff];constructor
 ·intro h;rcases kZ hy hx with e|e|e
  ·exact GI hy hx e
  ·omega
  ·omega
 ·intro h;rcases kZ hy hx with e|e|e
  ·omega
  ·rw[cmp_eq hy hx e]at h;exact(iX h).elim
  ·exact(iX (fV h (BV hy hx e))).elim
theorem aj2 [Ol] {K:Nat} {w:World}:Sort.SWO (ltOf (Yx (K:=K) (w:=w))):=by
 have H:=fun x y:MP K w=>J7 x y
 have Hn:∀x y:MP K w,ltOf Yx x y=false↔x.1.t.2=y.1.t.2∨kY y.1.t.2 x.1.t.2:=fun x y=>by
  rw[<-Bool.not_eq_true,H];constructor
  ·intro h;rcases uY x.2.2 y.2.2 with e|e|e
   ·exact(h e).elim
   ·exact .inl e
   ·exact .inr e
  ·rintro(e|e) h
   ·rw[e]at h;exact iX h
   ·exact iX (fV h e)
 refine⟨fun x=>(Hn x x).2 (.inl rfl),fun x y z h1 h2=>(H x z).2 (fV ((H x y).1 h1) ((H y z).1 h2)),fun x y z h1 h2=>(Hn x z).2 ?_⟩;rcases(Hn x y).1 h1 with e|e
 ·rcases(Hn y z).1 h2 with e2|e2
  ·exact .inl (e.trans e2)
  ·exact .inr (by rw[e];exact e2)
 ·rcases(Hn y z).1 h2 with e2|e2
  ·exact .inr (by rw[<-e2];exact e)
  ·exact .inr (fV e2 e)
theorem aN.sorted {α:Type} [Inhabited α] {enc:α->List Value} {w:World} {g off:Nat} {L:List Value} {T:TypeId} (h:aN w g L T) (d:Array α) (n:Nat) (os:Array Obj):
  aN (sortWorldK enc 3 w g off n d os) g (Sort.putCells id off (Sort.flatK enc 3 d) L.toArray).toList T:=by
 have hlt:=h.lt;unfold aN at h ⊢;show((w.heap.modify g _)++os)[g]? =_;rw[Array.getElem?_append_left (by simpa using hlt)];simp[Array.getElem?_modify,h,Sort.onCells]
theorem uH {α:Type} [Inhabited α] (enc:α->List Value) (w:World) (g off:Nat) (d:Array α) (n:Nat) (os:Array Obj):w.grownBy (sortWorldK enc 3 w g off n d os) (some g):=by
 refine⟨rfl,rfl,rfl,?_,fun k hk hne=>?_⟩
 ·show w.heap.size<=((w.heap.modify g _)++os).size;simp
 ·show((w.heap.modify g _)++os)[k]? =_;have hk2:g≠k:=fun e=>hne (by rw[e])
  rw[Array.getElem?_append_left (by simpa using hk)];simp[Array.getElem?_modify,hk2]
theorem Me {α:Type} [Inhabited α] {enc:α->List Value} (hk:∀x,(enc x).length=3) {w:World} {g off:Nat} {L:List Value} {T:TypeId} (h:aN w g L T) {d:Array α} (hs:Seg 3 L off (d.toList.map enc)):
  Sort.HoldsK enc 3 w g off d:=fun j hj=>by
 have hj':j<d.size*3:=by simpa using hj
 have hq:j/3<d.size:=by omega
 refine⟨?_,h.fz _⟩;rw[h.cell,Sort.get_flatK _ _ _ _ hj'];have h3:=hs (j/3) (by simpa using hq) (j%3) (by omega)
 have e:(d.toList.map enc).getD (j/3) []=enc d[j/3]! :=by
  rw[getElem!_pos d (j/3) hq];simp[List.getD,hq]
 rw[show off+j=off+j/3*3+j%3 by omega,h3,e,List.getElem?_eq_getElem (by rw[hk];omega),getElem!_pos (enc d[j/3]!) (j%3) (by rw[hk];omega)];rfl
theorem Qq {α:Type} [Inhabited α] {enc:α->List Value} (L:List Value) (off:Nat) (d:Array α) (i:Nat) (hi:i<L.length):
  (Sort.putCells id off (Sort.flatK enc 3 d) L.toArray).toList[i]? =some (if off<=i/\ i<off+d.size*3 then(enc d[(i-off)/3]!)[(i-off)%3]! else L[i]):=by
 rw[Array.getElem?_toList];unfold Sort.putCells;rw[Array.getElem?_mapIdx,List.getElem?_toArray,List.getElem?_eq_getElem hi,Option.map_some,Sort.size_flatK];by_cases hc:off<=i/\ i<off+d.size*3
 ·rw[if_pos hc,if_pos hc,Sort.get_flatK _ _ _ _ (by omega)];rfl
 ·rw[if_neg hc,if_neg hc]
theorem J8 {α:Type} [Inhabited α] {enc:α->List Value} (L:List Value) (off:Nat) (d:Array α):(Sort.putCells id off (Sort.flatK enc 3 d) L.toArray).toList.length=L.length:=by simp[Sort.putCells]
theorem Te {α:Type} [Inhabited α] {enc:α->List Value} (hk:∀x,(enc x).length=3) (L:List Value) (off:Nat) (d:Array α) (hl:off+d.size*3<=L.length):
  Seg 3 (Sort.putCells id off (Sort.flatK enc 3 d) L.toArray).toList off (d.toList.map enc):=fun t ht j hj=>by
 have hq:t<d.size:=by simpa using ht
 have e:(d.toList.map enc).getD t []=enc d[t]! :=by
  rw[getElem!_pos d t hq];simp[List.getD,hq]
 rw[Qq L off d _ (by omega),if_pos (by omega),e,show(off+t*3+j-off)/3=t by omega,show(off+t*3+j-off)%3=j by omega,List.getElem?_eq_getElem (by rw[hk];exact hj),getElem!_pos (enc d[t]!) j (by rw[hk];exact hj)]
theorem IE {α:Type} [Inhabited α] {enc:α->List Value} (hk:∀x,(enc x).length=3) (hc:∀x,∀v∈enc x,aX v=true) {L:List Value} (hL:Clean L) (off:Nat) (d:Array α):
  Clean (Sort.putCells id off (Sort.flatK enc 3 d) L.toArray).toList:=fun u hu=>by
 obtain⟨i,hi,rfl⟩:=List.mem_iff_getElem.1 hu;have hi2:i<L.length:=by rw[J8]at hi;exact hi
 have h:=Qq (enc:=enc) L off d i hi2;rw[List.getElem?_eq_getElem hi]at h;rw[Option.some.inj h];by_cases hh:off<=i/\ i<off+d.size*3
 ·rw[if_pos hh];have hm:(i-off)%3<(enc d[(i-off)/3]!).length:=by rw[hk];omega
  rw[getElem!_pos (enc d[(i-off)/3]!) ((i-off)%3) hm];exact hc _ _ (List.getElem_mem hm)
 ·rw[if_neg hh];exact hL _ (List.getElem_mem hi2)
theorem uI [Ol] {K:Nat} {w:World} (x:MP K w):(encS x).length=3:=rfl
theorem FL [Ol] {K:Nat} {w:World} (x:MP K w):∀v∈encS x,v.oneCell'=true:=fun v hv=>by
 simp only[encS,qQ.vs,List.mem_cons,List.not_mem_nil,or_false]at hv;rcases hv with rfl|rfl|rfl<;>rfl
theorem Qr [Ol] {K:Nat} {w:World} (x:MP K w):∀v∈encS x,aX v=true:=fun v hv=>by
 simp only[encS,qQ.vs,List.mem_cons,List.not_mem_nil,or_false]at hv;rcases hv with rfl|rfl|rfl<;>rfl
theorem IG [Ol] {ρ:Ren} (H6:SlLaysF0.n6 Tryz.prog ρ) (aE:∀w,(isAgg (ρ.t 24)).run Tryz.prog w= .ok true w) (zE:∀w,(Go.sizeOf (ρ.t 24)).run Tryz.prog w= .ok 3 w)
  {B K:Nat} {w:World} {g off n cap:Nat} {p:List Term} (h:Pw B K w (some ⟨g,off,none⟩) n cap p) (hn:0<n) (hm:∀t∈p,aJ 0 t.2=true)
  (F:Nat) (eg:∀args w,(callFunc F args).run Tryz.prog w= .ok (.enter F args) w)
  (hF:∀(W:World) (x y:qQ),MO K W x->MO K W y->Calls Tryz.prog F #[.agg x.vs.toArray,.agg y.vs.toArray] W (bN (.int .i64 (gN y.t.2 x.t.2)) W)):
  Calls Tryz.prog (ρ.f 6) #[.slice (some ⟨g,off,none⟩) n cap,.func (.func F) #[] #[]] w fun e w'=>
   e= .returned (.tuple #[])/\∃q,q.Perm p/\ q.Pairwise (fun s t=>¬kY t.2 s.2)/\ Pw B K w' (some ⟨g,off,none⟩) n cap q/\ w.grownBy w' (some g):=by
 obtain⟨X,hR,hT⟩:=h;rcases hR.ex with⟨h0,_⟩|⟨g',off',L,hao,hB,hA,hcl,hl,hnc,hcm,hnm,zf,hE,hS⟩
 ·cases h0
 cases hao;obtain⟨l,hlX,hlp⟩:=J5 hT hm;have hll:l.length=n:=by rw[<-zf,<-hlX,List.length_map]
 cases hle:l with
 |nil=>rw[hle]at hll;simp at hll;omega
 |cons x0 l0=>
  letI:Inhabited (MP K w):=⟨x0⟩
  have hsz:l.toArray.size=n:=by simpa using hll
  have VE:bV w g:=hA.dF hcl;have hSt:∀(m:Nat) (os:Array Obj) (dk:Array (MP K w)) (c:qQ),MO K w c->MO K (sortWorldK encS 3 w g off m dk os) c:=fun m os dk c hc=>hc.stays VE (uH encS w g off dk m os)
  have hcmp:CmpLays Tryz.prog F #[] (encS (K:=K) (w:=w)) 3 Yx g off l.toArray.size w:=fun m os dk _ x y=>by
   rw[Array.append_empty];exact(Dw.FJ (hF _ x.1 y.1 (hSt m os dk _ x.2) (hSt m os dk _ y.2)) (fun e w' hr=>⟨_,hr.1⟩)).mono fun e w' hr=>⟨hr.1.1,grown_of hr.1.2 hr.2⟩
  have hH:Sort.HoldsK encS 3 w g off l.toArray:=Me uI hA (by show Seg 3 L off (l.map encS);rw[hlX];exact hS);have hC:=AnyQ.slices_SortFunc H6 3 aE zE encS uI FL Yx aj2 F #[] g off cap l.toArray w eg hcmp hH hA.lt (by rw[hsz];omega);rw[hsz]at hC;refine hC.mono ?_;rintro e w' ⟨rfl,d',m,os,hP,hO,rfl⟩;have hs':d'.size=n:=hP.1.trans hsz
  have hPm:d'.toList.Perm l:=by
   have:=hP.2.2;rw[<-hs',Array.extract_size,hs',<-hsz,Array.extract_size]at this;exact this
  refine⟨rfl,d'.toList.map (fun x=>x.1.t),hlp▸hPm.map _,?_,⟨d'.toList.map encS,⟨.inr ⟨g,off,_,rfl,hB,hA.sorted d' m os,IE uI Qr hcl off d',by rw[J8];exact hl,hnc,hcm,hnm,by simpa using hs',?_,Te uI L off d' (by omega)⟩⟩,J6 (hSt m os d') d'.toList⟩,uH encS w g off d' m os⟩
  ·rw[List.pairwise_map,List.pairwise_iff_getElem];intro i j hi hj hij hgt;have hi':i<d'.size:=by simpa using hi
   have hj':j<d'.size:=by simpa using hj
   have:=hO i j (Nat.zero_le _) hij (by omega);rw[getElem!_pos d' i hi',getElem!_pos d' j hj']at this;rw[(J7 d'[j] d'[i]).2 (by simpa using hgt)]at this;cases this
  ·intro vs hvs;obtain⟨x,_,rfl⟩:=List.mem_map.1 hvs;exact⟨rfl,FL x⟩
open Lib (hid)
open Go.RowKit
theorem II [Ol] (x y:qQ) (K:Nat) (w:World) (hx:MO K w x) (hy:MO K w y):
  Calls Tryz.prog 172 #[.agg x.vs.toArray,.agg y.vs.toArray] w (bN (.int .i64 (gN y.t.2 x.t.2)) w):=by
 obtain⟨xm,xa,xn,xc,xp,xq,xr,s⟩:=x;obtain⟨ym,ya,yn,yc,yp,yq,yr,t⟩:=y;obtain⟨z,hz⟩:∃z,gN t.2 s.2=z:=⟨_,rfl⟩;show Calls Tryz.prog 172 #[.agg #[.bool xm,.slice xa xn xc,.slice xp xq xr],.agg #[.bool ym,.slice ya yn yc,.slice yp yq yr]] w (bN (.int .i64 (gN t.2 s.2)) w);rw[hz];have HX:Hid (Ml w xp xq xr s.2):=hid hx.1.2.2;have HY:Hid (Ml w yp yq yr t.2):=hid hy.1.2.2;have h1:aJ 0 s.2=true:=hx.2;have h2:aJ 0 t.2=true:=hy.2;have HZ:=hid hz;clear hx hy hz;go_enter Tryz.func172,Tryz.ntmps172;go_upto_region 1 with(fail)
 refine au (fun W hW=>?_);obtain⟨a1,a2,hB⟩:=Fp w [.bool xm,.slice xa xn xc,.slice xp xq xr] [.bool ym,.slice ya yn yc,.slice yp yq yr] 54 54;rw[<-hW]at a1 a2 hB;clear hW;obtain⟨c10,c11,c12⟩:=a1.c3;obtain⟨c20,c21,c22⟩:=a2.c3;have HB:=hid hB;clear a1 a2 hB;go_wp2_with fail;refine(rJ z (HY.out.below HB.out) (HX.out.below HB.out) h2 h1 HZ.out).mono ?_;rintro e w' ⟨rfl,hB⟩;have HB2:=hid (Below.steps HB.out hB);clear hB HB c10 c11 c12 c20 c21 c22;go_wp2_with fail;go_ret;exact⟨rfl,HB2.out⟩
theorem Iy [Ol] {B K:Nat} {w:World} {g off n cap:Nat} {p:List Term} (h:Pw B K w (some ⟨g,off,none⟩) n cap p) (hn:0<n) (hm:∀t∈p,aJ 0 t.2=true):
  Calls Tryz.prog 171 #[.slice (some ⟨g,off,none⟩) n cap,.func (.func 172) #[] #[]] w fun e w'=>
   e= .returned (.tuple #[])/\∃q,q.Perm p/\ q.Pairwise (fun s t=>¬kY t.2 s.2)/\ Pw B K w' (some ⟨g,off,none⟩) n cap q/\ w.grownBy w' (some g):=
 IG Tryz.VG (fun _=>rfl) (fun _=>rfl) h hn hm 172 (enters_of Tryz.func172 (by kernel_rfl) rfl) (fun W x y hx hy=>II x y K W hx hy)
end Go.Proofs.YthdhjckangekoaaGreat

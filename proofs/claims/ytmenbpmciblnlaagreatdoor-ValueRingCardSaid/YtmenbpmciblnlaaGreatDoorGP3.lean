import Derived.RangeFuncNested
import Derived.TacticsInMore
import Derived.OwnWalkIn
import Derived.LoopIn
import Derived.LoopNIn
import Derived.Test.YtmenbpmciblnlaaGreatDoorGP2
set_option maxHeartbeats 0
set_option maxRecDepth 100000
open Array renaming getElem?_eq_some_iff->ah6,replicate->ah5,replicate_succ->ah7,replicate_zero->ah8
open Go renaming Value->ai0,World->ah9
open Go.Fence renaming inRound->ai2,wide->ai1
open Go.Value renaming bool->ai4,slice->ai3
open Go.World renaming alloc_heap_new->ai6,cell?->ai8,putObj_heap_other->ai5,putObj_heap_same->ai7
open List renaming append_toArray->aj3,cons_append->aj5,getD_cons_zero->aj6,getElem?_eq_getElem->aj8,length_cons->aj0,length_nil->aj1,length_take->aj7,nil_append->aj4,push_toArray->aj2,size_toArray->ai9
open Nat renaming le_refl->aj9,le_trans->ak3,lt_of_lt_of_le->ak4,min_eq_left->ak6,mul_le_mul_right->ak5,reduceAdd->ak0,reduceSub->ak1,sub_self->ak2
open Option.some renaming inj->ak7
namespace Go.Proofs.YtmenbpmciblnlaaGreatDoor
open Go.RowKit
def kq (o:Oper):Bool:=match o.op with| .defer _=>false| _=>true
theorem He {o:Oper} (h:kq o=true) (c:Call):o.op≠ .defer c:=λe=>by simp[kq,e]at h
section
variable {P:Program} {Q:Exit->Act->ah9->Prop} {l n:Nat}
theorem xT {o:Oper} (hd:kq o=true) {a:Act} {w:ah9} {K:Act->ah9->Prop} (h:o.wp P a w K Q) (hQ:¬LetsOut Q):o.wpIn (ai1.inRound l) n P a w K Q:=by
 refine⟨λ_ _=>trivial,?_⟩;rw[Oper.semAt_eq _ _ _ (He hd)];unfold Oper.wp at h;generalize (execOp a.eval o).run P w=r at h ⊢;cases r with
 |ok x w'=>
  cases x with
  |value v=>exact h
  |skip=>exact h
  |defer d=>exact h
  |enter f args=>
   refine⟨λhx=>by simp[ai2,ai1]at hx,CallsIn.inRound l (callsIn_wide.2 (Calls.mono h ?_))⟩;intro e w'' he;cases e with
   |returned v=>exact he
   |panicked ch=>exact he
   |outgrown=>exact(hQ he).elim
  |row row args=>
   refine⟨λhx=>by simp[ai2,ai1]at hx,λc cs _=>?_⟩;obtain⟨v,w2,h1,h2⟩:=h c cs;exact⟨v,w2,h1,stepsIn_wide.2 h2⟩
  | _=>exact h.elim
 |halt x w'=>cases x<;>exact h
theorem rI {ops:Array Oper} (hQ:¬LetsOut Q):∀{os:List Oper} {a:Act} {w:ah9},os.all kq=true->wpList P ops Q os a w->wpListIn (ai1.inRound l) n P ops Q os a w
 |[],_,_,_,h=>h
 |o::os,a,w,hd,h=>by
  simp only[List.all_cons,Bool.and_eq_true]at hd;simp only[wpList]at h;simp only[wpListIn];by_cases hw:Region.wanted o (yielded ops a.tmps)=true
  ·rw[if_pos hw]at h ⊢;rcases h with h|⟨_,h⟩
   ·exact Oper.wpIn_mono (λa w h=>rI hQ hd.2 h) (xT hd.1 h hQ)
   ·exact(hQ h).elim
  ·rw[if_neg hw]at h ⊢;exact⟨λ_ _=>trivial,rI hQ hd.2 h⟩
theorem cj {id:Nat} {os:List Oper} {a:Act} {w:ah9} (hd:os.all kq=true) (hQ:¬LetsOut Q) (h:wpList P os.toArray Q os a w):(Code.region id os.toArray false).wpIn (ai1.inRound l) n P Q a w:=
 wpIn_region_lit (rI hQ hd h)
theorem Px {ops:Array Oper} (hd:ops.toList.all kq=true) (hQ:¬LetsOut Q) {i:Nat} {K K':Act->ah9->Prop} {a:Act} {w:ah9} (hK:∀a w,K a w->K' a w) (h:wpOp P ops Q i K a w):wpOpIn (ai1.inRound l) n P ops Q i K' a w:=by
 unfold wpOp at h;unfold wpOpIn;cases ho:ops[i]? with
 |none=>rw[ho]at h;exact hK _ _ h
 |some o=>
  rw[ho]at h;simp only at h ⊢;have hdo:kq o=true:=List.all_eq_true.1 hd o (Array.mem_toList_iff.2 (Array.mem_of_getElem? ho));by_cases hw:Region.wanted o (yielded ops a.tmps)=true
  ·rw[if_pos hw]at h ⊢;rcases h with h|⟨_,h⟩
   ·exact Oper.wpIn_mono hK (xT hdo h hQ)
   ·exact(hQ h).elim
  ·rw[if_neg hw]at h ⊢;exact⟨λ_ _=>trivial,hK _ _ h⟩
theorem Al {md:Region.Mode} {ops:Array Oper} (hd:ops.toList.all kq=true) (hQ:¬LetsOut Q):∀(fuel:Nat) (cB:Array Bool) (a:Act) (w:ah9),wpAny P md ops Q fuel cB a w->wpAnyIn (ai1.inRound l) n P md ops Q fuel cB a w
 |0,_,_,_,h=>h
 |fuel+1,_,_,_,h=>⟨h.1,λi hi=>Px hd hQ (λa w h=>Al hd hQ fuel _ a w h) (h.2 i hi)⟩
theorem rG {id:Nat} {os:List Oper} {S:ah9->Prop} {a:Act} {w:ah9} (hd:os.all kq=true) (hQ:¬LetsOut Q) (hm:P.follows .mixedOrders=true) (hS:S w.drew)
  (h:S w.drew->wpAnyH P .any os.toArray Q S os.toArray.size (ah5 os.toArray.size false) a w.drew):(Code.region id os.toArray true).wpIn (ai1.inRound l) n P Q a w:=
 wpIn_region_any hm (Al (by simpa using hd) hQ _ _ _ _ (wpAny_of_held _ _ _ _ (h hS)))
end
def ij (Fx:Nat->Prop) (A B:ah9):Prop:=∀k,Fx k->B.heap[k]? =A.heap[k]?
theorem ij.refl (Fx:Nat->Prop) (A:ah9):ij Fx A A:=λ_ _=>rfl
theorem ij.trans {Fx:Nat->Prop} {A B C:ah9} (h:ij Fx A B) (k:ij Fx B C):ij Fx A C:=λi hi=>(k i hi).trans (h i hi)
theorem ij.below {Fx:Nat->Prop} {n:Nat} {A B:ah9} (h:Below n A B) (hF:∀k,Fx k->k<n):ij Fx A B:=λi hi=>h.block i (hF i hi)
theorem ij.putObj {Fx:Nat->Prop} {A:ah9} {l:Nat} {o:Obj} (h:¬Fx l):ij Fx A (A.putObj l o):=λ_ hi=>ai5 (λe=>h (e▸hi))
theorem ij.put {Fx:Nat->Prop} {A B:ah9} {l:Nat} {o:Obj} (hA:ij Fx A B) (h:¬Fx l):ij Fx A (B.putObj l o):=hA.trans (ij.putObj h)
def I9 (P:Program) (g:Nat) (lb:Array ai0) (encs:Nat->Array ai0) (Fx:Nat->Prop) (N:Nat) (w:ah9):Prop:=
 ∀(l:Nat) (J:Nat->ah9->Prop) (W:ah9),ij Fx w W->
  (∀j W1,j<N->J j W1->YieldAt ai1 0 P l (encs j) W1 (λe W'=>e= .returned (ai4 true)/\ J (j+1) W'/\ ij Fx W1 W'))->
  J 0 W->CallsIn ai1 0 P g (#[.func (.yield l) #[] #[]]++lb) W (λe W'=>(∃v,e= .returned v)/\ J N W')
def GM (B:Nat) (Fx:Nat->Prop) (I:ah9->Prop) (W:ah9):Exit->Act->ah9->Prop
 | .normal,_,W'=>KeepsFrom B W W'/\ ij Fx W W'/\ I W'
 | _,_,_=>False
def PD (B:Nat) (X Y:ah9):Prop:=∃r,B<=r/\ X.grownBy Y (some r)/\∃o:Obj,X.heap[r]? =some o/\ o.isCells=false
theorem jA {P:Program} {g:Operand} {ps:Array Tmp} {assign body:Code} {Q:Exit->Act->ah9->Prop} {a:Act} {w:ah9} {gf:Nat} {lb:Array ai0} {encs:Nat->Array ai0} {Fx:Nat->Prop} {N:Nat}
  (hg:a.eval g= .func (.func gf) #[] lb) (eg:∀args w,(callFunc gf args).run P w= .ok (.enter gf args) w) (hH:I9 P gf lb encs Fx N w) (BM:∀k,Fx k->k<w.heap.size) (hps:∀j,(encs j).size=ps.size)
  (I:Nat->ah9->Prop) (hI:OwnFrom w.heap.size I) (h0:I 0 w)
  (Wd:∀(l j:Nat) (W:ah9),j<N->I j W->
   assign.wpIn (ai1.inRound l) 0 P (Exit.then (λa' X=>KeepsFrom w.heap.size W X/\ ij Fx W X/\∀Y,PD w.heap.size X Y->body.wpIn (ai1.inRound l) 0 P (GM w.heap.size Fx (I (j+1)) Y) a' Y) (λ_ _ _=>False))
    { tmps:=(ps.zip (encs j)).foldl (λt (p,v)=>t.setIfInBounds p v) a.tmps,defers:=[] } W)
  (hdone:∀(D:Nat) (W:ah9),w.heap.size<=D->I N W->W.heap[D]? =some (.deferred (some []))->Q .normal { a with defers:={ target:= .collected D,args:= #[] }::a.defers } W):
  (Code.rangeFunc g ps assign body).wpIn ai1 0 P Q a w:=by
 refine wpIn_rangeFunc λfn _=>?_
 obtain⟨L,hL⟩:∃L:LoopState->Loop,L=λst=>{ state:=st,pending:=none,fn,tmps:=a.tmps,params:=ps,assign,body,defers:=w.heap.size }:=⟨_,rfl⟩
 have hstart:=run_enterLoop_outer (P:=P) (w:=w) fn a.tmps ps assign body;have hLr:Loop.mk .ready none fn a.tmps ps assign body w.heap.size=L .ready:=by rw[hL]
 rw[hLr]at hstart;obtain⟨V,hV⟩:∃V,V=(w.alloc (.deferred (some []))).alloc (.loop (L .ready)):=⟨_,rfl⟩;rw[<-hV]at hstart;have Io:Below w.heap.size w V:=by rw[hV];exact((Below.refl _ w).alloc (aj9 _) _).alloc (by simp) _
 have hIV:I 0 V:=by rw[hV];exact hI.alloc _ (hI.alloc _ h0)
 have hl0:V.heap[w.heap.size+1]? =some (.loop (L .ready)):=by rw[hV];have:=ai6 (w.alloc (.deferred (some []))) (.loop (L .ready));rwa[World.size_alloc]at this
 have hd0:V.heap[w.heap.size]? =some (.deferred (some [])):=by rw[hV];exact(Below.heap_alloc _ _ _ (by simp)).trans (ai6 w _)
 clear hV;have nF:∀{k},w.heap.size<=k->¬Fx k:=λhk hf=>by have:=BM _ hf;omega
 refine⟨w.heap.size+1,_,V,{ target:= .fn (.func gf) lb,args:= #[.func (.yield (w.heap.size+1)) #[] #[]] },V,gf,#[.func (.yield (w.heap.size+1)) #[] #[]]++lb,V,hstart,by simp only[resolve,hg];simp[go_sem],λ_ _=>trivial,by simp[invoke,go_sem,eg],λhx=>by simp[ai1]at hx,?_⟩;refine(hH (w.heap.size+1) (λj W=>I j W/\ W.heap[w.heap.size+1]? =some (.loop (L .ready))/\ W.heap[w.heap.size]? =some (.deferred (some []))) V (ij.below Io BM) ?_ ⟨hIV,hl0,hd0⟩).mono ?_
 ·rintro j W hj ⟨hi,hl,hd⟩;have hy:=run_yield (P:=P) (args:=encs j) hl (by rw[hL];exact hps j);rw[hL]at hy;refine⟨fn,_,assign,body,hy,roundIn_of_wpIn trivial (wpIn_mono (Wd _ j W hj hi) ?_)⟩;clear hy;rintro e a' X hp;cases e with
  |normal=>
   obtain⟨hk,hf,hbody⟩:=hp;have hl':=hk.same _ _ (by omega) hl rfl;have hd':=hk.same _ _ (aj9 _) hd rfl;have hlt:w.heap.size+1<X.heap.size:=(ah6.1 hl').1;refine⟨_,run_beginRound hl' (by rw[hL]),?_⟩;obtain⟨Y,hY⟩:∃Y,Y=X.putObj (w.heap.size+1) (.loop { L .ready with state:= .busy }):=⟨_,rfl⟩;have hT:PD w.heap.size X Y:=⟨w.heap.size+1,by omega,by rw[hY];exact grownBy_putObj' _ _ _,_,hl',rfl⟩;have hlY:Y.heap[w.heap.size+1]? =some (.loop { L .ready with state:= .busy }):=by rw[hY];exact ai7 hlt
   have hdY:Y.heap[w.heap.size]? =some (.deferred (some [])):=by rw[hY];exact(ai5 (by omega)).trans hd'
   have hfY:ij Fx W Y:=by rw[hY];exact hf.put (nF (by omega))
   rw[<-hY];clear hY;refine wpIn_mono (hbody Y hT) ?_;rintro e a3 Z hp;cases e with
   |normal=>
    obtain⟨hk3,hf3,hi3⟩:=hp;have hlZ:=hk3.same _ _ (by omega) hlY rfl;have hdZ:=hk3.same _ _ (aj9 _) hdY rfl;refine⟨_,_,run_endRound none hlZ,rfl,⟨hI.putObj _ hi3 (by omega) hlZ rfl,?_,(ai5 (by omega)).trans hdZ⟩,(hfY.trans hf3).put (nF (by omega))⟩;rw[ai7 (ah6.1 hlZ).1,hL];rfl
   | _=>exact hp.elim
  | _=>exact hp.elim
 ·rintro e W ⟨⟨v,rfl⟩,hi,hl,hd⟩;have he:=run_endLoop (P:=P) hl (by rw[hL];simp);rw[hL]at he;exact⟨none,_,he,hdone _ _ (aj9 _) (hI.putObj _ hi (by omega) hl rfl) ((ai5 (by omega)).trans hd)⟩
open Lib (hid)
theorem cell_of_heap {A B:ah9} {a:Addr} (h:B.heap[a.block]? =A.heap[a.block]?):B.cell? a=A.cell? a:=by unfold ai8;rw[h]
def SH (P:Program) (fn:Func) (R:Ending->ah9->Prop):Exit->Act->ah9->Prop
 | .normal,a,w=>LeavesInM ai1 0 P fn a.tmps R a.defers .returning w
 | .ret,a,w=>LeavesInM ai1 0 P fn a.tmps R a.defers .returning w
 | _,_,_=>False
theorem lj {P:Program} {f:FuncId} {fn:Func} {c:Code} {args:Array ai0} {w:ah9} {R:Ending->ah9->Prop} (hf:P.funcs[f]? =some fn) (hb:fn.body=some c)
  (h:c.wp P (SH P fn R) { tmps:=args++ah5 (fn.ntmps-args.size) undef,defers:=[] } w):Calls P f args w R:=
 (callsIn_wide (n:=0)).1 (callsIn_of_wp_marks hf hb trivial ((wpIn_wide (n:=0)).2 (wp_mono h λe a w q=>by cases e<;>first|exact q|exact q.elim)) rfl)
theorem ij.cell {Fx:Nat->Prop} {A B:ah9} (h:ij Fx A B) {a:Addr} (hF:Fx a.block) {v:ai0} (hc:A.cell? a=some v):B.cell? a=some v:=(cell_of_heap (h _ hF)).trans hc
def D5 (N:Nat) (bF:List (List ai0)) (j:Nat):Array ai0:= #[.int .i64 ((N-1-j:Nat):Int),.agg (bF.getD (N-1-j) []).toArray]
theorem D6 {ao:Z'} {n ae:Nat} (w:ah9):Calls Tryz.prog 115 #[ai3 ao n ae] w (λe w'=>e= .returned (.func (.func 170) #[] #[.pointer (some ⟨w.heap.size,0,none⟩)])/\ w'=w.alloc (.cells #[ai3 ao n ae] 23)):=by
 have WA:∀(fn:Fn) (first ae:Array ai0) (w:ah9),(Instr.makeFunc fn first ae).run Tryz.prog w= .ok (.func fn first ae) w:=λ_ _ _ _=>rfl
 go_enter Tryz.func115,Tryz.ntmps115;go_wp2_with fail;go_ret;exact⟨rfl,rfl⟩
theorem G' [Ol] {ao:Z'} {N ae Bs:Nat} {bF:List (List ai0)} {w:ah9} {Fx:Nat->Prop} (hG:Gl 3 w ao N ae bF) (hB:w.cell? ⟨Bs,0,none⟩=some (ai3 ao N ae)) (hF1:Fx Bs) (hF2:∀ad,ao=some ad->Fx ad.block):
  I9 Tryz.prog 170 #[.pointer (some ⟨Bs,0,none⟩)] (D5 N bF) Fx N w:=by
 intro l J W hW hY h0;have hbig:=hG.big;have hle:=hG.le;have hcW:=hW.cell (a:=⟨Bs,0,none⟩) hF1 hB;have HF:Hid (∀V,ij Fx W V->V.cell? ⟨Bs,0,none⟩=some (ai3 ao N ae)):=λV hV=>hV.cell (a:=⟨Bs,0,none⟩) hF1 hcW
 have HC:Hid (∀k,k<N->∃b off u0 u1 u2,ao=some ⟨b,off,none⟩/\ bF.getD k []=[u0,u1,u2]/\∀V,ij Fx W V->V.cell? ⟨b,off+k*3,none⟩=some u0/\ V.cell? ⟨b,off+k*3+1,none⟩=some u1/\ V.cell? ⟨b,off+k*3+2,none⟩=some u2):=by
  intro k hk;obtain⟨b,off,hao,hb,hc⟩:=hG.at (by omega);have hlen:(bF.getD k []).length=3:=(hG.each _ (zh (by rw[hG.len];exact hk))).1
  obtain⟨u0,u1,u2,hv⟩:∃u0 u1 u2,bF.getD k []=[u0,u1,u2]:=by
   match hm:bF.getD k [],hlen with
   |[u0,u1,u2],_=>exact⟨_,_,_,rfl⟩
  refine⟨b,off,u0,u1,u2,hao,hv,λV hV=>?_⟩;have WD:Fx b:=hF2 _ hao;have h:=λj hj=>hc w (Below.refl _ _) k hk j hj
  rw[hv]at h;exact⟨(hW.trans hV).cell (a:=⟨b,off+k*3,none⟩) WD (by have:=h 0 (by omega);simpa using this),(hW.trans hV).cell (a:=⟨b,off+k*3+1,none⟩) WD (by have:=h 1 (by omega);simpa using this),(hW.trans hV).cell (a:=⟨b,off+k*3+2,none⟩) WD (by have:=h 2 (by omega);simpa using this)⟩
 have HY:=hid hY;have HJ:=hid h0;clear hY h0 hG hB hF1 hF2;refine callsIn_of_wp Tryz.func170 rfl trivial ?_ rfl
 simp only[Tryz.ntmps170,ai9,aj0,aj1,ak0,ak1,ah7,ah8,aj2,aj3,aj4,aj5]
 gi_wp2
 gi_loopw [3] (λi wr=>∃(k:Nat) (z:Int),i= .int .i64 z/\ z=(k:Int)-1/\ k<=N/\ Hid (J (N-k) wr)/\ Hid (ij Fx W wr)) (λi _=>(intOf i+1).toNat)
 case atStart=>exact⟨N,_,rfl,by first|rfl|(go_num)|omega,aj9 _,by rw[Hid,ak2];exact HJ.o,ij.refl _ _⟩
 case round=>
  clear hcW HJ;obtain⟨k,z,rfl,hz,hk,HJ,HS⟩:=hrel;by_cases hk0:k=0
  ·obtain rfl:z= -1:=by omega
   clear hz;have hd:decide ((0:Int)<= -1)=false:=rfl
   gi_wp2
   go_end0;exact⟨⟨_,rfl⟩,by have:=HJ.o;rw[hk0]at this;exact this⟩
  ·obtain⟨m,rfl⟩:∃m,k=m+1:=⟨k-1,by omega⟩;obtain rfl:z=(m:Int):=by omega
   clear hz hk0;have hcB:=HF.o _ HS.o;obtain⟨b,off,u0,u1,u2,rfl,hv,hcs⟩:=HC.o m (by omega);obtain⟨c0,c1,c2⟩:=hcs _ HS.o;have hN:N-(m+1)<N:=by omega
   obtain⟨fn,tmps,assign,body,hy,hR⟩:=HY.o (N-(m+1)) wr hN HJ.o;have e1:N-1-(N-(m+1))=m:=by omega
   have e2:N-(m+1)+1=N-m:=by omega
   simp only[D5]at hy;rw[e1,hv]at hy
   try simp only[aj6]at hy
   rw[e2]at hR;have HR:=hid hR;clear hR HC hcs hv HY e1 e2 hN;have hd:decide ((0:Int)<=(m:Int))=true:=decide_eq_true (by omega)
   gi_wp2
   refine⟨rfl,HR.o.mono ?_⟩;rintro e W3 ⟨rfl,hJ3,hk3⟩
   gi_wp2
   go_roundw
   case rel=>exact⟨m,_,rfl,rfl,by omega,hJ3,HS.o.trans hk3⟩
   case measure=>simp[intOf]
def BN (N:Nat) (bF:List (List ai0)) (j:Nat):Array ai0:= #[.int .i64 ((N-1-j:Nat):Int),(bF.getD (N-1-j) []).getD 0 undef]
theorem Lc {ao:Z'} {n ae:Nat} (w:ah9):Calls Tryz.prog 175 #[ai3 ao n ae] w (λe w'=>e= .returned (.func (.func 209) #[] #[.pointer (some ⟨w.heap.size,0,none⟩)])/\ w'=w.alloc (.cells #[ai3 ao n ae] 172)):=by
 have WA:∀(fn:Fn) (first ae:Array ai0) (w:ah9),(Instr.makeFunc fn first ae).run Tryz.prog w= .ok (.func fn first ae) w:=λ_ _ _ _=>rfl
 go_enter Tryz.func175,Tryz.ntmps175;go_wp2_with fail;go_ret;exact⟨rfl,rfl⟩
theorem Ea [Ol] {ao:Z'} {N ae Bs:Nat} {bF:List (List ai0)} {w:ah9} {Fx:Nat->Prop} (hG:Gl 1 w ao N ae bF) (hB:w.cell? ⟨Bs,0,none⟩=some (ai3 ao N ae)) (hF1:Fx Bs) (hF2:∀ad,ao=some ad->Fx ad.block):
  I9 Tryz.prog 209 #[.pointer (some ⟨Bs,0,none⟩)] (BN N bF) Fx N w:=by
 intro l J W hW hY h0;have hbig:=hG.big;have hle:=hG.le;have hcW:=hW.cell (a:=⟨Bs,0,none⟩) hF1 hB;have HF:Hid (∀V,ij Fx W V->V.cell? ⟨Bs,0,none⟩=some (ai3 ao N ae)):=λV hV=>hV.cell (a:=⟨Bs,0,none⟩) hF1 hcW
 have HC:Hid (∀k,k<N->∃b off u0,ao=some ⟨b,off,none⟩/\ bF.getD k []=[u0]/\∀V,ij Fx W V->V.cell? ⟨b,off+k,none⟩=some u0):=by
  intro k hk;obtain⟨b,off,hao,hb,hc⟩:=hG.at (by omega);have hlen:(bF.getD k []).length=1:=(hG.each _ (zh (by rw[hG.len];exact hk))).1
  obtain⟨u0,hv⟩:∃u0,bF.getD k []=[u0]:=by
   match hm:bF.getD k [],hlen with
   |[u0],_=>exact⟨_,rfl⟩
  refine⟨b,off,u0,hao,hv,λV hV=>?_⟩;have WD:Fx b:=hF2 _ hao;have h:=λj hj=>hc w (Below.refl _ _) k hk j hj
  rw[hv]at h;exact(hW.trans hV).cell (a:=⟨b,off+k,none⟩) WD (by have:=h 0 (by omega);simpa using this)
 have HY:=hid hY;have HJ:=hid h0;clear hY h0 hG hB hF1 hF2;refine callsIn_of_wp Tryz.func209 rfl trivial ?_ rfl
 simp only[Tryz.ntmps209,ai9,aj0,aj1,ak0,ak1,ah7,ah8,aj2,aj3,aj4,aj5]
 gi_wp2
 gi_loopw [3] (λi wr=>∃(k:Nat) (z:Int),i= .int .i64 z/\ z=(k:Int)-1/\ k<=N/\ Hid (J (N-k) wr)/\ Hid (ij Fx W wr)) (λi _=>(intOf i+1).toNat)
 case atStart=>exact⟨N,_,rfl,by first|rfl|(go_num)|omega,aj9 _,by rw[Hid,ak2];exact HJ.o,ij.refl _ _⟩
 case round=>
  clear hcW HJ;obtain⟨k,z,rfl,hz,hk,HJ,HS⟩:=hrel;by_cases hk0:k=0
  ·obtain rfl:z= -1:=by omega
   clear hz;have hd:decide ((0:Int)<= -1)=false:=rfl
   gi_wp2
   go_end0;exact⟨⟨_,rfl⟩,by have:=HJ.o;rw[hk0]at this;exact this⟩
  ·obtain⟨m,rfl⟩:∃m,k=m+1:=⟨k-1,by omega⟩;obtain rfl:z=(m:Int):=by omega
   clear hz hk0;have hcB:=HF.o _ HS.o;obtain⟨b,off,u0,rfl,hv,hcs⟩:=HC.o m (by omega);have c0:=hcs _ HS.o;have hN:N-(m+1)<N:=by omega
   obtain⟨fn,tmps,assign,body,hy,hR⟩:=HY.o (N-(m+1)) wr hN HJ.o;have e1:N-1-(N-(m+1))=m:=by omega
   have e2:N-(m+1)+1=N-m:=by omega
   simp only[BN]at hy;rw[e1,hv]at hy
   try simp only[aj6]at hy
   rw[e2]at hR;have HR:=hid hR;clear hR HC hcs hv HY e1 e2 hN;have hd:decide ((0:Int)<=(m:Int))=true:=decide_eq_true (by omega)
   gi_wp2
   refine⟨rfl,HR.o.mono ?_⟩;rintro e W3 ⟨rfl,hJ3,hk3⟩
   gi_wp2
   go_roundw
   case rel=>exact⟨m,_,rfl,rfl,by omega,hJ3,HS.o.trans hk3⟩
   case measure=>simp[intOf]
def iL (V:ah9) (r:Nat):Prop:=∀(ad:Addr) (k:IntKind) (x:Int),V.cell? ad=some (.int k x)->ad.block≠r
theorem dV.jK {V:ah9} {r:Nat} (h:dV V r):iL V r:=λ_ _ _ hc=>h.dy hc
theorem kA {V:ah9} {r:Nat} {o:Obj} (h:V.heap[r]? =some o) (ho:o.isCells=false):iL V r:=λad k x hc e=>by
 obtain⟨b,off,s⟩:=ad;obtain rfl:b=r:=e;unfold ai8 at hc;simp only[h]at hc;cases o<;>simp[Obj.isCells]at ho<;>simp at hc
theorem Cn.cP {V V':ah9} {row:Option Nat} (hg:V.grownBy V' row) (hn:∀r,row=some r->iL V r) {m:Bool} {ao:Z'} {n ae:Nat} {z:Int} (h:Cn V m ao n ae z):Cn V' m ao n ae z:=
 ⟨h.neg,h.sl.len,h.sl.le,h.sl.big,h.sl.wf,h.sl.nil,λad had t ht=>hg.cell (h.sl.cells ad had t ht) λeq=>hn _ eq.symm _ _ _ (h.sl.cells ad had t ht) rfl⟩
theorem Ml.cP [Ol] {V V':ah9} {row:Option Nat} (hg:V.grownBy V' row) (hn:∀r,row=some r->iL V r) {ao:Z'} {n ae:Nat} {ps:List (Int×Int)} (h:Ml V ao n ae ps):Ml V' ao n ae ps:=
 ⟨h.len,h.le,h.big,h.wf,h.nil,λad had t ht=>⟨hg.cell (h.cells ad had t ht).1 λeq=>hn _ eq.symm _ _ _ (h.cells ad had t ht).1 rfl,hg.cell (h.cells ad had t ht).2 λeq=>hn _ eq.symm _ _ _ (h.cells ad had t ht).2 rfl⟩,λh0 ad had=>by
  obtain⟨x,hx⟩:=h.int h0 had;exact(h.kp h0 ad had).grown (h.Hh h0 had) hg λeq=>hn _ eq.symm _ _ _ hx rfl⟩
theorem gL.cP [Ol] {V V':ah9} {row:Option Nat} (hg:V.grownBy V' row) (hn:∀r,row=some r->iL V r) {K:Nat} {vs:List ai0} {t:ai} (h:gL K V vs t):gL K V' vs t:=by
 obtain⟨m,ao,n,ae,bo,k,cb,h1,h2,h3,h4⟩:=h;exact⟨m,ao,n,ae,bo,k,cb,h1,h2.cP hg hn,h3,h4.cP hg hn⟩
theorem fT [Ol] {V V':ah9} {row:Option Nat} (hg:V.grownBy V' row) (hn:∀r,row=some r->iL V r) {K:Nat} {X:List (List ai0)} {p:List ai} (h:bV (gL K V) X p):bV (gL K V') X p:=h.imp λ_ _ h=>h.cP hg hn
theorem Cn.pL {V:ah9} {b:Nat} {z:Int} {T:TypeId} (hA:aS V b [.int .i64 z] T) (u:ai0) {m:Bool} {ao:Z'} {n ae:Nat} {x:Int} (h:Cn V m ao n ae x):Cn (V.setCell ⟨b,0,none⟩ u) m ao n ae x:=by
 refine⟨h.neg,h.sl.len,h.sl.le,h.sl.big,h.sl.wf,h.sl.nil,λad had t ht=>?_⟩;have hc:=h.sl.cells ad had t ht;refine(br V b 0 u).cell hc λeq=>?_
 have e:(ad.add t).block=b:=ak7 eq;generalize ad.add t=a at hc e;obtain⟨b',o,s⟩:=a;obtain rfl:b'=b:=e;have hs:s=none:=World.cell?_spot hc
 subst hs;rw[hA.cell]at hc
 match o,hc with
 |0,hc=>simp at hc
 | _+1,hc=>simp at hc
theorem Ml.pL [Ol] {V:ah9} {b:Nat} {z:Int} {T:TypeId} (hA:aS V b [.int .i64 z] T) (u:ai0) {ao:Z'} {n ae:Nat} {ps:List (Int×Int)} (h:Ml V ao n ae ps):Ml (V.setCell ⟨b,0,none⟩ u) ao n ae ps:=by
 have hne2:∀ad,ao=some ad->∀t,t<n->ad.block≠b:=by
  intro ad had t ht e;have hc:=h.cells ad had t ht;obtain⟨b',o,s⟩:=ad;obtain rfl:b'=b:=e;have h2:=hc.2;cases s with
  |none=>
   rw[Addr.add_lit,hA.cell,show o+(t*2+1)=o+t*2+1 by omega]at h2;simp at h2
  |some s=>
   rw[show(⟨b',o,some s⟩:Addr).add (t*2+1)=⟨b',o+(t*2+1),none⟩from by unfold Addr.add;rw[if_neg (by omega)],hA.cell,show o+(t*2+1)=o+t*2+1 by omega]at h2;simp at h2
 refine⟨h.len,h.le,h.big,h.wf,h.nil,λad had t ht=>?_,λh0 ad had=>(h.kp h0 ad had).grown (h.Hh h0 had) (br V b 0 u) λeq=>hne2 ad had 0 h0 (ak7 eq)⟩;have hc:=h.cells ad had t ht;have hne:=hne2 ad had t ht;exact⟨(br V b 0 u).cell hc.1 (λeq=>hne (by rw[<-eA ad (t*2)];exact ak7 eq)),(br V b 0 u).cell hc.2 (λeq=>hne (by rw[<-eA ad (t*2+1)];exact ak7 eq))⟩
theorem mY [Ol] {V:ah9} {b:Nat} {z:Int} {T:TypeId} (hA:aS V b [.int .i64 z] T) (u:ai0) {K:Nat} {X:List (List ai0)} {p:List ai} (h:bV (gL K V) X p):bV (gL K (V.setCell ⟨b,0,none⟩ u)) X p:=h.imp λ_ _ h=>by
 obtain⟨m,ao,n,ae,bo,k,cb,h1,h2,h3,h4⟩:=h;exact⟨m,ao,n,ae,bo,k,cb,h1,h2.pL hA u,h3,h4.pL hA u⟩
theorem aS.ne {V:ah9} {a b:Nat} {L M:List ai0} {S T:TypeId} (h:aS V a L S) (k:aS V b M T) (hST:S≠T):a≠b:=λe=>by
 subst e;unfold aS at h k;rw[h]at k;cases k;exact hST rfl
theorem aS.cP {V V':ah9} {row:Option Nat} (hg:V.grownBy V' row) {b:Nat} {L:List ai0} {T:TypeId} (h:aS V b L T) (hne:∀r,row=some r->r≠b):aS V' b L T:=h.ct (hg.block b h.lt λe=>hne b e.symm rfl)
theorem Rm.cP {V V':ah9} {row:Option Nat} (hg:V.grownBy V' row) {g off ae:Nat} {L:List ai0} (h:Rm g off ae L V) (hne:∀r,row=some r->r≠g):Rm g off ae L V':=⟨h.dY.cP hg hne,h.vk,h.room,h.big⟩
structure jW [Ol] (w:ah9) (g off ae N b7 b8 ba b5:Nat) (fv:ai0) (X Q:List (List ai0)) (K:Nat) (p q S:List ai) (left:Nat) (lf pl:Int) (V:ah9):Prop where
 ex:∃L Y,Rm g off ae L V/\ jo 3 L off (X.take left)/\ jo 3 L (off+(N-S.length)*3) Y/\ Each 3 Y/\ bV (gL (K+1) V) Y S
 px:bV (gL K V) X p
 qx:bV (gL K V) Q q
 e7:aS V b7 [.int .i64 lf] 3
 e8:aS V b8 [.int .i64 pl] 3
 ea:aS V ba [ai3 (some ⟨g,off,none⟩) N ae] 23
 e5:aS V b5 [fv] 121
 gr:w.grownBy V (some g)
 fit:S.length+left<=N
 ll:left<=X.length
 nc:N<=ae
 h7:w.heap.size<=b7
 h8:w.heap.size<=b8
 ZB:b7≠b8
 hx:Each 3 X
section
variable {w:ah9} {g off ae N b7 b8 ba b5:Nat} {fv:ai0} {X Q:List (List ai0)} {K:Nat} {p q S:List ai} {left:Nat} {lf pl:Int} {V V':ah9}
theorem jW.step [Ol] (h:jW w g off ae N b7 b8 ba b5 fv X Q K p q S left lf pl V) {row:Option Nat} (hg:V.grownBy V' row) (hn:∀r,row=some r->iL V r) (hne:∀r,row=some r->r≠g/\ r≠b7/\ r≠b8/\ r≠ba/\ r≠b5/\ w.heap.size<=r):
  jW w g off ae N b7 b8 ba b5 fv X Q K p q S left lf pl V':=by
 obtain⟨L,Y,h1,h2,h3,h4,h5⟩:=h.ex;refine{ h with ex:=⟨L,Y,h1.cP hg (λr e=>(hne r e).1),h2,h3,h4,fT hg hn h5⟩,px:=fT hg hn h.px,qx:=fT hg hn h.qx,e7:=h.e7.cP hg (λr e=>(hne r e).2.1),e8:=h.e8.cP hg (λr e=>(hne r e).2.2.1),ea:=h.ea.cP hg (λr e=>(hne r e).2.2.2.1),e5:=h.e5.cP hg (λr e=>(hne r e).2.2.2.2.1),gr:=?_ };exact⟨hg.os.trans h.gr.os,hg.tape.trans h.gr.tape,hg.output.trans h.gr.output,ak3 h.gr.size hg.size,λk hk hkg=>(hg.block k (ak4 hk h.gr.size) (λe=>by have:=(hne k e.symm).2.2.2.2.2;omega)).trans (h.gr.block k hk hkg)⟩
theorem jW.below [Ol] (h:jW w g off ae N b7 b8 ba b5 fv X Q K p q S left lf pl V) (hb:Below V.heap.size V V'):jW w g off ae N b7 b8 ba b5 fv X Q K p q S left lf pl V':=
 h.step (cu none hb) (λ_ e=>by cases e) (λ_ e=>by cases e)
theorem jW.g7 [Ol] (h:jW w g off ae N b7 b8 ba b5 fv X Q K p q S left lf pl V):g≠b7/\ g≠b8/\ g≠ba/\ g≠b5:=by
 obtain⟨L,Y,h1,_⟩:=h.ex;exact⟨h1.dY.ne h.e7 (by decide),h1.dY.ne h.e8 (by decide),h1.dY.ne h.ea (by decide),h1.dY.ne h.e5 (by decide)⟩
theorem jW.v7 [Ol] (h:jW w g off ae N b7 b8 ba b5 fv X Q K p q S left lf pl V):b7≠ba/\ b7≠b5/\ b8≠ba/\ b8≠b5:=⟨h.e7.ne h.ea (by decide),h.e7.ne h.e5 (by decide),h.e8.ne h.ea (by decide),h.e8.ne h.e5 (by decide)⟩
theorem jW.dy [Ol] (h:jW w g off ae N b7 b8 ba b5 fv X Q K p q S left lf pl V) {c:Nat} {L:List ai0} {T:TypeId} (hA:aS V c L T) (hc:et L) (hcg:c≠g) (hT:T≠3/\ T≠23/\ T≠121) (hw:w.heap.size<=c) (hg:V.grownBy V' (some c)):
  jW w g off ae N b7 b8 ba b5 fv X Q K p q S left lf pl V':=
 h.step hg (λr e=>by cases e;exact(hA.dD hc).jK) (λr e=>by cases e;exact⟨hcg,hA.ne h.e7 hT.1,hA.ne h.e8 hT.1,hA.ne h.ea hT.2.1,hA.ne h.e5 hT.2.2,hw⟩)
theorem ue {A B C:ah9} {b g:Nat} (h:A.grownBy B (some g)) (hb:A.heap.size<=b) (k:B.grownBy C (some b)):A.grownBy C (some g):=
 ⟨k.os.trans h.os,k.tape.trans h.tape,k.output.trans h.output,ak3 h.size k.size,λi hi hig=>(k.block i (ak4 hi h.size) (λe=>by cases e;omega)).trans (h.block i hi hig)⟩
theorem jW.Su [Ol] (h:jW w g off ae N b7 b8 ba b5 fv X Q K p q S left lf pl V) (z:Int):jW w g off ae N b7 b8 ba b5 fv X Q K p q S left z pl (V.setCell ⟨b7,0,none⟩ (.int .i64 z)):=by
 obtain⟨L,Y,h1,h2,h3,h4,h5⟩:=h.ex;have hg:=br V b7 0 (.int .i64 z);have d:=h.g7;have e:=h.v7
 exact{ h with
  ex:=⟨L,Y,h1.cP hg (λr e=>by cases e;exact d.1.symm),h2,h3,h4,mY h.e7 _ h5⟩,px:=mY h.e7 _ h.px,qx:=mY h.e7 _ h.qx,e7:=h.e7.set 0 _
  e8:=h.e8.dy h.ZB 0 _,ea:=h.ea.dy e.1 0 _,e5:=h.e5.dy e.2.1 0 _,gr:=ue h.gr h.h7 hg }
theorem jW.Sv [Ol] (h:jW w g off ae N b7 b8 ba b5 fv X Q K p q S left lf pl V) (z:Int):jW w g off ae N b7 b8 ba b5 fv X Q K p q S left lf z (V.setCell ⟨b8,0,none⟩ (.int .i64 z)):=by
 obtain⟨L,Y,h1,h2,h3,h4,h5⟩:=h.ex;have hg:=br V b8 0 (.int .i64 z);have d:=h.g7;have e:=h.v7
 exact{ h with
  ex:=⟨L,Y,h1.cP hg (λr e=>by cases e;exact d.2.1.symm),h2,h3,h4,mY h.e8 _ h5⟩,px:=mY h.e8 _ h.px,qx:=mY h.e8 _ h.qx,e8:=h.e8.set 0 _
  e7:=h.e7.dy h.ZB.symm 0 _,ea:=h.ea.dy e.2.2.1 0 _,e5:=h.e5.dy e.2.2.2 0 _,gr:=ue h.gr h.h8 hg }
theorem jW.get [Ol] (h:jW w g off ae N b7 b8 ba b5 fv X Q K p q S left lf pl V) {k:Nat} (hk:k<left):
  ∃xm xa xn xc xp xq xr,X.getD k []=[ai4 xm,ai3 xa xn xc,ai3 xp xq xr]/\ (V.cell? ⟨g,off+k*3,none⟩=some (ai4 xm)/\ V.cell? ⟨g,off+k*3+1,none⟩=some (ai3 xa xn xc)/\ V.cell? ⟨g,off+k*3+2,none⟩=some (ai3 xp xq xr))/\ Cn V xm xa xn xc (p.getD k (0,[])).1/\ Bd (p.getD k (0,[])).1 K/\ Ml V xp xq xr (p.getD k (0,[])).2:=by
 obtain⟨L,Y,h1,h2,_⟩:=h.ex;have hkX:k<X.length:=ak4 hk h.ll;have hkp:k<p.length:=by rw[<-h.px.len];exact hkX
 obtain⟨xm,xa,xn,xc,xp,xq,xr,hv,c1,c2,c3⟩:=bV.get (0,[]) h.px k hkp;have hg:=h2 k (by rw[aj7];omega);have ht:(X.take left).getD k []=X.getD k []:=by simp[List.getD,hk]
 rw[ht,hv]at hg;refine⟨xm,xa,xn,xc,xp,xq,xr,hv,⟨?_,?_,?_⟩,c1,c2,c3⟩
 ·rw[h1.dY.cell];exact hg 0 (by omega)
 ·rw[h1.dY.cell];exact hg 1 (by omega)
 ·rw[h1.dY.cell];exact hg 2 (by omega)
theorem jW.spot [Ol] (h:jW w g off ae N b7 b8 ba b5 fv X Q K p q S left lf pl V) {k:Nat} (hk:k<N):
  (∃a b c,V.cell? ⟨g,off+k*3,none⟩=some a/\ V.cell? ⟨g,off+k*3+1,none⟩=some b/\ V.cell? ⟨g,off+k*3+2,none⟩=some c)/\ V.frozen? ⟨g,off+k*3,none⟩=false/\ V.frozen? ⟨g,off+k*3+1,none⟩=false/\ V.frozen? ⟨g,off+k*3+2,none⟩=false:=by
 obtain⟨L,Y,h1,_⟩:=h.ex;have hr:=h1.room;have hl:(k+1)*3<=ae*3:=ak5 _ (ak3 hk h.nc);exact⟨⟨_,_,_,(h1.dY.cell _).trans (aj8 (by omega)),(h1.dY.cell _).trans (aj8 (by omega)),(h1.dY.cell _).trans (aj8 (by omega))⟩,h1.dY.fz _,h1.dY.fz _,h1.dY.fz _⟩
theorem jW.drop [Ol] (h:jW w g off ae N b7 b8 ba b5 fv X Q K p q S left lf pl V) {l2:Nat} (hl:l2<=left):jW w g off ae N b7 b8 ba b5 fv X Q K p q S l2 lf pl V:=by
 obtain⟨L,Y,h1,h2,h3⟩:=h.ex;refine{ h with ex:=⟨L,Y,h1,?_,h3⟩,fit:=by have:=h.fit;omega,ll:=ak3 hl h.ll };have:=h2.take l2;rwa[List.take_take,ak6 hl]at this
theorem jW.put [Ol] (h:jW w g off ae N b7 b8 ba b5 fv X Q K p q S left lf pl V) (hf:S.length+left<N) {t:ai} {m:Bool} {ao:Z'} {n c:Nat} {bo:Z'} {l cb:Nat} (hC:Cn V m ao n c t.1) (hB:Bd t.1 (K+1)) (hM:Ml V bo l cb t.2):
  jW w g off ae N b7 b8 ba b5 fv X Q K p q (t::S) left lf pl (((V.setCell ⟨g,off+(N-S.length-1)*3,none⟩ (ai4 m)).setCell ⟨g,off+(N-S.length-1)*3+1,none⟩ (ai3 ao n c)).setCell ⟨g,off+(N-S.length-1)*3+2,none⟩ (ai3 bo l cb)):=by
 obtain⟨L,Y,h1,h2,h3,h4,h5⟩:=h.ex;have hg:=eD V g (off+(N-S.length-1)*3) (ai4 m) (ai3 ao n c) (ai3 bo l cb);have hn:∀r,some g=some r->iL V r:=λr e=>by cases e;exact(h1.dY.dD h1.vk).jK
 have d:=h.g7;have hYl:=h5.len;have hroom:=h1.room;have hnc:=h.nc;have hNN:(N-S.length)*3<=ae*3:=ak5 _ (by omega);have e1:N-(t::S).length=N-S.length-1:=by rw[aj0];omega
 have e2:(N-S.length-1+1)*3=(N-S.length)*3:=by congr 1;omega
 exact{ h with
  ex:=⟨lV L (off+(N-S.length-1)*3) [ai4 m,ai3 ao n c,ai3 bo l cb],[ai4 m,ai3 ao n c,ai3 bo l cb]::Y,⟨h1.dY.Zw _ _ _ _,jw _ _ _ h1.vk (jS _ _ _ _ _ _ _),by rw[dJ];exact h1.room,h1.big⟩,
   h2.dy (.inr (by rw[aj7,ak6 h.ll];have:left*3<=(N-S.length-1)*3:=ak5 _ (by omega);omega)),
   by
    rw[e1];refine jo.cons (jo.one (by omega)) ?_;refine jo.cast (h3.dy (.inl ?_)) (by omega);simp only[aj0,aj1];omega,
   λvs hv=>by
    rcases List.mem_cons.1 hv with rfl|hv
    ·exact⟨rfl,λu hu=>by simp at hu;rcases hu with rfl|rfl|rfl<;>rfl⟩
    ·exact h4 vs hv,
   ⟨⟨m,ao,n,c,bo,l,cb,rfl,hC.cP hg hn,hB,hM.cP hg hn⟩,fT hg hn h5⟩⟩
  px:=fT hg hn h.px,qx:=fT hg hn h.qx
  e7:=h.e7.cP hg (λr e=>by cases e;exact d.1),e8:=h.e8.cP hg (λr e=>by cases e;exact d.2.1),ea:=h.ea.cP hg (λr e=>by cases e;exact d.2.2.1),e5:=h.e5.cP hg (λr e=>by cases e;exact d.2.2.2)
  gr:=cD h.gr hg,fit:=by rw[aj0];omega }
end
end Go.Proofs.YtmenbpmciblnlaaGreatDoor

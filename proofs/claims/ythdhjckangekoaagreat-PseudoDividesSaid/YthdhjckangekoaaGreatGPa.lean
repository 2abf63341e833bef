/- PlGatP, PlSetC, PlIdx, PlSetT, PlDelFn -/
import Derived.Test.YthdhjckangekoaaGreatGP2
set_option maxHeartbeats 40000000
set_option maxRecDepth 100000
namespace Go.Proofs.YthdhjckangekoaaGreat
def gL (p:List Term) (t:Term):List Term:=
 match p.getLast? with
 |some u=>if u.2=t.2 then p.dropLast++[(u.1+t.1,t.2)]else p++[t]
 |none=>p++[t]
def ja (l:List Term):List Term:=l.foldl gL []
def desc (p:List Term):Prop:=p.Pairwise fun s t=>kY s.2 t.2
def sinks (p:List Term):Prop:=p.Pairwise fun s t=>¬kY t.2 s.2
def Xr (p:List Term):List Term:=p.filter fun t=> !(t.1==0)
theorem j4 (p:List Term) (t:Term):(gL p t=p++[t]/\∀q u,p=q++[u]->u.2≠t.2)∨ ∃q u,p=q++[u]/\ u.2=t.2/\ gL p t=q++[(u.1+t.1,t.2)]:=by
 rcases List.eq_nil_or_concat p with rfl|⟨q,u,rfl⟩
 ·exact .inl ⟨by simp[gL],fun q u h=>by simp at h⟩
 ·rw[List.concat_eq_append];by_cases h:u.2=t.2
  ·exact .inr ⟨q,u,rfl,h,by simp[gL,h]⟩
  ·refine .inl ⟨by simp[gL,h],fun q' u' e=>?_⟩;have:=(List.append_inj' e rfl).2;simp only[List.cons.injEq,and_true]at this;rw[<-this];exact h
theorem ze:∀(l p:List Term),dX p->dX l->desc p->sinks l->(∀s∈p,∀t∈l,¬kY t.2 s.2)->
  dX (l.foldl gL p)/\ desc (l.foldl gL p)/\ (∀ρ,ev (l.foldl gL p) ρ=ev p ρ+ev l ρ)/\ (l.foldl gL p).length<=p.length+l.length
 |[],p,hp,_,hd,_,_=>⟨hp,hd,fun ρ=>by simp[ev],by simp⟩
 |t::l,p,hp,hl,hd,hs,hx=>by
  have ht:=hl t List.mem_cons_self;have hl':dX l:=fun s h=>hl s (List.mem_cons_of_mem _ h)
  obtain⟨hs1,hs2⟩:=List.pairwise_cons.1 hs;rw[List.foldl_cons];rcases j4 p t with⟨e,hne⟩|⟨q,u,rfl,hu,e⟩
  ·rw[e]
   have hd':desc (p++[t]):=List.pairwise_append.2 ⟨hd,List.pairwise_singleton _ _,fun s hsp v hv=>by
    rw[List.mem_singleton]at hv;subst hv;rcases List.eq_nil_or_concat p with rfl|⟨q,u,rfl⟩
    ·simp at hsp
    ·rw[List.concat_eq_append]at*
     have hu:kY u.2 v.2:=by
      rcases uY (hp u (by simp)) ht with h|h|h
      ·exact h
      ·exact(hne q u rfl h).elim
      ·exact(hx u (by simp) v List.mem_cons_self h).elim
     rcases List.mem_append.1 hsp with h|h
     ·exact fV ((List.pairwise_append.1 hd).2.2 s h u (by simp)) hu
     ·rw[List.mem_singleton]at h;rw[h];exact hu⟩
   have hp':dX (p++[t]):=fun s h=>by
    rcases List.mem_append.1 h with h|h
    ·exact hp s h
    ·rw[List.mem_singleton]at h;rw[h];exact ht
   obtain⟨r1,r2,r3,r4⟩:=ze l (p++[t]) hp' hl' hd' hs2 (fun s h v hv=>by
    rcases List.mem_append.1 h with h|h
    ·exact hx s h v (List.mem_cons_of_mem _ hv)
    ·rw[List.mem_singleton]at h;rw[h];exact hs1 v hv)
   exact⟨r1,r2,fun ρ=>by rw[r3,iE];simp only[ev];omega,by simp at r4 ⊢;omega⟩
  ·rw[e]
   have hd':desc (q++[(u.1+t.1,t.2)]):=List.pairwise_append.2 ⟨(List.pairwise_append.1 hd).1,List.pairwise_singleton _ _,fun s QU v hv=>by
    rw[List.mem_singleton]at hv;subst hv;show kY s.2 t.2;rw[<-hu];exact(List.pairwise_append.1 hd).2.2 s QU u (by simp)⟩
   have hp':dX (q++[(u.1+t.1,t.2)]):=fun s h=>by
    rcases List.mem_append.1 h with h|h
    ·exact hp s (by simp[h])
    ·rw[List.mem_singleton]at h;rw[h];exact ht
   obtain⟨r1,r2,r3,r4⟩:=ze l (q++[(u.1+t.1,t.2)]) hp' hl' hd' hs2 (fun s h v hv=>by
    rcases List.mem_append.1 h with h|h
    ·exact hx s (by simp[h]) v (List.mem_cons_of_mem _ hv)
    ·rw[List.mem_singleton]at h;rw[h];exact hs1 v hv)
   exact⟨r1,r2,fun ρ=>by rw[r3,iE,iE];simp only[ev];rw[hu];rw[Int.add_mul];omega,by simp at r4 ⊢;omega⟩
theorem J3:∀{p:List Term},dX p->desc p->fall (Xr p)
 |[],_,_=>trivial
 |t::p,hp,hd=>by
  obtain⟨h1,h2⟩:=List.pairwise_cons.1 hd;have ih:=J3 (fun s h=>hp s (List.mem_cons_of_mem _ h)) h2;unfold Xr;by_cases h0:t.1=0
  ·rw[List.filter_cons_of_neg (by simp[h0])];exact ih
  ·rw[List.filter_cons_of_pos (by simp[h0])];exact⟨h0,hp t List.mem_cons_self,fun s hs=>h1 s (List.mem_filter.1 hs).1,ih⟩
theorem VD (ρ:Nat->Int):∀p:List Term,ev (Xr p) ρ=ev p ρ
 |[]=>rfl
 |t::p=>by
  have ih:=VD ρ p;unfold Xr at*
  by_cases h0:t.1=0
  ·rw[List.filter_cons_of_neg (by simp[h0]),ih];simp[ev,h0]
  ·rw[List.filter_cons_of_pos (by simp[h0])];simp only[ev];rw[ih]
theorem SK (ρ:Nat->Int) {p q:List Term} (h:p.Perm q):ev p ρ=ev q ρ:=by
 induction h with
 |nil=>rfl
 |cons t _ ih=>simp only[ev];rw[ih]
 |swap s t l=>simp only[ev];omega
 |trans _ _ h1 h2=>exact h1.trans h2
theorem Qk {l q:List Term} (hl:dX l) (hq:q.Perm l) (hs:sinks q):Xr (ja q)=mE l:=by
 have xK:dX q:=fun t ht=>hl t (hq.mem_iff.1 ht)
 obtain⟨h1,h2,h3,_⟩:=ze q [] (fun t ht=>by simp at ht) xK List.Pairwise.nil hs (fun t ht=>by simp at ht);refine iN (J3 h1 h2) (iB hl).1 fun ρ=>?_
 rw[VD,(iB hl).2,<-SK ρ hq];have:=h3 ρ;simpa[ja,ev]using this
theorem Qi (l:List Term) (k:Nat) (t:Term) (h:l[k]? =some t):ja (l.take (k+1))=gL (ja (l.take k)) t:=by
 rw[List.take_add_one,h];simp[ja,List.foldl_append]
open Go.RowKit
theorem FE {α:Type} {R:List Value->α->Prop}:∀{X:List (List Value)} {p:List α} {t:α},bG R X (p++[t])->∃Y v,X=Y++[v]/\ bG R Y p/\ R v t
 |[],[],_,h=>h.elim
 |[],_::_,_,h=>h.elim
 |[v],[],_,h=>⟨[],v,rfl,trivial,h.1⟩
 | _::_::_,[],_,h=>h.2.elim
 |x::X,a::p,t,h=>by
  obtain⟨Y,v,rfl,h1,h2⟩:=FE (X:=X) (p:=p) h.2;exact⟨x::Y,v,rfl,⟨h.1,h1⟩,h2⟩
theorem wH {α:Type} {R:List Value->α->Prop}:∀{Y:List (List Value)} {p:List α} {v:List Value} {t:α},bG R Y p->R v t->bG R (Y++[v]) (p++[t])
 |[],[],_,_,_,h=>⟨h,trivial⟩
 |[],_::_,_,_,h,_=>h.elim
 | _::_,[],_,_,h,_=>h.elim
 | _::_,_::_,_,_,h,k=>⟨h.1,wH h.2 k⟩
theorem Pw.ai7 [Ol] {B K:Nat} {w W:World} {g off n cap:Nat} {q:List Term} {u:Term} (h:Pw B K w (some ⟨g,off,none⟩) n cap (q++[u])) (hb:Below w.heap.size w W) {m:Bool} {ao:Option Addr} {l c:Nat} {z:Int} (hC:Cn W m ao l c z) (hz:Bd z (K+1)):
  Pw B (K+1) (W.setCells g (off+q.length*3) [.bool m,.slice ao l c]) (some ⟨g,off,none⟩) n cap (q++[(z,u.2)])/\ W.grownBy (W.setCells g (off+q.length*3) [.bool m,.slice ao l c]) (some g):=by
 have hG:=jb g [.bool m,.slice ao l c] W (off+q.length*3);refine⟨?_,hG⟩;obtain⟨X,hR,hT⟩:=h.below hb;rcases hR.ex with⟨h0,_⟩|⟨g',off',L,hao,hB,hA,hcl,hl,hnc,hcm,hnm,zf,hE,hS⟩
 ·cases h0
 cases hao;obtain⟨Y,v,rfl,hY,m0,a0,n0,c0,bo,k,cb,rfl,_,_,hM⟩:=FE hT;have hYl:Y.length=q.length:=bG.len hY;rw[List.length_append,List.length_singleton]at zf
 have hc2:Clean [.bool m,.slice ao l c]:=fun x hx=>by
  simp only[List.mem_cons,List.not_mem_nil,or_false]at hx;rcases hx with rfl|rfl<;>rfl
 have VE:bV W g:=hA.dF hcl;have hEY:Each 3 Y:=fun x hx=>hE x (List.mem_append_left _ hx)
 have hSY:Seg 3 L off Y:=by have:=hS.take Y.length;rwa[List.take_left'  rfl]at this
 have h2:L[off+Y.length*3+2]? =some (.slice bo k cb):=by
  have:=hS Y.length (by simp) 2 (by omega);simpa[List.getD]using this
 refine⟨Y++[[.bool m,.slice ao l c,.slice bo k cb]],⟨.inr ⟨g,off,_,rfl,hB,hA.put [.bool m,.slice ao l c] (off+q.length*3),gW _ _ _ hcl hc2,by rw[dK];exact hl,hnc,hcm,hnm,by simp;omega,?_,?_⟩⟩,wH ?_ ?_⟩
 ·refine hEY.append (Each.V8 rfl fun x hx=>?_);simp only[List.mem_cons,List.not_mem_nil,or_false]at hx;rcases hx with rfl|rfl|rfl<;>rfl
 ·rw[<-hYl];refine Seg.append (hSY.far (.inr (Nat.le_refl _))) fun t ht j hj=>?_
  obtain rfl:t=0:=by simpa using ht
  show _=([Value.bool m,.slice ao l c,.slice bo k cb])[j]?
  match j,hj with
  |0,_=>rw[rM _ _ _ _ (by omega) (by simp) (by omega)];simp
  |1,_=>rw[rM _ _ _ _ (by omega) (by simp) (by omega)];simp
  |2,_=>rw[qO _ _ _ _ (by simp)];simpa using h2
 ·exact vK (lT hY VE hG) (by omega)
 ·exact⟨m,ao,l,c,bo,k,cb,rfl,hC.eY VE hG,hz,hM.eY VE hG⟩
open Lib (hid)
section
variable {G:Nat} {lb:Array Value} {f:Term->Bool}
def IsF [Ol] (G:Nat) (lb:Array Value) (f:Term->Bool) (K:Nat):Prop:=∀(m:Bool) (ao:Option Addr) (n cap:Nat) (bo:Option Addr) (l cb:Nat) (t:Term) (w:World),Cn w m ao n cap t.1->Bd t.1 K->Ml w bo l cb t.2->
 Calls Tryz.prog G (#[.agg #[.bool m,.slice ao n cap,.slice bo l cb]]++lb) w (bN (.bool (f t)) w)
theorem IB [Ol] (eg:∀args w,(callFunc G args).run Tryz.prog w= .ok (.enter G args) w) {K:Nat} (hV:IsF G lb f K)
  {ao:Option Addr} {n cap:Nat} {p:List Term} {w:World} (h:Pc K w ao n cap p) (hn:n<=1000000):
  Calls Tryz.prog 116 #[.slice ao n cap,.func (.func G) #[] lb] w (fun e w'=>∃z:Int,e= .returned (.int .i64 z)/\ Below w.heap.size w w'/\
   ((z= -1/\∀t,t<n->f (p.getD t (0,[]))=false)∨ ∃k:Nat,z=k/\ k<n/\ f (p.getD k (0,[]))=true/\∀t,t<k->f (p.getD t (0,[]))=false)):=by
 have HM:=hid h;have HV:=hid hV;clear h hV;go_enter Tryz.func116,Tryz.ntmps116;go_wp2;go_loopw [8] (fun i wr=>∃k:Nat,k<=n/\ i= .int .i64 k/\ Hid (∀t,t<k->f (p.getD t (0,[]))=false)/\ Hid (Pc K wr ao n cap p/\ Below w.heap.size w wr)) (fun i _=>n-(intOf i).toNat)
 case atStart=>exact⟨0,Nat.zero_le _,rfl,fun t ht=>by omega,HM.out,Below.refl _ _⟩
 case round=>
  clear HM;obtain⟨k,hk,rfl,HT,HW⟩:=hrel;by_cases hkn:k<n
  ·obtain⟨b,off,xm,xa,xn,xc,xp,xq,xr,rfl,hb,hc,h1,h2,h3⟩:=HW.out.1.at hkn;obtain⟨c0,c1,c2⟩:=hc wr (Below.refl _ _);clear hc;have hcall:=HV.out xm xa xn xc xp xq xr _ _ h1 h2 h3;clear h1 h2 h3;cases hq:f (p.getD k (0,[]))with
   |true=>
    rw[hq]at hcall;have HC:=hid hcall;have HQ:=hid hq;clear hcall hq;go_wp2_with (go_at_fn G;refine HC.out.mono ?_;rintro e w2 ⟨rfl,hB⟩;have HB2:=hid hB;clear hB);go_ret;exact⟨k,rfl,Below.steps HW.out.2 HB2.out,.inr ⟨k,rfl,hkn,HQ.out,HT.out⟩⟩
   |false=>
    rw[hq]at hcall;have HC:=hid hcall;have HQ:=hid hq;clear hcall hq;go_wp2_with (go_at_fn G;refine HC.out.mono ?_;rintro e w2 ⟨rfl,hB⟩;have HB2:=hid hB;clear hB);go_roundw
    case rel=>
     refine⟨k+1,by omega,by go_num,fun t ht=>?_,HW.out.1.below HB2.out,Below.steps HW.out.2 HB2.out⟩;by_cases htk:t<k
     ·exact HT.out t htk
     ·obtain rfl:t=k:=by omega
      exact HQ.out
    case measure=>simp[intOf];omega
  ·obtain rfl:k=n:=by omega
   go_wp2;go_ret;exact⟨-1,rfl,HW.out.2,.inl ⟨rfl,HT.out⟩⟩
end
theorem FH {α:Type} {R:List Value->α->Prop}:∀{X:List (List Value)} {p:List α} (k:Nat) {v:List Value} {t:α},bG R X p->R v t->bG R (X.set k v) (p.set k t)
 |[],[],_,_,_,_,_=>trivial
 |[],_::_,_,_,_,h,_=>h.elim
 | _::_,[],_,_,_,h,_=>h.elim
 | _::_,_::_,0,_,_,h,k=>⟨k,h.2⟩
 | _::_,_::_,j+1,_,_,h,k=>⟨h.1,FH j h.2 k⟩
theorem Bn {α:Type} {R:List Value->α->Prop}:∀{X:List (List Value)} {p:List α} (k:Nat),bG R X p->bG R (X.take k) (p.take k)
 |[],[],_,_=>by simp[bG]
 |[],_::_,_,h=>h.elim
 | _::_,[],_,h=>h.elim
 | _::_,_::_,0,_=>trivial
 | _::_,_::_,k+1,h=>⟨h.1,Bn k h.2⟩
theorem SL {L:List Value} {off k:Nat} {X:List (List Value)} {a b c:Value} (h:Seg 3 L off X) (hk:k<X.length) (hl:off+X.length*3<=L.length):Seg 3 (p9 L (off+k*3) [a,b,c]) off (X.set k [a,b,c]):=fun t ht j hj=>by
 rw[List.length_set]at ht;by_cases e:t=k
 ·subst e;rw[rM _ _ _ _ (by omega) (by simp;omega) (by omega)];rw[show off+t*3+j-(off+t*3)=j by omega];simp[List.getD,ht]
 ·rw[qO _ _ _ _ (by simp;omega),h t ht j hj];simp[List.getD,List.getElem?_set_ne (Ne.symm e)]
theorem Pw.ad9 [Ol] {B K:Nat} {w W:World} {g off n cap:Nat} {p:List Term} (h:Pw B K w (some ⟨g,off,none⟩) n cap p) (hb:Below w.heap.size w W) {k:Nat} (hk:k<n) {a b c:Value} {t:Term} (ht:fP K W [a,b,c] t):
  Pw B K (((W.setCell ⟨g,off+k*3,none⟩ a).setCell ⟨g,off+k*3+1,none⟩ b).setCell ⟨g,off+k*3+2,none⟩ c) (some ⟨g,off,none⟩) n cap (p.set k t)/\ W.grownBy (((W.setCell ⟨g,off+k*3,none⟩ a).setCell ⟨g,off+k*3+1,none⟩ b).setCell ⟨g,off+k*3+2,none⟩ c) (some g):=by
 have hG:=dm W g (off+k*3) a b c;refine⟨?_,hG⟩;obtain⟨X,hR,hT⟩:=h.below hb;rcases hR.ex with⟨h0,_⟩|⟨g',off',L,hao,hB,hA,hcl,hl,hnc,hcm,hnm,zf,hE,hS⟩
 ·cases h0
 cases hao;have VE:bV W g:=hA.dF hcl;have aj0:Clean [a,b,c]:=zh ht;have ht2:=ht;obtain⟨m0,a0,n0,c0,bo,l,cb,hv,_,_,_⟩:=ht2;refine⟨X.set k [a,b,c],⟨.inr ⟨g,off,_,rfl,hB,hA.Xx (off+k*3) a b c,gW _ _ _ hcl aj0,by rw[dK];exact hl,hnc,hcm,hnm,by rw[List.length_set];exact zf,?_,SL hS (by omega) (by omega)⟩⟩,FH k (lT hT VE hG) (fP.eY VE hG ht)⟩;intro vs hvs;rcases List.mem_or_eq_of_mem_set hvs with h|rfl
 ·exact hE vs h
 ·refine⟨rfl,fun v hv2=>?_⟩;rw[hv]at hv2;simp only[List.mem_cons,List.not_mem_nil,or_false]at hv2;rcases hv2 with rfl|rfl|rfl<;>rfl
theorem Pw.ae0 [Ol] {B K:Nat} {w:World} {g off n cap:Nat} {p:List Term} (h:Pw B K w (some ⟨g,off,none⟩) n cap p) {k:Nat} (hk:k<=n) {zs:List Value} (hz:Clean zs):
  Pw B K (w.setCells g (off+k*3) zs) (some ⟨g,off,none⟩) k cap (p.take k)/\ w.grownBy (w.setCells g (off+k*3) zs) (some g):=by
 have hG:=jb g zs w (off+k*3);refine⟨?_,hG⟩;obtain⟨X,hR,hT⟩:=h;rcases hR.ex with⟨h0,_⟩|⟨g',off',L,hao,hB,hA,hcl,hl,hnc,hcm,hnm,zf,hE,hS⟩
 ·cases h0
 cases hao;have hXk:(X.take k).length=k:=by rw[List.length_take];omega
 exact⟨X.take k,⟨.inr ⟨g,off,_,rfl,hB,hA.put zs (off+k*3),gW _ _ _ hcl hz,by rw[dK];exact hl,by omega,hcm,by omega,hXk,fun vs hvs=>hE vs (List.mem_of_mem_take hvs),(hS.take k).far (.inr (by rw[hXk];exact Nat.le_refl _))⟩⟩,Bn k (lT hT (hA.dF hcl) hG)⟩
theorem Pw.room [Ol] {B K:Nat} {w:World} {g off n cap:Nat} {p:List Term} (h:Pw B K w (some ⟨g,off,none⟩) n cap p):
  B<=g/\ g<w.heap.size/\ n<=cap/\ cap<=maxLen/\∀j,j<cap*3->(w.cell? ⟨g,off+j,none⟩).isSome=true/\ w.frozen? ⟨g,off+j,none⟩=false:=by
 obtain⟨X,hR,hT⟩:=h;rcases hR.ex with⟨h0,_⟩|⟨g',off',L,hao,hB,hA,hcl,hl,hnc,hcm,hnm,zf,hE,hS⟩
 ·cases h0
 cases hao;refine⟨hB,hA.lt,hnc,hcm,fun j hj=>⟨?_,hA.fz _⟩⟩;rw[hA.cell,List.getElem?_eq_getElem (by omega)];rfl
theorem Pw.fz3 [Ol] {B K:Nat} {w:World} {g off n cap:Nat} {p:List Term} (h:Pw B K w (some ⟨g,off,none⟩) n cap p) {k:Nat} (hk:k<n):
  w.frozen? ⟨g,off+k*3,none⟩=false/\ w.frozen? ⟨g,off+k*3+1,none⟩=false/\ w.frozen? ⟨g,off+k*3+2,none⟩=false:=by
 obtain⟨_,_,hc,_,h0⟩:=h.room;exact⟨(h0 (k*3) (by omega)).2,(h0 (k*3+1) (by omega)).2,(h0 (k*3+2) (by omega)).2⟩
open Lib (hid)
def l9 (f:Term->Bool) (p:List Term):List Term:=p.filter fun t=> !f t
theorem uz {f:Term->Bool} {p:List Term} (h:∀t,t<p.length->f (p.getD t (0,[]))=false):l9 f p=p:=by
 unfold l9;rw[List.filter_eq_self];intro t ht;obtain⟨i,hi,rfl⟩:=List.mem_iff_getElem.1 ht;have:=h i hi;simpa[List.getD,hi]using this
theorem uD {f:Term->Bool} {p:List Term} {b:Nat} (hb:b<p.length) (h:f (p.getD b (0,[]))=true):l9 f (p.take (b+1))=l9 f (p.take b):=by
 have e:p.getD b (0,[])=p[b]:=by simp[List.getD,hb]
 rw[e]at h;rw[List.take_add_one,List.getElem?_eq_getElem hb];unfold l9;rw[List.filter_append];simp[h]
theorem JS {f:Term->Bool} {p:List Term} {b:Nat} (hb:b<p.length) (h:f (p.getD b (0,[]))=false):l9 f (p.take (b+1))=l9 f (p.take b)++[p.getD b (0,[])]:=by
 have e:p.getD b (0,[])=p[b]:=by simp[List.getD,hb]
 rw[e]at h ⊢;rw[List.take_add_one,List.getElem?_eq_getElem hb];unfold l9;rw[List.filter_append];simp[h]
theorem Bc {p:List Term} {a:Nat} {t:Term} (h:a<p.length):(p.set a t).take (a+1)=p.take a++[t]:=by
 rw[List.take_add_one,List.getElem?_set_self h,List.take_set_of_le (Nat.le_refl _)];rfl
theorem Be {p:List Term} {a b:Nat} {t:Term} (h:a<b):(p.set a t).drop b=p.drop b:=by rw[List.drop_set_of_lt h]
theorem Bb {p q:List Term} {b:Nat} (h:p.drop b=q.drop b):p.getD b (0,[])=q.getD b (0,[])/\ p.drop (b+1)=q.drop (b+1):=by
 refine⟨?_,by rw[<-List.drop_drop,<-List.drop_drop,h]⟩;have:=congrArg (·[0]?) h;simp only[List.getElem?_drop,Nat.add_zero]at this;simp[List.getD,this]
theorem FC [Ol] {G:Nat} {lb:Array Value} {f:Term->Bool} (eg:∀args w,(callFunc G args).run Tryz.prog w= .ok (.enter G args) w) {B K:Nat} (hV:IsF G lb f K)
  {ao:Option Addr} {n cap:Nat} {p:List Term} {w:World} (h:Pw B K w ao n cap p) (hn:n<=1000000):
  Calls Tryz.prog 82 #[.slice ao n cap,.func (.func G) #[] lb] w (fun e w'=>∃m,e= .returned (.slice ao m cap)/\ Pw B K w' ao m cap (l9 f p)/\ w.grownBy w' (blk ao)):=by
 have HI:=hid (IB eg hV h.pc hn);have HM:=hid h;have HV:=hid hV;clear h hV;go_enter Tryz.func82,Tryz.ntmps82;go_wp2_with fail;refine HI.out.mono ?_;rintro e w1 ⟨z,rfl,hB,hz⟩;have rE:=hid (HM.out.below hB);have qg:=hid (aH (blk ao) hB);have HZ:=hid hz;clear HI HM hB hz;rcases HZ.out with⟨rfl,hz⟩|⟨k,rfl,hk,hkv,hkl⟩
 ·have HO:Hid (l9 f p=p):=uz (by rw[rE.out.len];exact hz);clear HZ hz;go_wp2;go_ret;exact⟨n,rfl,by rw[HO.out];exact rE.out,qg.out⟩
 ·have f0:((k:Int)== -1)=false:=beq_eq_false_iff_ne.2 (by omega);have hl:=rE.out.len
  have HT:Hid (p.take k=l9 f (p.take (k+1))):=by
   rw[Hid,uD (by omega) hkv,uz];intro t ht;have htk:t<k:=by simp at ht;omega
   have:=hkl t htk;simpa[List.getD,List.getElem?_take,htk]using this
  have wU:Hid (p.length=n):=hl;clear HZ hkv hkl hl;obtain⟨g,off,_,_,_,_,_,_,_,rfl,_,_,_,_,_⟩:=rE.out.pc.at hk;go_wp2;go_loopw [5,6,7] (fun i j _ wr=>∃(a b:Nat) (zs:List Term),i= .int .i64 a/\ j= .int .i64 b/\ a<b/\ b<=n/\ Hid (zs.take a=l9 f (p.take b)/\ zs.drop b=p.drop b)/\ Hid (Pw B K wr (some ⟨g,off,none⟩) n cap zs)/\ Hid (w.grownBy wr (some g))) (fun _ j _ _=>n-(intOf j).toNat)
  case atStart=>exact⟨k,k+1,p,rfl,by go_num,by omega,by omega,⟨HT.out,rfl⟩,rE.out,qg.out⟩
  case round=>
   clear rE qg HT;obtain⟨a,b,zs,rfl,rfl,hab,hbn,HT,HM,HW⟩:=hrel;by_cases hlt:b<n
   ·obtain⟨g2,off2,xm,xa,xn,xc,xp,xq,xr,hge,hgl,hc,h1,h2,h3⟩:=HM.out.pc.at hlt;cases hge;obtain⟨c0,c1,c2⟩:=hc wr (Below.refl _ _);clear hc;have hzl:zs.length=n:=HM.out.len;obtain⟨e1,e2⟩:=Bb HT.out.2;obtain⟨t,ht⟩:∃t,t=zs.getD b (0,[]):=⟨_,rfl⟩;rw[<-ht]at h1 h2 h3 e1;have HE:=hid (And.intro e1 e2);have QL:=hid h1;have wR:=hid h2;have Ct:=hid h3;clear ht e1 e2 h1 h2 h3;have hal:=af wr (.cells #[.bool xm,.slice xa xn xc,.slice xp xq xr] 54);have hcall:=HV.out xm xa xn xc xp xq xr t _ (QL.out.below hal) wR.out (Ct.out.below hal);have HAL:=hid hal;clear hal;cases hq:f t with
    |true=>
     rw[hq]at hcall;have HC:=hid hcall;have HQ:=hid hq;clear hcall hq;go_wp2_with (go_at_fn G;refine HC.out.mono ?_;rintro e w2 ⟨rfl,hB⟩;have HB2:=hid hB;clear hB);go_roundw
     case rel=>
      refine⟨a,b+1,zs,rfl,by go_num,by omega,by omega,⟨?_,HE.out.2⟩,HM.out.below (aA HB2.out),ay HW.out (aH _ (aA HB2.out))⟩;rw[uD (by rw[wU.out];exact hlt) (by rw[<-HE.out.1];exact HQ.out)];exact HT.out.1
     case measure=>simp[intOf];omega
    |false=>
     rw[hq]at hcall;have HC:=hid hcall;have HQ:=hid hq;clear hcall hq;go_wp2_with (go_at_fn G;refine HC.out.mono ?_;rintro e w2 ⟨rfl,hB⟩;have HB2:=hid hB;have yC:=hid (HM.out.below (aA hB));obtain⟨_,_,_,_,_,_,_,_,_,hge,_,hc,_,_,_⟩:=yC.out.pc.at (k:=a) (by omega);cases hge;obtain⟨d0,d1,d2⟩:=hc w2 (Below.refl _ _);clear hc;obtain⟨d3,d4,d5⟩:=yC.out.fz3 (k:=a) (by omega);have d6:=hB.cell (p:=⟨wr.heap.size,0,none⟩) (by simp);have d7:=hB.cell (p:=⟨wr.heap.size,1,none⟩) (by simp);have d8:=hB.cell (p:=⟨wr.heap.size,2,none⟩) (by simp);simp at d6 d7 d8;clear hB);go_roundw
     case rel=>
      have hst:=yC.out.ad9 (Below.refl _ _) (k:=a) (t:=t) (by omega) (a:= .bool xm) (b:= .slice xa xn xc) (c:= .slice xp xq xr) ⟨_,_,_,_,_,_,_,rfl,QL.out.below (aA HB2.out),wR.out,Ct.out.below (aA HB2.out)⟩;refine⟨a+1,b+1,zs.set a t,by go_num,by go_num,by omega,by omega,⟨?_,?_⟩,hst.1,ay (ay HW.out (aH _ (aA HB2.out))) hst.2⟩
      ·rw[JS (by rw[wU.out];exact hlt) (by rw[<-HE.out.1];exact HQ.out),Bc (by omega),HT.out.1,<-HE.out.1]
      ·rw[Be (by omega)];exact HE.out.2
     case measure=>simp[intOf];omega
   ·obtain rfl:b=n:=by omega
    obtain⟨_,_,hbc,hcm,hrm⟩:=HM.out.room;have hca:¬cap=a:=by omega
    obtain⟨cs,hq1,hq3,hq2⟩:=pE wr g (off+a*3) (b-a) (cap-a) (by omega) (fun j hj=>by rw[Nat.add_assoc];exact(hrm (a*3+j) (by omega)).1) (fun j hj=>by rw[Nat.add_assoc];exact(hrm (a*3+j) (by omega)).2);have hcut:=HM.out.ae0 (k:=a) (by omega) hq3
    have HR:Hid (Pw B K (wr.setCells g (off+a*3) cs) (some ⟨g,off,none⟩) a cap (l9 f p)):=by
     have h1:zs.take a=l9 f p:=HT.out.1.trans (by rw[List.take_of_length_le (by rw[wU.out];exact Nat.le_refl _)]);rw[Hid,<-h1];exact hcut.1
    have HGW:=hid (ay HW.out hcut.2);have hbig:cap<=9223372036854775807:=by unfold maxLen at hcm;omega
    clear hrm hcut hq1 hcm;go_wp2;go_ret;exact⟨a,rfl,HR.out,HGW.out⟩
end Go.Proofs.YthdhjckangekoaaGreat

/-
  How a division with a fresh meter ends.
-/
import Derived.Test.YthdhjckangekoaaGreatGQ2
set_option maxHeartbeats 40000000
set_option maxRecDepth 100000
namespace Go.Proofs.YthdhjckangekoaaGreat
open Go.RowKit
def WG (s:MS) (n:Nat):MS:=⟨s.fu,s.li,s.te,s.pi,s.st+n,s.pc,s.wh,s.n⟩
theorem CO {s:MS}:∀n,(∀j,j<n->jN (oN (some s) j)=0)->oN (some s) n=some (WG s n)
 |0,_=>by simp[oN,WG]
 |n+1,h=>by
  have ih:=CO n (fun j hj=>h j (by omega));have h1:=h n (by omega);rw[ih]at h1;rw[oN,ih];simp only[jN,MS.j6]at h1;split at h1
  ·omega
  ·rename_i h2;simp only[yh,Option.map_some,MS.step];rw[if_neg h2];simp only[WG,Option.some.injEq,MS.mk.injEq,true_and,and_true];omega
theorem Gn {p:List Term} (hf:fall p) (h:pq (p.map iL) 8=false/\ (∀t∈p.map iL,t.1.2.length<=8)/\∀t∈p.map iL,∀x∈t.2,x.2<=8) (hb:∀t∈p,Bd t.1 8):Sm 8 p:=
 ⟨hf,by have:=(Li h.1).2;rw[List.length_map]at this;omega,hb,vz (fun t ht x hx=>h.2.2 (iL t) (List.mem_map.2 ⟨t,ht,rfl⟩) x hx) (by omega)⟩
theorem Pf (p:List Term):(kl p).length=p.length:=by simp[kl]
theorem uV {t:MS} {p:List Term} (h:bO (some t) p=0):(fB (kl p):Int)<=t.li/\ (p.length:Int)<=t.te:=by
 simp only[bO,MS.je,Pf]at h;split at h
 ·omega
 ·split at h
  ·omega
  ·omega
theorem AU {t:MS} {p:List Term} (h:bO (some t) p≠0) (h0:t.wh=0):(t.keep (kl p)).fu=t.fu/\ (t.keep (kl p)).wh=bO (some t) p/\ ((bO (some t) p=10/\ t.li<(t.keep (kl p)).n)∨(bO (some t) p=11/\ t.te<(t.keep (kl p)).n)):=by
 simp only[bO,MS.je,MS.keep,Pf]at h ⊢;by_cases c:t.li<(fB (kl p):Nat)
 ·rw[if_pos c,if_pos c];simp only[MS.refuse,if_pos h0];exact⟨by trivial,by trivial,.inl ⟨by trivial,c⟩⟩
 ·rw[if_neg c]at h;rw[if_neg c,if_neg c];by_cases d:t.te<(p.length:Nat)
  ·rw[if_pos d,if_pos d];simp only[MS.refuse,if_pos h0];exact⟨by trivial,by trivial,.inr ⟨by trivial,d⟩⟩
  ·rw[if_neg d]at h;exact absurd rfl h
theorem KI {g f:List Term} {v:Int} {kq:Bool} {fu li te pi:Int} {q r:List Term} {s:Nat} {e:Int} {o:Option MS} (h:Ends g f v kq (some (MS.new fu li te pi)) ⟨q,r,s,e,o⟩):
  ∃t,o=some t/\ t.fu=fu/\ ((e=0/\ t.wh=0/\ t.st=s/\ Ends g f v kq none ⟨q,r,s,0,none⟩/\ (s=0∨((fB (kl r):Int)<=li/\ (fB (kl q):Int)<=li/\ (r.length:Int)<=te/\ (q.length:Int)<=te)))∨
   (q=[]/\ r=[]/\ s=0/\ t.wh=e/\ ((e=9/\ t.n=fu+1)∨(e=10/\ li<t.n)∨(e=11/\ te<t.n)))):=by
 obtain⟨n,h1,h2⟩:=h;have hN:=CO n (fun j hj=>(h1 j hj).2.1);have hN1:jN (oN (some (MS.new fu li te pi)) n)=0->oN (some (MS.new fu li te pi)) (n+1)=some (WG (MS.new fu li te pi) (n+1)):=fun h0=>CO (n+1) fun j hj=>(Nat.lt_succ_iff_lt_or_eq.1 hj).elim (fun h=>(h1 j h).2.1) fun h=>by rw[h];exact h0
 rcases h2 with⟨a,h⟩|⟨a,⟨b,h⟩|⟨b,⟨c,h⟩|⟨c,d,h⟩⟩⟩
 ·simp only[Out.mk.injEq]at h;obtain⟨rfl,rfl,rfl,rfl,rfl⟩:=h;refine⟨_,hN,rfl,.inl ⟨rfl,rfl,by simp[WG,MS.new],⟨s,fun j hj=>⟨(h1 j hj).1,by rw[iU];rfl,by rw[iU];rfl,by rw[iU];rfl⟩,.inl ⟨a,by rw[iU]⟩⟩,?_⟩⟩;cases s with
  |zero=>exact .inl rfl
  |succ m=>
   obtain⟨_,_,h3,h4⟩:=h1 m (by omega);rw[hN]at h3 h4;have k3:=uV h3;have k4:=uV h4;exact .inr ⟨k3.1,k4.1,k3.2,k4.2⟩
 ·simp only[Out.mk.injEq]at h;obtain⟨rfl,rfl,rfl,rfl,rfl⟩:=h;rw[hN]at b ⊢;refine⟨_,rfl,?_⟩;simp only[jN,MS.j6]at b ⊢;by_cases hc:(WG (MS.new fu li te pi) n).fu<=(WG (MS.new fu li te pi) n).st
  ·rw[if_pos hc];simp only[MS.step,if_pos hc];exact⟨by trivial,.inr ⟨by trivial,by trivial,by trivial,by trivial,.inl ⟨by trivial,by trivial⟩⟩⟩
  ·rw[if_neg hc]at b;exact absurd rfl b
 ·simp only[Out.mk.injEq]at h;obtain⟨rfl,rfl,rfl,rfl,rfl⟩:=h;rw[hN1 b]at c ⊢;obtain⟨k1,k2,k3⟩:=AU c rfl;exact⟨_,rfl,k1,.inr ⟨rfl,rfl,rfl,k2,.inr k3⟩⟩
 ·simp only[Out.mk.injEq]at h;obtain⟨rfl,rfl,rfl,rfl,rfl⟩:=h;rw[hN1 b]at d ⊢;obtain⟨k1,k2,k3⟩:=AU d rfl;exact⟨_,rfl,k1,.inr ⟨rfl,rfl,rfl,k2,.inr k3⟩⟩
theorem dB.some [Ol] {w:World} {b:Nat} {s:MS} (h:dB w (.pointer (some ⟨b,0,none⟩)) (some b) (some s)):Cells w b (mc s)/\ s.Ok:=by
 rcases h with⟨h,_⟩|⟨b',s',_,h2,h3,hC,hk,_⟩
 ·cases h
 ·cases h2;cases h3;exact⟨hC,hk⟩
theorem JH {w:World} {B:Nat}:∀{l:List Var},Vars w B l->∀v∈l,B<=v.b
 | _::_,h,v,hv=>by
  rcases List.mem_cons.1 hv with rfl|h1
  ·exact h.2.1
  ·exact JH h.2.2.2 v h1
theorem Sx.own {w0 V W:World} (pre post:List Var) {b:Nat} {vs vs':List Value} {N:List En} (s:Sx w0 V (pre++⟨b,vs⟩::post) N) (hC:Cells W b vs') (hG:V.grownBy W (some b)):Sx w0 W (pre++⟨b,vs'⟩::post) N:=by
 have hb0:w0.heap.size<=b:=JH s.b ⟨b,vs⟩ (by simp);have hkeep:∀c,c<V.heap.size->c≠b->W.heap[c]? =V.heap[c]? :=fun c hc hne=>hG.block c hc (by simpa using hne)
 have key:∀{l:List Var},Vars V w0.heap.size (l++⟨b,vs⟩::post)->Vars W w0.heap.size (l++⟨b,vs'⟩::post):=by
  intro l;induction l with
  |nil=>
   intro h;exact⟨hC,h.2.1,h.2.2.1,h.2.2.2.keep fun v hv=>hkeep _ (h.2.2.2.und.mem v hv) (h.2.2.1.mem v hv)⟩
  |cons a r ih=>
   intro h;have hne:a.b≠b:=fun e=>h.2.2.1.mem ⟨b,vs⟩ (by simp) e.symm
   refine⟨h.1.keep (hkeep _ h.1.lt hne),h.2.1,?_,ih h.2.2.2⟩;have hu:=h.2.2.1;clear ih h;induction r with
   |nil=>exact⟨hu.1,hu.2⟩
   |cons a' r' ih'=>exact⟨hu.1,ih' hu.2⟩
 refine⟨key s.b,?_,s.h.trans (NC hG hb0 s.h.size),?_⟩
 ·have hd:∀e∈N,¬e.foot b:=fun e he=>s.d e he ⟨b,vs⟩ (by simp)
  have hn:=s.n;clear key s;induction N with
  |nil=>trivial
  |cons e r ih=>exact⟨e.dep V W (fun c hc=>hkeep c (e.lt V hn.1 c hc) fun e2=>hd e (by simp) (e2▸hc)) hn.1,ih (fun f hf=>hd f (by simp[hf])) hn.2⟩
 ·intro e he v hv;simp only[List.mem_append,List.mem_cons]at hv;rcases hv with h1|rfl|h1
  ·exact s.d e he v (by simp[h1])
  ·exact s.d e he ⟨b,vs⟩ (by simp)
  ·exact s.d e he v (by simp[h1])
theorem Sx.ret {w0 V W:World} (pre post:List Var) {b:Nat} {vs vs':List Value} {N:List En} {v:Value} {e:Ending} (s:Sx w0 V (pre++⟨b,vs⟩::post) N) (h:wK b vs' v V e W):e= .returned v/\ Sx w0 W (pre++⟨b,vs'⟩::post) N:=⟨h.1,s.own pre post h.2.1 h.2.2⟩
theorem Sx.made {w0 V W:World} {B:List Var} {N:List En} (s:Sx w0 V B N) {b:Nat} {vs:List Value} (hC:Cells W b vs) (hb:V.heap.size<=b) (hB:Below V.heap.size V W):Sx w0 W (⟨b,vs⟩::B) N:=by
 have h1:=s.step hB;refine⟨⟨hC,Nat.le_trans s.h.size hb,(s.b.und.mono hb).apt,h1.b⟩,h1.n,h1.h,fun e he v hv hf=>?_⟩;rcases List.mem_cons.1 hv with rfl|hv
 ·have:=e.lt V (s.n.mem e he) _ hf;have e2:b<V.heap.size:=this;omega
 ·exact s.d e he v hv hf
end Go.Proofs.YthdhjckangekoaaGreat

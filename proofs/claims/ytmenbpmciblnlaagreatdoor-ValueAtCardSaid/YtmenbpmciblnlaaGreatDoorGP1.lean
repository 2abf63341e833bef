/- Tms, Tm, Put, PAdd, PTimes, PNeg, PSub, POf, PPoly, PRaw -/
import Derived.Test.YtmenbpmciblnlaaGreatDoorGl
import Derived.Test.YtmenbpmciblnlaaGreatDoorEn
import Derived.Test.YtmenbpmciblnlaaGreatDoorGPp
import Derived.Test.YtmenbpmciblnlaaGreatDoorGWZ2
import Derived.Test.YtmenbpmciblnlaaGreatDoorGM3
set_option maxHeartbeats 0
set_option maxRecDepth 100000
open Go.RowKit.Below renaming heap_setCell->a0a,mono->a0c,refl->a0b
open Go.Value renaming cells->a0f,oneCell'->a0e,slice->a0d
open List renaming append_assoc->a0o,drop_eq_getElem_cons->a0l,drop_eq_nil_of_le->a0p,getD->a0h,getElem?_cons_succ->a0n,getElem?_cons_zero->a0m,getElem?_eq_getElem->a0i,getElem_mem->a0j,length_append->a0u,length_cons->a0q,length_take->a0s,map_append->a0v,mem_append->a0g,mem_of_mem_take->a0r,mem_singleton->a0w,take_of_length_le->a0t,take_succ_eq_append_getElem->a0k
open Nat renaming add_mul->a0B,le_add_right->a0A,le_refl->a0y,le_succ->a0z,min_eq_left->a0C,one_mul->a0D,zero_le->a0x
namespace Go.Proofs.YtmenbpmciblnlaaGreatDoor
open Go.RowKit
def cB {α:Type} (R:List Value->α->Prop):List (List Value)->List α->Prop
 |[],[]=>True
 |v::vs,a::l=>R v a/\ cB R vs l
 | _,_=>False
theorem cB.len {α:Type} {R:List Value->α->Prop}:∀{vs:List (List Value)} {l:List α},cB R vs l->vs.length=l.length
 |[],[],_=>rfl
 | _::_,_::_,h=>by simp[cB.len h.2]
 |[],_::_,h=>h.elim
 | _::_,[],h=>h.elim
theorem cB.imp {α:Type} {R S:List Value->α->Prop} (hRS:∀v a,R v a->S v a):∀{vs:List (List Value)} {l:List α},cB R vs l->cB S vs l
 |[],[],_=>trivial
 | _::_,_::_,h=>⟨hRS _ _ h.1,cB.imp hRS h.2⟩
 |[],_::_,h=>h.elim
 | _::_,[],h=>h.elim
theorem cB.get {α:Type} {R:List Value->α->Prop} (d:α):∀{vs:List (List Value)} {l:List α},cB R vs l->∀t,t<l.length->R (vs.getD t []) (l.getD t d)
 | _::_,_::_,h,0,_=>h.1
 | _::_,_::_,h,t+1,ht=>by
  have:=cB.get d h.2 t (by simpa using ht);simpa using this
 |[],[],_,_,ht=>by simp at ht
 |[],_::_,h,_,_=>h.elim
 | _::_,[],h,_,_=>h.elim
theorem cB.append {α:Type} {R:List Value->α->Prop}:∀{vs us:List (List Value)} {l k:List α},cB R vs l->cB R us k->cB R (vs++us) (l++k)
 |[],_,[],_,_,hk=>hk
 | _::_,_,_::_,_,h,hk=>⟨h.1,cB.append h.2 hk⟩
 |[],_,_::_,_,h,_=>h.elim
 | _::_,_,[],_,h,_=>h.elim
theorem cB.take {α:Type} {R:List Value->α->Prop}:∀{vs:List (List Value)} {l:List α},cB R vs l->∀k,cB R (vs.take k) (l.take k)
 |[],[],_,k=>by simp[cB]
 | _::_,_::_,_,0=>by simp[cB]
 | _::_,_::_,h,k+1=>⟨h.1,cB.take h.2 k⟩
 |[],_::_,h,_=>h.elim
 | _::_,[],h,_=>h.elim
theorem cB.drop {α:Type} {R:List Value->α->Prop}:∀{vs:List (List Value)} {l:List α},cB R vs l->∀k,cB R (vs.drop k) (l.drop k)
 |[],[],_,k=>by simp[cB]
 | _::_,_::_,h,0=>h
 | _::_,_::_,h,k+1=>cB.drop h.2 k
 |[],_::_,h,_=>h.elim
 | _::_,[],h,_=>h.elim
theorem gF {α:Type} {R:List Value->α->Prop} (hR:∀v a,R v a->∀u∈v,bF u=true):∀{vs:List (List Value)} {l:List α},cB R vs l->∀u∈vs.flatten,bF u=true
 |[],[],_,u,hu=>by simp at hu
 |v::vs,a::l,h,u,hu=>by
  rw[List.flatten_cons]at hu;rcases a0g.1 hu with hu|hu
  ·exact hR v a h.1 u hu
  ·exact gF hR h.2 u hu
 |[],_::_,h,_,_=>h.elim
 | _::_,[],h,_,_=>h.elim
def FV [Ol] (K:Nat) (w:World) (vs:List Value) (t:Term):Prop:=
 ∃m ao n cap bo k cb,vs=[.bool m,a0d ao n cap,a0d bo k cb]/\ Zd w m ao n cap t.1/\ Bd t.1 K/\ Ml w bo k cb t.2
theorem FV.below [Ol] {K:Nat} {w w':World} {vs:List Value} {t:Term} (h:FV K w vs t) (hb:Below w.heap.size w w'):FV K w' vs t:=by
 obtain⟨m,ao,n,cap,bo,k,cb,h1,h2,h3,h4⟩:=h;exact⟨m,ao,n,cap,bo,k,cb,h1,h2.below hb,h3,h4.below hb⟩
theorem FV.mono [Ol] {K L:Nat} {w:World} {vs:List Value} {t:Term} (h:FV K w vs t) (hk:K<=L):FV L w vs t:=by
 obtain⟨m,ao,n,cap,bo,k,cb,h1,h2,h3,h4⟩:=h;exact⟨m,ao,n,cap,bo,k,cb,h1,h2,h3.mono hk,h4⟩
theorem Ml.stays [Ol] {B:Nat} {e:TypeId} {sz:Nat} {w w':World} {ao:Option Addr} {n cap:Nat} {bS:List (List Value)} {bo:Option Addr} {k cb:Nat} {ps:List (Int×Int)} (h:Ml w bo k cb ps) (hO:jb B e sz w ao n cap bS) (hG:w.grownBy w' (a0d ao n cap).ownBlock):Ml w' bo k cb ps:=
 ⟨h.len,h.le,h.big,h.wf,h.nil,λad had t ht=>⟨hO.stays hG (h.cells ad had t ht).1,hO.stays hG (h.cells ad had t ht).2⟩,λh0 ad had=>by
  obtain⟨x,hx⟩:=h.int h0 had;exact(h.kp h0 ad had).grown (h.blt h0 had) hG λeq=>(hO.C9 _ eq.symm).far hx rfl⟩
theorem Zd.stays [Ol] {B:Nat} {e:TypeId} {sz:Nat} {w w':World} {ao:Option Addr} {n cap:Nat} {bS:List (List Value)} {m:Bool} {bo:Option Addr} {k cb:Nat} {z:Int} (h:Zd w m bo k cb z) (hO:jb B e sz w ao n cap bS) (hG:w.grownBy w' (a0d ao n cap).ownBlock):Zd w' m bo k cb z:=
 ⟨h.neg,h.sl.len,h.sl.le,h.sl.big,h.sl.wf,h.sl.nil,(λad had t ht=>hO.stays hG (h.sl.cells ad had t ht)),λh0 ad had=>by
  obtain⟨x,hx⟩:=h.sl.int h0 had;exact(h.sl.kp h0 ad had).grown (h.sl.blt h0 had) hG λeq=>(hO.C9 _ eq.symm).far hx rfl⟩
theorem FV.stays [Ol] {B:Nat} {e:TypeId} {sz:Nat} {w w':World} {ao:Option Addr} {n cap:Nat} {bS:List (List Value)} {K:Nat} {vs:List Value} {t:Term} (h:FV K w vs t) (hO:jb B e sz w ao n cap bS) (hG:w.grownBy w' (a0d ao n cap).ownBlock):FV K w' vs t:=by
 obtain⟨m,ao,n,cap,bo,k,cb,h1,h2,h3,h4⟩:=h;exact⟨m,ao,n,cap,bo,k,cb,h1,h2.stays hO hG,h3,h4.stays hO hG⟩
theorem iw [Ol] {K:Nat} {w:World} {vs:List Value} {t:Term} (h:FV K w vs t):∀u∈vs,bF u=true:=by
 obtain⟨m,ao,n,cap,bo,k,cb,rfl,_⟩:=h;intro u hu;simp at hu;rcases hu with rfl|rfl|rfl<;>rfl
structure Pz [Ol] (K:Nat) (w:World) (ao:Option Addr) (n cap:Nat) (p:List Term):Prop where
 ex:∃bS,Gl 3 w ao n cap bS/\ cB (FV K w) bS p
theorem Pz.len [Ol] {K:Nat} {w:World} {ao:Option Addr} {n cap:Nat} {p:List Term} (h:Pz K w ao n cap p):p.length=n:=by
 obtain⟨bS,h1,h2⟩:=h.ex;rw[<-h2.len,h1.len]
theorem Pz.le [Ol] {K:Nat} {w:World} {ao:Option Addr} {n cap:Nat} {p:List Term} (h:Pz K w ao n cap p):n<=cap:=by
 obtain⟨bS,h1,h2⟩:=h.ex;exact h1.le
theorem Pz.below [Ol] {K:Nat} {w w':World} {ao:Option Addr} {n cap:Nat} {p:List Term} (h:Pz K w ao n cap p) (hb:Below w.heap.size w w'):Pz K w' ao n cap p:=by
 obtain⟨bS,h1,h2⟩:=h.ex;exact⟨bS,h1.below hb,h2.imp λv a h=>h.below hb⟩
theorem Pz.mono [Ol] {K L:Nat} {w:World} {ao:Option Addr} {n cap:Nat} {p:List Term} (h:Pz K w ao n cap p) (hk:K<=L):Pz L w ao n cap p:=by
 obtain⟨bS,h1,h2⟩:=h.ex;exact⟨bS,h1,h2.imp λv a h=>h.mono hk⟩
theorem Pz.zero [Ol] (K:Nat) (w:World):Pz K w none 0 0 []:=⟨[],Gl.zero 3 w,trivial⟩
def uz [Ol] (K:Nat) (w:World) (p:List Term) (e:Ending) (w':World):Prop:=∃ao n cap,e= .returned (a0d ao n cap)/\ Pz K w' ao n cap p/\ Below w.heap.size w w'
theorem Tryz.Ql:(Tryz.prog.info? 87).map (λi=>(i.zero,i.size,i.bytes))=some (some (.agg #[.bool false,a0d none 0 0,a0d none 0 0]),3,56):=by kernel_rfl
theorem qi (c:Int) (m:List (Int×Int)):∀(p:List Term) (k:Nat),k<=p.length->(∀t,t<k->0<lS (p.getD t (0,[])).2 m)->
  iG p c m=p.take k++iG (p.drop k) c m
 | _,0,_,_=>by simp
 |t::r,k+1,hk,h=>by
  have h0:0<lS t.2 m:=by simpa using h 0 (by omega)
  have ih:=qi c m r k (by simpa using hk) (λj hj=>by simpa using h (j+1) (by omega));rw[List.take_succ_cons,List.drop_succ_cons,List.cons_append,<-ih]
  conv=>lhs;unfold iG
  rw[if_pos h0]
 |[],k+1,hk,_=>by simp at hk
open Lib (hid)
theorem Uu [Ol] {w:World} {b:Nat} {vs:List Value} {T:TypeId} {m:Bool} {ao:Option Addr} {n cap:Nat} {z:Int} (hb:bD w b vs T) (h:Zd w m ao n cap z) (u v:Value) (hv:∀x∈vs,bF x=true):Zd ((w.setCell ⟨b,0,none⟩ u).setCell ⟨b,1,none⟩ v) m ao n cap z:=by
 have hcl:eO w b:=λcur T fr hh=>by
  unfold bD at hb;rw[hb]at hh;cases hh;exact hv
 refine⟨h.neg,h.sl.len,h.sl.le,h.sl.big,h.sl.wf,h.sl.nil,λad had t ht=>?_,λh0 ad had=>?_⟩
 rotate_left
 ·obtain⟨x,hx⟩:=h.sl.int h0 had;have hne:=hcl.far hx;exact(h.sl.kp h0 ad had).keep ((a0a _ _ _ _ hne).trans (a0a _ _ _ _ hne))
 have hc:=h.sl.cells ad had t ht;have hne:=hcl.far hc;exact(World.cell?_of_block ((a0a _ _ _ _ hne).trans (a0a _ _ _ _ hne))).trans hc
theorem zB [Ol] {K:Nat} {ao zo mo:Option Addr} {n cap zn zc mn mc:Nat} {mz:Bool} {p:List Term} {c:Int} {m:List (Int×Int)} {w:World} (hp:Pz K w ao n cap p) (hz:Zd w mz zo zn zc c) (hbz:Bd c K) (hm:Ml w mo mn mc m)
  (hf:fall p) (hmm:aZ 0 m=true) (hn:n<=2000000) (hK:K<=9000):
  Calls Tryz.prog 46 #[a0d ao n cap,.agg #[.bool mz,a0d zo zn zc],a0d mo mn mc] w (uz (K+1) w (iG p c m)):=by
 obtain⟨i0,hi,hz0,hz1,hz2⟩:=info_parts Tryz.Ql;obtain⟨bS,hG,hT⟩:=hp.ex;have hle:=hG.le;have hbig:=hG.big;have hpl:=hp.len;have HG:=hid hG;have HT:=hid hT;have HZ:=hid hz;have HBZ:=hid hbz;have HM:=hid hm;have HF:=hid hf;have Ls:=hid hmm;have uj:=hid hpl;clear hp hz hbz hm hf hmm hG hT hpl;go_enter Tryz.func46,Tryz.ntmps46;go_upto_region 1 with(fail)
 refine aj (λW hW=>?_);have HB:Hid (Below w.heap.size w W):=by rw[hW];exact af _ _
 have HX:Hid (bD W w.heap.size [.bool mz,a0d zo zn zc] 45):=by rw[hW];exact bD.new w [.bool mz,a0d zo zn zc] _
 clear hW;go_wp2;go_loopw [7,8] (λo i wr=>∃(k cp:Nat) (oo:Option Addr),i= .int .i64 k/\ o=a0d oo k cp/\ k<=n/\ Hid (∀t,t<k->0<lS (p.getD t (0,[])).2 m)/\ Hid (jb w.heap.size 87 3 wr oo k cp (bS.take k)/\ bD wr w.heap.size [.bool mz,a0d zo zn zc] 45/\ Below w.heap.size w wr)) (λ_ i _=>n-(intOf i).toNat)
 case atStart=>exact⟨0,0,none,rfl,rfl,a0x _,λt ht=>by omega,jb.nil _ _ _ _,HX.out,HB.out⟩
 case round=>
  clear HX HB;obtain⟨k,cp,oo,rfl,rfl,hk,HC,HS⟩:=hrel;by_cases hkn:k<n
  ·obtain⟨b,off,rfl,hb,hcl⟩:=HG.out.at (by omega);obtain⟨tm,ta,tn,tc,ba,bn,bc,hv,tz,tb,oF⟩:=cB.get (0,[]) HT.out k (by rw[uj.out];exact hkn);have hmay:aZ 0 (p.getD k (0,[])).2=true:=iF HF.out _ (by simp only[a0h,a0i (show k<p.length by rw[uj.out];exact hkn),Option.getD_some];exact a0j _)
   have hcells:∀V:World,Below w.heap.size w V->V.cell? ⟨b,off+k*3,none⟩=some (.bool tm)/\ V.cell? ⟨b,off+k*3+1,none⟩=some (a0d ta tn tc)/\ V.cell? ⟨b,off+k*3+2,none⟩=some (a0d ba bn bc):=by
    intro V hV;have h0:=hcl V hV k hkn 0 (by omega);have h1:=hcl V hV k hkn 1 (by omega);have h2:=hcl V hV k hkn 2 (by omega);rw[hv]at h0 h1 h2;exact⟨h0,h1,h2⟩
   have HV:Hid (bS.getD k []=[.bool tm,a0d ta tn tc,a0d ba bn bc]):=hv;have mM:=hid hcells;have Lu:=hid tz;have Lv:=hid tb;have Pn:=hid oF;have Qm:=hid hmay;clear hcl hv hcells tz tb oF hmay;obtain⟨z,hz⟩:∃z,z=lS (p.getD k (0,[])).2 m:=⟨_,rfl⟩;have HZC:Hid (qN z (nW (p.getD k (0,[])).2) (nW m)):=by rw[hz,qj Qm.out,qj Ls.out];exact nX Qm.out Ls.out
   have TW:=hid hz;clear hz;obtain⟨c0,c1,c2⟩:=mM.out _ HS.out.2.2;go_wp2_with fail;refine(ql (Pn.out.below HS.out.2.2) (HM.out.below HS.out.2.2) z HZC.out).mono ?_;rintro e w2 ⟨rfl,hB⟩;have HS2:Hid (jb w.heap.size 87 3 w2 oo k cp (bS.take k)/\ bD w2 w.heap.size [.bool mz,a0d zo zn zc] 45/\ Below w.heap.size w w2):=⟨HS.out.1.below hB,HS.out.2.1.below hB,Below.steps HS.out.2.2 hB⟩;clear hB HS c0 c1 c2;by_cases g:0<z
   ·have g1:decide (0<z)=true:=decide_eq_true g;have HGZ:=hid g;clear g;obtain⟨c0,c1,c2⟩:=mM.out _ HS2.out.2.2;have hk2:k+1<=2000001:=by omega
    go_wp2_with (at_builtin;refine fB w2 w rfl (.tmp 23) (.tmp 28) 39 rfl w.heap.size 87 3 56 i0 (.agg #[.bool false,a0d none 0 0,a0d none 0 0]) Tryz.underlying39 hi hz0 hz1 hz2 rfl (by omega) oo k cp (bS.take k) rfl HS2.out.1 [.bool tm,a0d ta tn tc,a0d ba bn bc] rfl (by simp[a0e]) (by simp[a0f,bF]) (by simp[bF]) _ rfl HS2.out.2.2 HS2.out.2.2.size (by omega) (by omega) ?_;intro o2 cp2 w3 hO hB3 hG3;have HO:=hid hO;have HB3:=hid hB3;have JG:=hid ((HS2.out.2.1.below (af w2 _)).grown (HS2.out.1.below (af w2 _)) (by decide) hG3);clear hO hB3 hG3 c0 c1 c2);go_roundw
    case rel=>
     refine⟨k+1,cp2,o2,by go_num,rfl,by omega,λt ht=>?_,?_,JG.out,HB3.out⟩
     ·by_cases h:t<k
      ·exact HC.out t h
      ·obtain rfl:t=k:=by omega
       rw[<-TW.out];exact HGZ.out
     ·have e:bS.take (k+1)=bS.take k++[[.bool tm,a0d ta tn tc,a0d ba bn bc]]:=by
       rw[a0k (by rw[HG.out.len];exact hkn)]
       congr 2
       rw[<-HV.out];simp[a0h,a0i (show k<bS.length by rw[HG.out.len];exact hkn)]
      rw[e];exact HO.out
    case measure=>simp[intOf];omega
   ·have g1:decide (0<z)=false:=decide_eq_false g;have WQ:=hid g;clear g;obtain⟨c0,c1,c2⟩:=mM.out _ HS2.out.2.2;go_wp2_with fail;refine(ql (Pn.out.below HS2.out.2.2) (HM.out.below HS2.out.2.2) z HZC.out).mono ?_;rintro e w3 ⟨rfl,hB⟩;have Cq:Hid (jb w.heap.size 87 3 w3 oo k cp (bS.take k)/\ bD w3 w.heap.size [.bool mz,a0d zo zn zc] 45/\ Below w.heap.size w w3):=⟨HS2.out.1.below hB,HS2.out.2.1.below hB,Below.steps HS2.out.2.2 hB⟩;clear hB HS2 c0 c1 c2;obtain⟨c0,c1,c2⟩:=mM.out _ Cq.out.2.2;by_cases gz:z=0
    ·have HZ0:=hid gz;have g2:(z==0)=true:=by simpa using gz
     clear gz
     have HR:Hid (iG p c m=p.take k++((if c+(p.getD k (0,[])).1=0 then[]else[(c+(p.getD k (0,[])).1,m)])++p.drop (k+1))):=by
      have hl:k<p.length:=by rw[uj.out];exact hkn
      rw[Hid,qi c m p k (by omega) HC.out,a0l hl];have e:p.getD k (0,[])=p[k]:=by simp[a0h,a0i hl]
      have h1:=TW.out;rw[e]at h1 ⊢;simp only[iG];rw[if_neg (by rw[<-h1];have:=WQ.out;omega),if_pos (by rw[<-h1];exact HZ0.out)];by_cases hc:c+(p[k]).1=0
      ·rw[if_pos hc,if_pos hc];rfl
      ·rw[if_neg hc,if_neg hc];rfl
     clear HC c0 c1 c2;go_upto_region 7 with(fail)
     have hcc:∀V:World,Below w.heap.size w V->V.cell? ⟨b,off+k*3,none⟩=some (.bool tm)/\ V.cell? ⟨b,off+k*3+1,none⟩=some (a0d ta tn tc):=λV hV=>⟨(mM.out V hV).1,(mM.out V hV).2.1⟩
     have WR:=hid hcc;clear hcc;refine wp_region_held_drew (S:=λw'=>w'.cell? ⟨b,off+k*3,none⟩=some (.bool tm)/\ w'.cell? ⟨b,off+k*3+1,none⟩=some (a0d ta tn tc)) (by kernel_rfl) (WR.out _ Cq.out.2.2.drew) (λhH=>?_);refine ai (λw4 hW=>?_);have kT:Hid (jb w.heap.size 87 3 w4 oo k cp (bS.take k)/\ bD w4 w.heap.size [.bool mz,a0d zo zn zc] 45/\ Below w.heap.size w w4):=by rw[hW];exact⟨Cq.out.1.below (a0b _ _).drew,Cq.out.2.1.below (a0b _ _).drew,Cq.out.2.2.drew⟩
     rw[<-hW]at hH;clear hW Cq;refine aQ 1 hH ?_;try simp only[ax]
     refine aQ 2 hH ?_;try simp only[ax]
     refine aQ 3 hH ?_;try simp only[ax]
     refine aQ 4 hH ?_;try simp only[ax]
     refine aQ 5 hH ?_;try simp only[ax]
     refine ah 0 rfl (by kernel_rfl) (λKK hK=>?_);have x0:=kT.out.2.1.cell 0;have x1:=kT.out.2.1.cell 1;simp only[a0m,a0n]at x0 x1;go_simp;clear x0 x1;clear hH;refine hK.out _ _ (WR.out _ kT.out.2.2) λhH=>?_;clear hK KK
     try simp only[ax]
     refine ah 6 rfl (by kernel_rfl) (λKK hK=>?_);go_simp;refine(Gp ((HZ.out.below kT.out.2.2).zx HBZ.out (by omega)) ((Lu.out.below kT.out.2.2).zx Lv.out (by omega))).mono ?_;rintro e w5 ⟨rm,ra,rn,rc,rfl,hX,hB⟩;have jB:Hid (jb w.heap.size 87 3 w5 oo k cp (bS.take k)/\ bD w5 w.heap.size [.bool mz,a0d zo zn zc] 45/\ Below w.heap.size w w5):=⟨kT.out.1.below hB,kT.out.2.1.below hB,Below.steps kT.out.2.2 hB⟩;have MU:=hid hX;clear kT hX hB;go_wp2_with fail;clear hH;refine hK.out _ _ (WR.out _ jB.out.2.2) λhH=>?_;clear hK KK
     try simp only[ax]
     refine ah 7 rfl (by kernel_rfl) (λKK hK=>?_);have x0:=jB.out.2.1.cell 0;have x1:=jB.out.2.1.cell 1;have y0:=jB.out.2.1.fz 0;have y1:=jB.out.2.1.fz 1;simp only[a0m,a0n]at x0 x1;go_simp;clear x0 x1 y0 y1;have p9:Hid (jb w.heap.size 87 3 _ oo k cp (bS.take k)/\ bD _ w.heap.size [.bool rm,a0d ra rn rc] 45/\ Below w.heap.size w _):=⟨(jB.out.1.far jB.out.2.1 (by decide) 0 (.bool rm)).far (jB.out.2.1.set 0 (.bool rm)) (by decide) 1 (a0d ra rn rc),(jB.out.2.1.set 0 (.bool rm)).set 1 (a0d ra rn rc),(jB.out.2.2.setCell (p:=⟨w.heap.size,0,none⟩) (a0y _) (.bool rm)).setCell (p:=⟨w.heap.size,1,none⟩) (a0y _) (a0d ra rn rc)⟩;have HZ2:=hid (Uu jB.out.2.1 MU.out (.bool rm) (a0d ra rn rc) (by simp[bF]));clear jB MU;refine hK.out _ _ (WR.out _ p9.out.2.2) (λh2=>?_);clear hK KK hH h2
     try simp only[ax]
     refine ai (λw6 hW=>?_);rw[<-hW]at p9 HZ2;clear hW;refine wpAnyH_done (by kernel_rfl) ?_ _
     have HB2:Hid (Bd (c+(p.getD k (0,[])).1) (K+1)):=Bd.add HBZ.out Lv.out (a0y _);obtain⟨cc,hcc⟩:∃cc,cc=c+(p.getD k (0,[])).1:=⟨_,rfl⟩;rw[<-hcc]at HZ2 HR HB2;have hk1:k+1<=n:=by omega
     clear hcc WR HZ HBZ Lv Lu HZC TW;by_cases hck:cap=k+1
     ·obtain⟨s,hs⟩:∃s,(cc).sign=s:=⟨_,rfl⟩;have mO:=hid hs;clear hs;have x0:=p9.out.2.1.cell 0;have x1:=p9.out.2.1.cell 1;simp only[a0m,a0n]at x0 x1;go_wp2_with fail;refine(jN s (HZ2.out.zx HB2.out (by omega)) mO.out).mono ?_;rintro e w7 ⟨rfl,hB⟩;have fu:Hid (jb w.heap.size 87 3 w7 oo k cp (bS.take k)/\ bD w7 w.heap.size [.bool rm,a0d ra rn rc] 45/\ Below w.heap.size w w7):=⟨p9.out.1.below hB,p9.out.2.1.below hB,Below.steps p9.out.2.2 hB⟩;have Dc:=hid (HZ2.out.below hB);clear hB p9 HZ2 x0 x1;by_cases h0:cc=0
      ·obtain rfl:s=0:=by rw[<-mO.out,h0];rfl
       have HR2:Hid (iG p c m=p.take k++p.drop (k+1)):=HR.out.trans (by rw[if_pos h0];rfl);clear h0 HR mO;go_wp2_with (at_builtin;go_must (refine dV w7 w rfl (.tmp 64) (.tmp 67) 39 rfl w.heap.size 87 3 56 i0 (.agg #[.bool false,a0d none 0 0,a0d none 0 0]) Tryz.underlying39 hi hz0 hz1 hz2 rfl (by omega) oo k cp (bS.take k) rfl fu.out.1 (some ⟨b,off,none⟩) _ _ (bS.drop (k+1)) rfl (((HG.out.Ev (k+1) (by omega) hck).below fu.out.2.2).cast (by omega) (by omega)) fu.out.2.2 fu.out.2.2.size (by omega) (by omega) (by simp[a0f,bF]) (gF (λ_ _ h=>iw h) (cB.drop HT.out (k+1))) ?_);intro o8 Qn w8 hO o5 _;have Ad:=hid hO;have jl:=hid o5;clear hO o5);go_ret;exact⟨_,_,_,rfl,⟨_,Ad.out.gl.cast (by omega) rfl,by rw[HR2.out];exact cB.append (cB.take (cB.imp (λv a h=>(h.below jl.out).mono (a0z K)) HT.out) _) (cB.drop (cB.imp (λv a h=>(h.below jl.out).mono (a0z K)) HT.out) _)⟩,jl.out⟩
      ·have hs0:(s==0)=false:=by rw[<-mO.out];simpa using h0
       have hs1:(s !=0)=true:=by rw[<-mO.out];simpa using h0
       have HR2:Hid (iG p c m=p.take k++([(cc,m)]++p.drop (k+1))):=HR.out.trans (by rw[if_neg h0]);have x0:=fu.out.2.1.cell 0;have x1:=fu.out.2.1.cell 1;simp only[a0m,a0n]at x0 x1;clear h0 HR mO
       go_wp2_with (first
        |(at_builtin;refine fB w7 w rfl (.tmp 58) (.tmp 62) 39 rfl w.heap.size 87 3 56 i0 (.agg #[.bool false,a0d none 0 0,a0d none 0 0]) Tryz.underlying39 hi hz0 hz1 hz2 rfl (by omega) oo k cp (bS.take k) rfl fu.out.1 [.bool rm,a0d ra rn rc,a0d mo mn mc] rfl (by simp[a0e]) (by simp[a0f,bF]) (by simp[bF]) _ rfl fu.out.2.2 fu.out.2.2.size (by omega) (by omega) ?_;intro o9 Qo w9 hO Ae Gq;have Gr:=hid hO;have oP:=hid Ae;have JH:=hid ((Dc.out.below (af w7 _)).stays (fu.out.1.below (af w7 _)) Gq);clear hO Ae Gq x0 x1)
        |(at_builtin;refine dV w9 w rfl (.tmp 64) (.tmp 67) 39 rfl w.heap.size 87 3 56 i0 (.agg #[.bool false,a0d none 0 0,a0d none 0 0]) Tryz.underlying39 hi hz0 hz1 hz2 rfl (by omega) o9 _ Qo (bS.take k++[[.bool rm,a0d ra rn rc,a0d mo mn mc]]) rfl Gr.out (some ⟨b,off,none⟩) _ _ (bS.drop (k+1)) rfl (((HG.out.Ev (k+1) (by omega) hck).below oP.out).cast (by omega) (by omega)) oP.out oP.out.size (by omega) (by omega) (by simp[a0f,bF]) (gF (λ_ _ h=>iw h) (cB.drop HT.out (k+1))) ?_;intro o8 Qn w8 hO o5 y7;have Ad:=hid hO;have jl:=hid o5;have Qq:=hid (JH.out.stays Gr.out y7);clear hO o5 y7))
       go_ret;refine⟨_,_,_,rfl,⟨_,Ad.out.gl.cast (by omega) rfl,?_⟩,jl.out⟩;rw[HR2.out,a0o];exact cB.append (cB.take (cB.imp (λv a h=>(h.below jl.out).mono (a0z K)) HT.out) _) (cB.append ⟨⟨_,_,_,_,_,_,_,rfl,Qq.out,HB2.out,HM.out.below jl.out⟩,trivial⟩ (cB.drop (cB.imp (λv a h=>(h.below jl.out).mono (a0z K)) HT.out) _))
     ·obtain⟨s,hs⟩:∃s,(cc).sign=s:=⟨_,rfl⟩;have mO:=hid hs;clear hs;have x0:=p9.out.2.1.cell 0;have x1:=p9.out.2.1.cell 1;simp only[a0m,a0n]at x0 x1;go_wp2_with fail;refine(jN s (HZ2.out.zx HB2.out (by omega)) mO.out).mono ?_;rintro e w7 ⟨rfl,hB⟩;have fu:Hid (jb w.heap.size 87 3 w7 oo k cp (bS.take k)/\ bD w7 w.heap.size [.bool rm,a0d ra rn rc] 45/\ Below w.heap.size w w7):=⟨p9.out.1.below hB,p9.out.2.1.below hB,Below.steps p9.out.2.2 hB⟩;have Dc:=hid (HZ2.out.below hB);clear hB p9 HZ2 x0 x1;by_cases h0:cc=0
      ·obtain rfl:s=0:=by rw[<-mO.out,h0];rfl
       have HR2:Hid (iG p c m=p.take k++p.drop (k+1)):=HR.out.trans (by rw[if_pos h0];rfl);clear h0 HR mO;go_wp2_with (at_builtin;go_must (refine dV w7 w rfl (.tmp 64) (.tmp 67) 39 rfl w.heap.size 87 3 56 i0 (.agg #[.bool false,a0d none 0 0,a0d none 0 0]) Tryz.underlying39 hi hz0 hz1 hz2 rfl (by omega) oo k cp (bS.take k) rfl fu.out.1 (some ⟨b,off+(k+1)*3,none⟩) _ _ (bS.drop (k+1)) rfl (((HG.out.xA (k+1) (by omega) hck).below fu.out.2.2).cast (by omega) (by omega)) fu.out.2.2 fu.out.2.2.size (by omega) (by omega) (by simp[a0f,bF]) (gF (λ_ _ h=>iw h) (cB.drop HT.out (k+1))) ?_);intro o8 Qn w8 hO o5 _;have Ad:=hid hO;have jl:=hid o5;clear hO o5);go_ret;exact⟨_,_,_,rfl,⟨_,Ad.out.gl.cast (by omega) rfl,by rw[HR2.out];exact cB.append (cB.take (cB.imp (λv a h=>(h.below jl.out).mono (a0z K)) HT.out) _) (cB.drop (cB.imp (λv a h=>(h.below jl.out).mono (a0z K)) HT.out) _)⟩,jl.out⟩
      ·have hs0:(s==0)=false:=by rw[<-mO.out];simpa using h0
       have hs1:(s !=0)=true:=by rw[<-mO.out];simpa using h0
       have HR2:Hid (iG p c m=p.take k++([(cc,m)]++p.drop (k+1))):=HR.out.trans (by rw[if_neg h0]);have x0:=fu.out.2.1.cell 0;have x1:=fu.out.2.1.cell 1;simp only[a0m,a0n]at x0 x1;clear h0 HR mO
       go_wp2_with (first
        |(at_builtin;refine fB w7 w rfl (.tmp 58) (.tmp 62) 39 rfl w.heap.size 87 3 56 i0 (.agg #[.bool false,a0d none 0 0,a0d none 0 0]) Tryz.underlying39 hi hz0 hz1 hz2 rfl (by omega) oo k cp (bS.take k) rfl fu.out.1 [.bool rm,a0d ra rn rc,a0d mo mn mc] rfl (by simp[a0e]) (by simp[a0f,bF]) (by simp[bF]) _ rfl fu.out.2.2 fu.out.2.2.size (by omega) (by omega) ?_;intro o9 Qo w9 hO Ae Gq;have Gr:=hid hO;have oP:=hid Ae;have JH:=hid ((Dc.out.below (af w7 _)).stays (fu.out.1.below (af w7 _)) Gq);clear hO Ae Gq x0 x1)
        |(at_builtin;refine dV w9 w rfl (.tmp 64) (.tmp 67) 39 rfl w.heap.size 87 3 56 i0 (.agg #[.bool false,a0d none 0 0,a0d none 0 0]) Tryz.underlying39 hi hz0 hz1 hz2 rfl (by omega) o9 _ Qo (bS.take k++[[.bool rm,a0d ra rn rc,a0d mo mn mc]]) rfl Gr.out (some ⟨b,off+(k+1)*3,none⟩) _ _ (bS.drop (k+1)) rfl (((HG.out.xA (k+1) (by omega) hck).below oP.out).cast (by omega) (by omega)) oP.out oP.out.size (by omega) (by omega) (by simp[a0f,bF]) (gF (λ_ _ h=>iw h) (cB.drop HT.out (k+1))) ?_;intro o8 Qn w8 hO o5 y7;have Ad:=hid hO;have jl:=hid o5;have Qq:=hid (JH.out.stays Gr.out y7);clear hO o5 y7))
       go_ret;refine⟨_,_,_,rfl,⟨_,Ad.out.gl.cast (by omega) rfl,?_⟩,jl.out⟩;rw[HR2.out,a0o];exact cB.append (cB.take (cB.imp (λv a h=>(h.below jl.out).mono (a0z K)) HT.out) _) (cB.append ⟨⟨_,_,_,_,_,_,_,rfl,Qq.out,HB2.out,HM.out.below jl.out⟩,trivial⟩ (cB.drop (cB.imp (λv a h=>(h.below jl.out).mono (a0z K)) HT.out) _))
    ·have HN0:=hid gz;have g2:(z==0)=false:=by simpa using gz
     clear gz
     have HR:Hid (iG p c m=p.take k++((if c=0 then[]else[(c,m)])++p.drop k)):=by
      have hl:k<p.length:=by rw[uj.out];exact hkn
      rw[Hid,qi c m p k (by omega) HC.out,a0l hl];have e:p.getD k (0,[])=p[k]:=by simp[a0h,a0i hl]
      have h1:=TW.out;rw[e]at h1;simp only[iG];rw[if_neg (by rw[<-h1];have:=WQ.out;omega),if_neg (by rw[<-h1];exact HN0.out)];by_cases hc:c=0
      ·rw[if_pos hc,if_pos hc];rfl
      ·rw[if_neg hc,if_neg hc];rfl
     have p9:=Cq;have HZ2:=hid (HZ.out.below Cq.out.2.2);have HB2:=hid (HBZ.out.mono (a0z K));clear HC Cq HZ c0 c1 c2;have hck:cap≠k:=by omega
     obtain⟨s,hs⟩:∃s,(c).sign=s:=⟨_,rfl⟩;have mO:=hid hs;clear hs;have x0:=p9.out.2.1.cell 0;have x1:=p9.out.2.1.cell 1;simp only[a0m,a0n]at x0 x1;go_wp2_with fail;refine(jN s (HZ2.out.zx HB2.out (by omega)) mO.out).mono ?_;rintro e w7 ⟨rfl,hB⟩;have fu:Hid (jb w.heap.size 87 3 w7 oo k cp (bS.take k)/\ bD w7 w.heap.size [.bool mz,a0d zo zn zc] 45/\ Below w.heap.size w w7):=⟨p9.out.1.below hB,p9.out.2.1.below hB,Below.steps p9.out.2.2 hB⟩;have Dc:=hid (HZ2.out.below hB);clear hB p9 HZ2 x0 x1;by_cases h0:c=0
     ·obtain rfl:s=0:=by rw[<-mO.out,h0];rfl
      have HR2:Hid (iG p c m=p.take k++p.drop k):=HR.out.trans (by rw[if_pos h0];rfl);clear h0 HR mO;go_wp2_with (at_builtin;go_must (refine dV w7 w rfl (.tmp 64) (.tmp 67) 39 rfl w.heap.size 87 3 56 i0 (.agg #[.bool false,a0d none 0 0,a0d none 0 0]) Tryz.underlying39 hi hz0 hz1 hz2 rfl (by omega) oo k cp (bS.take k) rfl fu.out.1 (some ⟨b,off+k*3,none⟩) _ _ (bS.drop k) rfl (((HG.out.xA k (by omega) hck).below fu.out.2.2).cast (by omega) (by omega)) fu.out.2.2 fu.out.2.2.size (by omega) (by omega) (by simp[a0f,bF]) (gF (λ_ _ h=>iw h) (cB.drop HT.out k)) ?_);intro o8 Qn w8 hO o5 _;have Ad:=hid hO;have jl:=hid o5;clear hO o5);go_ret;exact⟨_,_,_,rfl,⟨_,Ad.out.gl.cast (by omega) rfl,by rw[HR2.out];exact cB.append (cB.take (cB.imp (λv a h=>(h.below jl.out).mono (a0z K)) HT.out) _) (cB.drop (cB.imp (λv a h=>(h.below jl.out).mono (a0z K)) HT.out) _)⟩,jl.out⟩
     ·have hs0:(s==0)=false:=by rw[<-mO.out];simpa using h0
      have hs1:(s !=0)=true:=by rw[<-mO.out];simpa using h0
      have HR2:Hid (iG p c m=p.take k++([(c,m)]++p.drop k)):=HR.out.trans (by rw[if_neg h0]);have x0:=fu.out.2.1.cell 0;have x1:=fu.out.2.1.cell 1;simp only[a0m,a0n]at x0 x1;clear h0 HR mO
      go_wp2_with (first
       |(at_builtin;refine fB w7 w rfl (.tmp 58) (.tmp 62) 39 rfl w.heap.size 87 3 56 i0 (.agg #[.bool false,a0d none 0 0,a0d none 0 0]) Tryz.underlying39 hi hz0 hz1 hz2 rfl (by omega) oo k cp (bS.take k) rfl fu.out.1 [.bool mz,a0d zo zn zc,a0d mo mn mc] rfl (by simp[a0e]) (by simp[a0f,bF]) (by simp[bF]) _ rfl fu.out.2.2 fu.out.2.2.size (by omega) (by omega) ?_;intro o9 Qo w9 hO Ae Gq;have Gr:=hid hO;have oP:=hid Ae;have JH:=hid ((Dc.out.below (af w7 _)).stays (fu.out.1.below (af w7 _)) Gq);clear hO Ae Gq x0 x1)
       |(at_builtin;refine dV w9 w rfl (.tmp 64) (.tmp 67) 39 rfl w.heap.size 87 3 56 i0 (.agg #[.bool false,a0d none 0 0,a0d none 0 0]) Tryz.underlying39 hi hz0 hz1 hz2 rfl (by omega) o9 _ Qo (bS.take k++[[.bool mz,a0d zo zn zc,a0d mo mn mc]]) rfl Gr.out (some ⟨b,off+k*3,none⟩) _ _ (bS.drop k) rfl (((HG.out.xA k (by omega) hck).below oP.out).cast (by omega) (by omega)) oP.out oP.out.size (by omega) (by omega) (by simp[a0f,bF]) (gF (λ_ _ h=>iw h) (cB.drop HT.out k)) ?_;intro o8 Qn w8 hO o5 y7;have Ad:=hid hO;have jl:=hid o5;have Qq:=hid (JH.out.stays Gr.out y7);clear hO o5 y7))
      go_ret;refine⟨_,_,_,rfl,⟨_,Ad.out.gl.cast (by omega) rfl,?_⟩,jl.out⟩;rw[HR2.out,a0o];exact cB.append (cB.take (cB.imp (λv a h=>(h.below jl.out).mono (a0z K)) HT.out) _) (cB.append ⟨⟨_,_,_,_,_,_,_,rfl,Qq.out,HB2.out,HM.out.below jl.out⟩,trivial⟩ (cB.drop (cB.imp (λv a h=>(h.below jl.out).mono (a0z K)) HT.out) _))
  ·obtain rfl:k=n:=by omega
   have HR:Hid (iG p c m=p.take k++((if c=0 then[]else[(c,m)])++p.drop k)):=by
    rw[Hid,qi c m p k (by rw[uj.out];exact a0y _) HC.out,a0p (by rw[uj.out];exact a0y _)];simp[iG]
   have p9:=HS;have HZ2:=hid (HZ.out.below HS.out.2.2);have HB2:=hid (HBZ.out.mono (a0z K));clear HC HS HZ;cases ao with
   |none=>
    obtain rfl:cap=0:=HG.out.nil rfl;obtain rfl:k=0:=by omega
    obtain⟨s,hs⟩:∃s,(c).sign=s:=⟨_,rfl⟩;have mO:=hid hs;clear hs;have x0:=p9.out.2.1.cell 0;have x1:=p9.out.2.1.cell 1;simp only[a0m,a0n]at x0 x1;go_wp2_with fail;refine(jN s (HZ2.out.zx HB2.out (by omega)) mO.out).mono ?_;rintro e w7 ⟨rfl,hB⟩;have fu:Hid (jb w.heap.size 87 3 w7 oo 0 cp (bS.take 0)/\ bD w7 w.heap.size [.bool mz,a0d zo zn zc] 45/\ Below w.heap.size w w7):=⟨p9.out.1.below hB,p9.out.2.1.below hB,Below.steps p9.out.2.2 hB⟩;have Dc:=hid (HZ2.out.below hB);clear hB p9 HZ2 x0 x1;by_cases h0:c=0
    ·obtain rfl:s=0:=by rw[<-mO.out,h0];rfl
     have HR2:Hid (iG p c m=p.take 0++p.drop 0):=HR.out.trans (by rw[if_pos h0];rfl);clear h0 HR mO;go_wp2_with (at_builtin;go_must (refine dV w7 w rfl (.tmp 64) (.tmp 67) 39 rfl w.heap.size 87 3 56 i0 (.agg #[.bool false,a0d none 0 0,a0d none 0 0]) Tryz.underlying39 hi hz0 hz1 hz2 rfl (by omega) oo 0 cp (bS.take 0) rfl fu.out.1 none _ _ [] rfl ((Gl.zero 3 _).cast (by omega) (by omega)) fu.out.2.2 fu.out.2.2.size (by omega) (by omega) (by simp[a0f,bF]) (by simp) ?_);intro o8 Qn w8 hO o5 _;have Ad:=hid hO;have jl:=hid o5;clear hO o5);go_ret;exact⟨_,_,_,rfl,⟨_,Ad.out.gl.cast (by omega) rfl,by rw[HR2.out];exact cB.append (cB.take (cB.imp (λv a h=>(h.below jl.out).mono (a0z K)) HT.out) _) (by simp[a0p,uj.out,cB])⟩,jl.out⟩
    ·have hs0:(s==0)=false:=by rw[<-mO.out];simpa using h0
     have hs1:(s !=0)=true:=by rw[<-mO.out];simpa using h0
     have HR2:Hid (iG p c m=p.take 0++([(c,m)]++p.drop 0)):=HR.out.trans (by rw[if_neg h0]);have x0:=fu.out.2.1.cell 0;have x1:=fu.out.2.1.cell 1;simp only[a0m,a0n]at x0 x1;clear h0 HR mO
     go_wp2_with (first
      |(at_builtin;refine fB w7 w rfl (.tmp 58) (.tmp 62) 39 rfl w.heap.size 87 3 56 i0 (.agg #[.bool false,a0d none 0 0,a0d none 0 0]) Tryz.underlying39 hi hz0 hz1 hz2 rfl (by omega) oo 0 cp (bS.take 0) rfl fu.out.1 [.bool mz,a0d zo zn zc,a0d mo mn mc] rfl (by simp[a0e]) (by simp[a0f,bF]) (by simp[bF]) _ rfl fu.out.2.2 fu.out.2.2.size (by omega) (by omega) ?_;intro o9 Qo w9 hO Ae Gq;have Gr:=hid hO;have oP:=hid Ae;have JH:=hid ((Dc.out.below (af w7 _)).stays (fu.out.1.below (af w7 _)) Gq);clear hO Ae Gq x0 x1)
      |(at_builtin;refine dV w9 w rfl (.tmp 64) (.tmp 67) 39 rfl w.heap.size 87 3 56 i0 (.agg #[.bool false,a0d none 0 0,a0d none 0 0]) Tryz.underlying39 hi hz0 hz1 hz2 rfl (by omega) o9 _ Qo (bS.take 0++[[.bool mz,a0d zo zn zc,a0d mo mn mc]]) rfl Gr.out none _ _ [] rfl ((Gl.zero 3 _).cast (by omega) (by omega)) oP.out oP.out.size (by omega) (by omega) (by simp[a0f,bF]) (by simp) ?_;intro o8 Qn w8 hO o5 y7;have Ad:=hid hO;have jl:=hid o5;have Qq:=hid (JH.out.stays Gr.out y7);clear hO o5 y7))
     go_ret;refine⟨_,_,_,rfl,⟨_,Ad.out.gl.cast (by omega) rfl,?_⟩,jl.out⟩;rw[HR2.out,a0o];exact cB.append (cB.take (cB.imp (λv a h=>(h.below jl.out).mono (a0z K)) HT.out) _) (cB.append ⟨⟨_,_,_,_,_,_,_,rfl,Qq.out,HB2.out,HM.out.below jl.out⟩,trivial⟩ (by simp[a0p,uj.out,cB]))
   |some ad=>
    obtain⟨b,off,sp⟩:=ad;by_cases hck:cap=k
    ·obtain⟨s,hs⟩:∃s,(c).sign=s:=⟨_,rfl⟩;have mO:=hid hs;clear hs;have x0:=p9.out.2.1.cell 0;have x1:=p9.out.2.1.cell 1;simp only[a0m,a0n]at x0 x1;go_wp2_with fail;refine(jN s (HZ2.out.zx HB2.out (by omega)) mO.out).mono ?_;rintro e w7 ⟨rfl,hB⟩;have fu:Hid (jb w.heap.size 87 3 w7 oo k cp (bS.take k)/\ bD w7 w.heap.size [.bool mz,a0d zo zn zc] 45/\ Below w.heap.size w w7):=⟨p9.out.1.below hB,p9.out.2.1.below hB,Below.steps p9.out.2.2 hB⟩;have Dc:=hid (HZ2.out.below hB);clear hB p9 HZ2 x0 x1;by_cases h0:c=0
     ·obtain rfl:s=0:=by rw[<-mO.out,h0];rfl
      have HR2:Hid (iG p c m=p.take k++p.drop k):=HR.out.trans (by rw[if_pos h0];rfl);clear h0 HR mO;go_wp2_with (at_builtin;go_must (refine dV w7 w rfl (.tmp 64) (.tmp 67) 39 rfl w.heap.size 87 3 56 i0 (.agg #[.bool false,a0d none 0 0,a0d none 0 0]) Tryz.underlying39 hi hz0 hz1 hz2 rfl (by omega) oo k cp (bS.take k) rfl fu.out.1 (some ⟨b,off,sp⟩) _ _ (bS.drop k) rfl (((HG.out.Ev k (by omega) hck).below fu.out.2.2).cast (by omega) (by omega)) fu.out.2.2 fu.out.2.2.size (by omega) (by omega) (by simp[a0f,bF]) (gF (λ_ _ h=>iw h) (cB.drop HT.out k)) ?_);intro o8 Qn w8 hO o5 _;have Ad:=hid hO;have jl:=hid o5;clear hO o5);go_ret;exact⟨_,_,_,rfl,⟨_,Ad.out.gl.cast (by omega) rfl,by rw[HR2.out];exact cB.append (cB.take (cB.imp (λv a h=>(h.below jl.out).mono (a0z K)) HT.out) _) (cB.drop (cB.imp (λv a h=>(h.below jl.out).mono (a0z K)) HT.out) _)⟩,jl.out⟩
     ·have hs0:(s==0)=false:=by rw[<-mO.out];simpa using h0
      have hs1:(s !=0)=true:=by rw[<-mO.out];simpa using h0
      have HR2:Hid (iG p c m=p.take k++([(c,m)]++p.drop k)):=HR.out.trans (by rw[if_neg h0]);have x0:=fu.out.2.1.cell 0;have x1:=fu.out.2.1.cell 1;simp only[a0m,a0n]at x0 x1;clear h0 HR mO
      go_wp2_with (first
       |(at_builtin;refine fB w7 w rfl (.tmp 58) (.tmp 62) 39 rfl w.heap.size 87 3 56 i0 (.agg #[.bool false,a0d none 0 0,a0d none 0 0]) Tryz.underlying39 hi hz0 hz1 hz2 rfl (by omega) oo k cp (bS.take k) rfl fu.out.1 [.bool mz,a0d zo zn zc,a0d mo mn mc] rfl (by simp[a0e]) (by simp[a0f,bF]) (by simp[bF]) _ rfl fu.out.2.2 fu.out.2.2.size (by omega) (by omega) ?_;intro o9 Qo w9 hO Ae Gq;have Gr:=hid hO;have oP:=hid Ae;have JH:=hid ((Dc.out.below (af w7 _)).stays (fu.out.1.below (af w7 _)) Gq);clear hO Ae Gq x0 x1)
       |(at_builtin;refine dV w9 w rfl (.tmp 64) (.tmp 67) 39 rfl w.heap.size 87 3 56 i0 (.agg #[.bool false,a0d none 0 0,a0d none 0 0]) Tryz.underlying39 hi hz0 hz1 hz2 rfl (by omega) o9 _ Qo (bS.take k++[[.bool mz,a0d zo zn zc,a0d mo mn mc]]) rfl Gr.out (some ⟨b,off,sp⟩) _ _ (bS.drop k) rfl (((HG.out.Ev k (by omega) hck).below oP.out).cast (by omega) (by omega)) oP.out oP.out.size (by omega) (by omega) (by simp[a0f,bF]) (gF (λ_ _ h=>iw h) (cB.drop HT.out k)) ?_;intro o8 Qn w8 hO o5 y7;have Ad:=hid hO;have jl:=hid o5;have Qq:=hid (JH.out.stays Gr.out y7);clear hO o5 y7))
      go_ret;refine⟨_,_,_,rfl,⟨_,Ad.out.gl.cast (by omega) rfl,?_⟩,jl.out⟩;rw[HR2.out,a0o];exact cB.append (cB.take (cB.imp (λv a h=>(h.below jl.out).mono (a0z K)) HT.out) _) (cB.append ⟨⟨_,_,_,_,_,_,_,rfl,Qq.out,HB2.out,HM.out.below jl.out⟩,trivial⟩ (cB.drop (cB.imp (λv a h=>(h.below jl.out).mono (a0z K)) HT.out) _))
    ·obtain rfl:sp=none:=HG.out.spot _ rfl (by omega);obtain⟨s,hs⟩:∃s,(c).sign=s:=⟨_,rfl⟩;have mO:=hid hs;clear hs;have x0:=p9.out.2.1.cell 0;have x1:=p9.out.2.1.cell 1;simp only[a0m,a0n]at x0 x1;go_wp2_with fail;refine(jN s (HZ2.out.zx HB2.out (by omega)) mO.out).mono ?_;rintro e w7 ⟨rfl,hB⟩;have fu:Hid (jb w.heap.size 87 3 w7 oo k cp (bS.take k)/\ bD w7 w.heap.size [.bool mz,a0d zo zn zc] 45/\ Below w.heap.size w w7):=⟨p9.out.1.below hB,p9.out.2.1.below hB,Below.steps p9.out.2.2 hB⟩;have Dc:=hid (HZ2.out.below hB);clear hB p9 HZ2 x0 x1;by_cases h0:c=0
     ·obtain rfl:s=0:=by rw[<-mO.out,h0];rfl
      have HR2:Hid (iG p c m=p.take k++p.drop k):=HR.out.trans (by rw[if_pos h0];rfl);clear h0 HR mO;go_wp2_with (at_builtin;go_must (refine dV w7 w rfl (.tmp 64) (.tmp 67) 39 rfl w.heap.size 87 3 56 i0 (.agg #[.bool false,a0d none 0 0,a0d none 0 0]) Tryz.underlying39 hi hz0 hz1 hz2 rfl (by omega) oo k cp (bS.take k) rfl fu.out.1 (some ⟨b,off+k*3,none⟩) _ _ (bS.drop k) rfl (((HG.out.xA k (by omega) hck).below fu.out.2.2).cast (by omega) (by omega)) fu.out.2.2 fu.out.2.2.size (by omega) (by omega) (by simp[a0f,bF]) (gF (λ_ _ h=>iw h) (cB.drop HT.out k)) ?_);intro o8 Qn w8 hO o5 _;have Ad:=hid hO;have jl:=hid o5;clear hO o5);go_ret;exact⟨_,_,_,rfl,⟨_,Ad.out.gl.cast (by omega) rfl,by rw[HR2.out];exact cB.append (cB.take (cB.imp (λv a h=>(h.below jl.out).mono (a0z K)) HT.out) _) (cB.drop (cB.imp (λv a h=>(h.below jl.out).mono (a0z K)) HT.out) _)⟩,jl.out⟩
     ·have hs0:(s==0)=false:=by rw[<-mO.out];simpa using h0
      have hs1:(s !=0)=true:=by rw[<-mO.out];simpa using h0
      have HR2:Hid (iG p c m=p.take k++([(c,m)]++p.drop k)):=HR.out.trans (by rw[if_neg h0]);have x0:=fu.out.2.1.cell 0;have x1:=fu.out.2.1.cell 1;simp only[a0m,a0n]at x0 x1;clear h0 HR mO
      go_wp2_with (first
       |(at_builtin;refine fB w7 w rfl (.tmp 58) (.tmp 62) 39 rfl w.heap.size 87 3 56 i0 (.agg #[.bool false,a0d none 0 0,a0d none 0 0]) Tryz.underlying39 hi hz0 hz1 hz2 rfl (by omega) oo k cp (bS.take k) rfl fu.out.1 [.bool mz,a0d zo zn zc,a0d mo mn mc] rfl (by simp[a0e]) (by simp[a0f,bF]) (by simp[bF]) _ rfl fu.out.2.2 fu.out.2.2.size (by omega) (by omega) ?_;intro o9 Qo w9 hO Ae Gq;have Gr:=hid hO;have oP:=hid Ae;have JH:=hid ((Dc.out.below (af w7 _)).stays (fu.out.1.below (af w7 _)) Gq);clear hO Ae Gq x0 x1)
       |(at_builtin;refine dV w9 w rfl (.tmp 64) (.tmp 67) 39 rfl w.heap.size 87 3 56 i0 (.agg #[.bool false,a0d none 0 0,a0d none 0 0]) Tryz.underlying39 hi hz0 hz1 hz2 rfl (by omega) o9 _ Qo (bS.take k++[[.bool mz,a0d zo zn zc,a0d mo mn mc]]) rfl Gr.out (some ⟨b,off+k*3,none⟩) _ _ (bS.drop k) rfl (((HG.out.xA k (by omega) hck).below oP.out).cast (by omega) (by omega)) oP.out oP.out.size (by omega) (by omega) (by simp[a0f,bF]) (gF (λ_ _ h=>iw h) (cB.drop HT.out k)) ?_;intro o8 Qn w8 hO o5 y7;have Ad:=hid hO;have jl:=hid o5;have Qq:=hid (JH.out.stays Gr.out y7);clear hO o5 y7))
      go_ret;refine⟨_,_,_,rfl,⟨_,Ad.out.gl.cast (by omega) rfl,?_⟩,jl.out⟩;rw[HR2.out,a0o];exact cB.append (cB.take (cB.imp (λv a h=>(h.below jl.out).mono (a0z K)) HT.out) _) (cB.append ⟨⟨_,_,_,_,_,_,_,rfl,Qq.out,HB2.out,HM.out.below jl.out⟩,trivial⟩ (cB.drop (cB.imp (λv a h=>(h.below jl.out).mono (a0z K)) HT.out) _))
open Lib (hid)
theorem yx (c:Int) (m:List (Int×Int)):∀p:List Term,(iG p c m).length<=p.length+1
 |[]=>by unfold iG;split<;>simp
 |t::r=>by
  have ih:=yx c m r;unfold iG;split
  ·simp;omega
  ·split
   ·split<;>simp<;>omega
   ·split<;>simp
theorem ru (p:List Term):∀q:List Term,(jk p q).length<=p.length+q.length:=by
 intro q;induction q generalizing p with
 |nil=>simp[jk]
 |cons t r ih=>
  have h:=ih (iG p t.1 t.2);have h2:=yx t.1 t.2 p;show(jk (iG p t.1 t.2) r).length<=_;simp only[a0q];omega
theorem Af [Ol] {K K':Nat} {w:World}:∀{X:List (List Value)} {p:List Term},cB (FV K' w) X p->(∀t∈p,Bd t.1 K)->cB (FV K w) X p
 |[],[],_,_=>trivial
 | _::_,_::_,h,hb=>by
  obtain⟨m,ao,n,cap,bo,k,cb,h1,h2,_,h4⟩:=h.1;exact⟨⟨m,ao,n,cap,bo,k,cb,h1,h2,hb _ (by simp),h4⟩,Af h.2 λt ht=>hb t (by simp[ht])⟩
 |[],_::_,h,_=>h.elim
 | _::_,[],h,_=>h.elim
theorem Pz.lower [Ol] {K K':Nat} {w:World} {ao:Option Addr} {n cap:Nat} {p:List Term} (h:Pz K' w ao n cap p) (hb:∀t∈p,Bd t.1 K):Pz K w ao n cap p:=by
 obtain⟨X,h1,h2⟩:=h.ex;exact⟨X,h1,Af h2 hb⟩
theorem Pz.next [Ol] {K K':Nat} {w:World} {ao:Option Addr} {n cap:Nat} {p:List Term} (h:Pz K' w ao n cap p) (hs:K'<=K∨ ∀t∈p,Bd t.1 K):Pz K w ao n cap p:=hs.elim h.mono h.lower
theorem Gs [Ol] {K:Nat} {bd:Nat->Nat} {ao bo:Option Addr} {n cap l cb:Nat} {p q:List Term} {w:World} (hp:Pz (bd 0) w ao n cap p) (hq:Pz K w bo l cb q) (hf:fall p) (hm:jJ q) (hn:n+l<=2000000) (hK:∀k,k<=l->K<=bd k/\ bd k<=9000) (hs:∀k,k<l->bd k+1<=bd (k+1)∨ ∀t∈jk p (q.take (k+1)),Bd t.1 (bd (k+1))):
  Calls Tryz.prog 34 #[a0d ao n cap,a0d bo l cb] w (uz (bd l) w (jk p q)):=by
 have vS:=hid hK;have XT:=hid hs;clear hK hs;obtain⟨bS,hG,hT⟩:=hq.ex;have hle:=hG.le;have hbig:=hG.big;have hpl:=hp.len;have Jg:=hq.len;have HP:=hid hp;have HG:=hid hG;have HT:=hid hT;have HF:=hid hf;have Ls:=hid hm;have uj:=hid hpl;have Jh:=hid Jg;clear hp hq hf hm hG hT hpl Jg;go_enter Tryz.func34,Tryz.ntmps34;go_wp2;go_loopw [5,6] (λo i wr=>∃(k n2 c2:Nat) (oo:Option Addr),i= .int .i64 k/\ o=a0d oo n2 c2/\ k<=l/\ Hid (Pz (bd k) wr oo n2 c2 (jk p (q.take k))/\ Below w.heap.size w wr)) (λ_ i _=>l-(intOf i).toNat)
 case atStart=>exact⟨0,n,cap,ao,rfl,rfl,a0x _,by simpa[jk]using HP.out,a0b _ _⟩
 case round=>
  clear HP;obtain⟨k,n2,c2,oo,rfl,rfl,hk,HS⟩:=hrel;by_cases hkl:k<l
  ·obtain⟨b,off,rfl,hb,hcl⟩:=HG.out.at (by omega);obtain⟨tm,ta,tn,tc,ba,bn,bc,hv,tz,tb,oF⟩:=cB.get (0,[]) HT.out k (by rw[Jh.out];exact hkl)
   have hcells:∀V:World,Below w.heap.size w V->V.cell? ⟨b,off+k*3,none⟩=some (.bool tm)/\ V.cell? ⟨b,off+k*3+1,none⟩=some (a0d ta tn tc)/\ V.cell? ⟨b,off+k*3+2,none⟩=some (a0d ba bn bc):=by
    intro V hV;have h0:=hcl V hV k hkl 0 (by omega);have h1:=hcl V hV k hkl 1 (by omega);have h2:=hcl V hV k hkl 2 (by omega);rw[hv]at h0 h1 h2;exact⟨h0,h1,h2⟩
   have mM:=hid hcells;have Lu:=hid tz;have Lv:=hid tb;have Pn:=hid oF;obtain⟨t,ht⟩:∃t,t=q.getD k (0,[]):=⟨_,rfl⟩;have hlq:k<q.length:=by rw[Jh.out];exact hkl
   have ht2:t=q[k]:=by rw[ht];simp[a0h,a0i hlq]
   have Qm:Hid (aZ 0 t.2=true):=Ls.out _ (by rw[ht2];exact a0j _)
   have HQ:Hid (jk p (q.take (k+1))=iG (jk p (q.take k)) t.1 t.2):=by
    rw[Hid,a0k hlq,nY,<-ht2];simp[jk]
   have ZK:Hid (fall (jk p (q.take k))):=(sU HF.out (λs hs=>Ls.out s (a0r hs))).1
   have HNL:Hid (n2<=2000000):=by
    have h1:=HS.out.1.len;have h2:=ru p (q.take k);rw[a0s,uj.out]at h2;rw[Hid];omega
   have HKK:Hid (K<=bd k/\ bd k<=9000):=vS.out k (by omega);have HSK:Hid (bd k+1<=bd (k+1)∨ ∀t∈jk p (q.take (k+1)),Bd t.1 (bd (k+1))):=XT.out k hkl;rw[<-ht]at Lu Lv Pn;clear hcl hv hcells tz tb oF ht ht2 hlq;go_upto_region 5 with(fail)
   refine wp_region_held_drew (S:=λw'=>w'.cell? ⟨b,off+k*3,none⟩=some (.bool tm)/\ w'.cell? ⟨b,off+k*3+1,none⟩=some (a0d ta tn tc)/\ w'.cell? ⟨b,off+k*3+2,none⟩=some (a0d ba bn bc)) (by kernel_rfl) (mM.out _ HS.out.2.drew) (λhH=>?_);refine ai (λw4 hW=>?_);have kT:Hid (Pz (bd k) w4 oo n2 c2 (jk p (q.take k))/\ Below w.heap.size w w4):=by rw[hW];exact⟨HS.out.1.below (a0b _ _).drew,HS.out.2.drew⟩
   rw[<-hW]at hH;clear hW HS;refine aQ 0 hH ?_;try simp only[ax]
   refine aQ 1 hH ?_;try simp only[ax]
   refine aQ 2 hH ?_;try simp only[ax]
   refine aQ 3 hH ?_;try simp only[ax]
   refine aQ 4 hH ?_;try simp only[ax]
   refine aQ 5 hH ?_;try simp only[ax]
   refine aQ 6 hH ?_;try simp only[ax]
   refine aQ 7 hH ?_;try simp only[ax]
   refine aQ 8 hH ?_;try simp only[ax]
   refine aQ 9 hH ?_;try simp only[ax]
   refine aQ 10 hH ?_;try simp only[ax]
   refine ah 11 rfl (by kernel_rfl) (λKK hK=>?_);go_simp;refine(zB kT.out.1 (Lu.out.below kT.out.2) (Lv.out.mono HKK.out.1) (Pn.out.below kT.out.2) ZK.out Qm.out HNL.out HKK.out.2).mono ?_;rintro e w5 ⟨o3,n3,c3,rfl,hX,hB⟩;have jB:Hid (Pz (bd (k+1)) w5 o3 n3 c3 (jk p (q.take (k+1)))/\ Below w.heap.size w w5):=⟨by have h:=HSK.out;rw[HQ.out]at h ⊢;exact hX.next h,Below.steps kT.out.2 hB⟩;clear kT hX hB HQ;go_wp2_with fail;clear hH;refine hK.out _ _ (mM.out _ jB.out.2) λhH=>?_;clear hK KK
   try simp only[ax]
   refine aQ 12 hH ?_;try simp only[ax]
   refine wpAnyH_done (by kernel_rfl) ?_ _
   go_wp2_with fail;go_roundw
   case rel=>exact⟨k+1,n3,c3,o3,by go_num,rfl,by omega,jB.out⟩
   case measure=>simp[intOf];omega
  ·obtain rfl:k=l:=by omega
   go_wp2_with fail;go_ret;refine⟨_,_,_,rfl,?_,HS.out.2⟩;have h:=HS.out.1;rw[a0t (by rw[Jh.out];exact a0y _)]at h;exact h
theorem Qd [Ol] {K:Nat} {ao bo:Option Addr} {n cap l cb:Nat} {p q:List Term} {w:World} (hp:Pz K w ao n cap p) (hq:Pz K w bo l cb q) (hf:fall p) (hm:jJ q) (hn:n+l<=100000) (hK:K+l<=9000):
  Calls Tryz.prog 34 #[a0d ao n cap,a0d bo l cb] w (uz (K+l) w (jk p q)):=
 Gs (bd:=λk=>K+k) hp hq hf hm (by omega) (λk hk=>⟨a0A _ _,by show K+k<=9000;omega⟩) λk _=> .inl (a0y _)
open Lib (hid)
theorem yA (t:Term) (q:List Term):(Cr t q).length=q.length:=by simp[Cr]
theorem yB (q:List Term):∀p:List Term,(mulL p q).length=p.length*q.length
 |[]=>by simp[mulL]
 |t::r=>by simp only[mulL,a0u,yA,yB q r,a0q,a0B];omega
theorem yC (q:List Term):∀a b:List Term,mulL (a++b) q=mulL a q++mulL b q
 |[],_=>rfl
 |t::a,b=>by simp[mulL,yC q a b]
def XU (p q:List Term):Bool:=p.all λt=>q.all λs=>aZ 0 (l6 t.2 s.2)
theorem Gt {p q:List Term}:XU p q=true↔rf p q:=by
 unfold XU rf;simp only[List.all_eq_true]
def zW (p q:List Term):List Term×Bool:=if XU p q=true then(iV p q,true)else([],false)
theorem Qr {p q:List Term} (h:rf p q):zW p q=(iV p q,true):=if_pos (Gt.2 h)
theorem Uv {p q:List Term} (h:¬rf p q):zW p q=([],false):=if_neg (λg=>h (Gt.1 g))
def WS [Ol] (K:Nat) (w:World) (p:List Term) (b:Bool) (e:Ending) (w':World):Prop:=∃ao n cap,e= .returned (.tuple #[a0d ao n cap,.bool b])/\ Pz K w' ao n cap p/\ Below w.heap.size w w'
def Df (p q:List Term) (t:Term) (k j:Nat):List Term:=Co (mulL (p.take k) q++Cr t (q.take j))
theorem Qs {p q:List Term} (t:Term) (k j:Nat) (hj:j<q.length):Df p q t k (j+1)=iG (Df p q t k j) (t.1*(q[j]).1) (l6 t.2 (q[j]).2):=by
 unfold Df Cr Co;rw[a0k hj,a0v,<-a0o,nY];simp[jk]
theorem Qt {p q:List Term} (t:Term) (k:Nat):Df p q t k 0=iV (p.take k) q:=by simp[Df,Cr,iV]
theorem Uw {p q:List Term} (k:Nat) (hk:k<p.length):Df p q p[k] k q.length=iV (p.take (k+1)) q:=by
 unfold Df iV;rw[a0k hk,yC,List.take_length];simp[mulL]
theorem Ux {p q:List Term} (t:Term) (k j:Nat) (hk:k<=p.length) (hj:j<=q.length):(Df p q t k j).length<=k*q.length+j:=by
 unfold Df Co;have h:=ru [] (mulL (p.take k) q++Cr t (q.take j));rw[a0u,yB,yA,a0s,a0s,a0C hk,a0C hj]at h;simpa using h
theorem Qu {p q:List Term} (t:Term) (k j:Nat) (h1:rf (p.take k) q) (h2:∀s∈q.take j,aZ 0 (l6 t.2 s.2)=true):fall (Df p q t k j):=by
 refine(oZ λs hs=>?_).1;rcases a0g.1 hs with hs|hs
 ·exact xB h1 s hs
 ·obtain⟨u,hu,rfl⟩:=List.mem_map.1 hs;exact h2 u hu
theorem Qv {p q:List Term} (k:Nat) (hk:k<p.length) (h1:rf (p.take k) q) (h2:∀s∈q,aZ 0 (l6 (p[k]).2 s.2)=true):rf (p.take (k+1)) q:=by
 intro t ht s hs;rw[a0k hk]at ht;rcases a0g.1 ht with ht|ht
 ·exact h1 t ht s hs
 ·rw[a0w]at ht;subst ht;exact h2 s hs
theorem XV {t:Term} {q:List Term} (j:Nat) (hj:j<q.length) (h:∀s∈q.take j,aZ 0 (l6 t.2 s.2)=true) (h2:aZ 0 (l6 t.2 (q[j]).2)=true):∀s∈q.take (j+1),aZ 0 (l6 t.2 s.2)=true:=by
 intro s hs;rw[a0k hj]at hs;rcases a0g.1 hs with hs|hs
 ·exact h s hs
 ·rw[a0w]at hs;subst hs;exact h2
theorem JI [Ol] {Kp Kq:Nat} {bd:Nat->Nat} {ao bo:Option Addr} {n cap l cb:Nat} {p q:List Term} {w:World} (hp:Pz Kp w ao n cap p) (hq:Pz Kq w bo l cb q) (hmp:jJ p) (XW:jJ q) (hL:n*l<=2000000) (hB:∀i,i<=n*l->Kp+Kq<=bd i/\ bd i<=9000)
  (hs:∀k j (hk:k<p.length),j<q.length->bd (k*l+j)+1<=bd (k*l+(j+1))∨ ∀t∈Df p q p[k] k (j+1),Bd t.1 (bd (k*l+(j+1)))):
  Calls Tryz.prog 93 #[a0d ao n cap,a0d bo l cb] w (WS (bd (n*l)) w (zW p q).1 (zW p q).2):=by
 obtain⟨A,hA⟩:∃A,A=n*l:=⟨_,rfl⟩;rw[<-hA]at hB hL;rw[<-hA];have vS:=hid hB;have XT:=hid hs;clear hB hs;obtain⟨bS,hG,hT⟩:=hp.ex;obtain⟨uss,hG2,hT2⟩:=hq.ex;have hbig:=hG.big;have hbig2:=hG2.big;have xw:=hid hp.len;have TY:=hid hq.len;have Ut:=hid hG;have TV:=hid hT;have HGQ:=hid hG2;have HTQ:=hid hT2;have Qk:=hid hmp;have HMQ:=hid XW;have HA:=hid hA;obtain⟨R,hR⟩:∃R,R=zW p q:=⟨_,rfl⟩;rw[<-hR];have HR:=hid hR;clear hp hq hmp XW hG hT hG2 hT2 hR hA;go_enter Tryz.func93,Tryz.ntmps93;go_wp2;go_loopw [6,7,8,9,10] (λo i _ _ _ wr=>∃(k n2 c2:Nat) (oo:Option Addr),i= .int .i64 k/\ o=a0d oo n2 c2/\ k<=n/\ Hid (rf (p.take k) q)/\ Hid (Pz (bd (k*l)) wr oo n2 c2 (iV (p.take k) q)/\ Below w.heap.size w wr)) (λ_ i _ _ _ _=>n-(intOf i).toNat)
 case atStart=>exact⟨0,0,0,none,rfl,rfl,a0x _,λ_ h=>by simp at h,Pz.zero _ _,a0b _ _⟩
 case round=>
  obtain⟨k,n2,c2,oo,rfl,rfl,hk,HFT,HS⟩:=hrel;by_cases hkn:k<n
  ·obtain⟨N,hN⟩:∃N,N=k*l:=⟨_,rfl⟩
   have hNA:N+l<=A:=by
    rw[hN,HA.out];have h:=Nat.mul_le_mul_right l (show k+1<=n from hkn);rwa[a0B,a0D]at h
   obtain⟨b,off,rfl,_,hcl⟩:=Ut.out.at (by omega);obtain⟨xm,xa,xn,xc,xp,xq,xr,hv,tz,tb,oF⟩:=cB.get (0,[]) TV.out k (by rw[xw.out];assumption)
   have hcells:∀V:World,Below w.heap.size w V->(V.cell? ⟨b,off+k*3,none⟩=some (.bool xm)/\ V.cell? ⟨b,off+k*3+1,none⟩=some (a0d xa xn xc)/\ V.cell? ⟨b,off+k*3+2,none⟩=some (a0d xp xq xr)):=by
    intro V hV;have h0:=hcl V hV k (by assumption) 0 (by omega);have h1:=hcl V hV k (by assumption) 1 (by omega);have h2:=hcl V hV k (by assumption) 2 (by omega);rw[hv]at h0 h1 h2;exact⟨h0,h1,h2⟩
   have vR:=hid hcells;clear hcl hv hcells;have vG:k<p.length:=by rw[xw.out];assumption
   have Gn:p.getD k (0,[])=p[k]:=by simp[a0h,a0i vG]
   rw[Gn]at tz tb oF;have HZP:=hid tz;have T9:=hid tb;have ai1:=hid oF;clear tz tb oF Gn;have HN:=hid hN;have Ci:Hid (Pz (bd (N+0)) wr oo n2 c2 (Df p q p[k] k 0)/\ Below w.heap.size w wr):=by rw[Qt,hN];exact HS.out
   clear HS hN;go_wp2;go_loopw [6,8,9,10] (λo i _ _ wi=>∃(j n3 c3:Nat) (o3:Option Addr),i= .int .i64 j/\ o=a0d o3 n3 c3/\ j<=l/\ Hid (∀s∈q.take j,aZ 0 (l6 (p[k]).2 s.2)=true)/\ Hid (Pz (bd (N+j)) wi o3 n3 c3 (Df p q p[k] k j)/\ Below w.heap.size w wi)) (λ_ i _ _ _=>l-(intOf i).toNat)
   case atStart=>exact⟨0,n2,c2,oo,rfl,rfl,a0x _,λ_ h=>by simp at h,Ci.out⟩
   case round=>
    clear Ci;obtain⟨j,n3,c3,o3,rfl,rfl,hj,HFI,HS⟩:=hrel;by_cases hjl:j<l
    ·obtain⟨d,Ji,rfl,_,hcl⟩:=HGQ.out.at (by omega);obtain⟨ym,ya,yn,yc,yp,yq,yr,hv,tz,tb,oF⟩:=cB.get (0,[]) HTQ.out j (by rw[TY.out];assumption)
     have hcells:∀V:World,Below w.heap.size w V->(V.cell? ⟨d,Ji+j*3,none⟩=some (.bool ym)/\ V.cell? ⟨d,Ji+j*3+1,none⟩=some (a0d ya yn yc)/\ V.cell? ⟨d,Ji+j*3+2,none⟩=some (a0d yp yq yr)):=by
      intro V hV;have h0:=hcl V hV j (by assumption) 0 (by omega);have h1:=hcl V hV j (by assumption) 1 (by omega);have h2:=hcl V hV j (by assumption) 2 (by omega);rw[hv]at h0 h1 h2;exact⟨h0,h1,h2⟩
     have MV:=hid hcells;clear hcl hv hcells;have Po:j<q.length:=by rw[TY.out];assumption
     have Ua:q.getD j (0,[])=q[j]:=by simp[a0h,a0i Po]
     rw[Ua]at tz tb oF;have HZQ:=hid tz;have HBQ:=hid tb;have ai2:=hid oF;clear tz tb oF Ua;have HMX:Hid (aZ 0 (p[k]).2=true):=Qk.out _ (a0j _);have Qm:Hid (aZ 0 (q[j]).2=true):=HMQ.out _ (a0j _);have ZK:Hid (fall (Df p q p[k] k j)):=Qu _ k j HFT.out HFI.out
     have HNL:Hid (n3<=2000000):=by
      have h1:=HS.out.1.len;have h2:=Ux (p:=p) (q:=q) p[k] k j (by omega) (by omega);rw[TY.out,<-HN.out]at h2;rw[Hid];omega
     have HKK:Hid (Kp+Kq<=bd (N+j)/\ bd (N+j)<=9000):=vS.out _ (by omega);have HSK:Hid (bd (N+j)+1<=bd (N+(j+1))∨ ∀t∈Df p q p[k] k (j+1),Bd t.1 (bd (N+(j+1)))):=by have h:=XT.out k j vG Po;rwa[<-HN.out]at h
     go_upto_region 8 with(fail)
     refine wp_region_held_drew (S:=λw'=>(w'.cell? ⟨b,off+k*3,none⟩=some (.bool xm)/\ w'.cell? ⟨b,off+k*3+1,none⟩=some (a0d xa xn xc)/\ w'.cell? ⟨b,off+k*3+2,none⟩=some (a0d xp xq xr))/\ (w'.cell? ⟨d,Ji+j*3,none⟩=some (.bool ym)/\ w'.cell? ⟨d,Ji+j*3+1,none⟩=some (a0d ya yn yc)/\ w'.cell? ⟨d,Ji+j*3+2,none⟩=some (a0d yp yq yr))) (by kernel_rfl) ⟨vR.out _ (HS.out.2).drew,MV.out _ (HS.out.2).drew⟩ (λhH=>?_);refine ai (λw4 hW=>?_);have kT:Hid (Pz (bd (N+j)) w4 o3 n3 c3 (Df p q p[k] k j)/\ Below w.heap.size w w4):=by rw[hW];exact⟨HS.out.1.below (a0b _ _).drew,HS.out.2.drew⟩
     clear HS;rw[<-hW]at hH;clear hW;refine aQ 0 hH ?_;try simp only[ax]
     refine aQ 1 hH ?_;try simp only[ax]
     refine aQ 2 hH ?_;try simp only[ax]
     refine aQ 3 hH ?_;try simp only[ax]
     refine aQ 4 hH ?_;try simp only[ax]
     refine aQ 5 hH ?_;try simp only[ax]
     refine aQ 6 hH ?_;try simp only[ax]
     refine aQ 7 hH ?_;try simp only[ax]
     refine aQ 8 hH ?_;try simp only[ax]
     refine aQ 9 hH ?_;try simp only[ax]
     refine ah 10 rfl (by kernel_rfl) (λKK hK=>?_);go_simp;have ZL:=JJ (ai1.out.below kT.out.2) (ai2.out.below kT.out.2);by_cases hfit:aZ 0 (l6 (p[k]).2 (q[j]).2)=true
     ·rw[show kU (λx y=>x+y) 8 (p[k]).2 (q[j]).2=(l6 (p[k]).2 (q[j]).2,0)from by unfold kU;rw[if_pos ⟨HMX.out,Qm.out⟩];exact if_pos hfit]at ZL;refine ZL.mono ?_;rintro e w5 ⟨mo,mn,mc,rfl,hX,hB⟩;clear ZL;have jB:Hid (Pz (bd (N+j)) w5 o3 n3 c3 (Df p q p[k] k j)/\ Below w.heap.size w w5):=⟨kT.out.1.below hB,Below.steps kT.out.2 hB⟩;have CX:=hid hX;have HFJ:Hid (∀s∈q.take (j+1),aZ 0 (l6 (p[k]).2 s.2)=true):=XV j Po HFI.out hfit;have ac7:=hid hfit;clear hX hB kT HFI hfit;go_wp2_with fail;clear hH;refine hK.out _ _ ⟨vR.out _ jB.out.2,MV.out _ jB.out.2⟩ λhH=>?_;clear hK KK
      try simp only[ax]
      refine aQ 11 hH ?_;try simp only[ax]
      refine aQ 12 hH ?_;try simp only[ax]
      refine aQ 13 hH ?_;try simp only[ax]
      refine aQ 14 hH ?_;try simp only[ax]
      refine aQ 15 hH ?_;try simp only[ax]
      refine wpAnyH_done (by kernel_rfl) ?_ _
      go_upto_region 11 with(fail)
      refine wp_region_held_drew (S:=λw'=>(w'.cell? ⟨b,off+k*3,none⟩=some (.bool xm)/\ w'.cell? ⟨b,off+k*3+1,none⟩=some (a0d xa xn xc)/\ w'.cell? ⟨b,off+k*3+2,none⟩=some (a0d xp xq xr))/\ (w'.cell? ⟨d,Ji+j*3,none⟩=some (.bool ym)/\ w'.cell? ⟨d,Ji+j*3+1,none⟩=some (a0d ya yn yc)/\ w'.cell? ⟨d,Ji+j*3+2,none⟩=some (a0d yp yq yr))) (by kernel_rfl) ⟨vR.out _ (jB.out.2).drew,MV.out _ (jB.out.2).drew⟩ (λhH=>?_);refine ai (λw4 hW=>?_);have nZ:Hid (Pz (bd (N+j)) w4 o3 n3 c3 (Df p q p[k] k j)/\ Below w.heap.size w w4):=by rw[hW];exact⟨jB.out.1.below (a0b _ _).drew,jB.out.2.drew⟩
      have ac8:Hid (Ml w4 mo mn mc (l6 (p[k]).2 (q[j]).2)):=by rw[hW];exact CX.out.below (a0b _ _).drew
      clear jB CX;rw[<-hW]at hH;clear hW;refine aQ 0 hH ?_;try simp only[ax]
      refine aQ 1 hH ?_;try simp only[ax]
      refine aQ 2 hH ?_;try simp only[ax]
      refine aQ 3 hH ?_;try simp only[ax]
      refine aQ 4 hH ?_;try simp only[ax]
      refine aQ 5 hH ?_;try simp only[ax]
      refine aQ 6 hH ?_;try simp only[ax]
      refine aQ 7 hH ?_;try simp only[ax]
      refine aQ 8 hH ?_;try simp only[ax]
      refine aQ 9 hH ?_;try simp only[ax]
      refine aQ 10 hH ?_;try simp only[ax]
      refine aQ 12 hH ?_;try simp only[ax]
      refine ah 11 rfl (by kernel_rfl) (λKK hK=>?_);go_simp;refine(o7 ((HZP.out.below nZ.out.2).zx T9.out (by have:=HKK.out;omega)) ((HZQ.out.below nZ.out.2).zx HBQ.out (by have:=HKK.out;omega))).mono ?_;rintro e w6 ⟨rm,ra,rn,rc,rfl,hX,hB⟩;have fu:Hid (Pz (bd (N+j)) w6 o3 n3 c3 (Df p q p[k] k j)/\ Below w.heap.size w w6):=⟨nZ.out.1.below hB,Below.steps nZ.out.2 hB⟩;have ac9:=hid (ac8.out.below hB);have Dc:=hid hX;have Ag:Hid (Bd ((p[k]).1*(q[j]).1) (bd (N+j))):=(T9.out.mul HBQ.out).mono HKK.out.1;clear nZ ac8 hX hB;go_wp2_with fail;clear hH;refine hK.out _ _ ⟨vR.out _ fu.out.2,MV.out _ fu.out.2⟩ λhH=>?_;clear hK KK
      try simp only[ax]
      refine ah 13 rfl (by kernel_rfl) (λKK hK=>?_);go_simp;refine(zB fu.out.1 Dc.out Ag.out ac9.out ZK.out ac7.out HNL.out HKK.out.2).mono ?_;rintro e w8 ⟨o8,n8,c8,rfl,hX,hB⟩;have JK:Hid (Pz (bd (N+(j+1))) w8 o8 n8 c8 (Df p q p[k] k (j+1))/\ Below w.heap.size w w8):=⟨by have h:=HSK.out;rw[Qs _ k j Po]at h ⊢;exact hX.next h,Below.steps fu.out.2 hB⟩;clear fu ac9 Dc Ag hX hB ZK ac7;go_wp2_with fail;clear hH;refine hK.out _ _ ⟨vR.out _ JK.out.2,MV.out _ JK.out.2⟩ λhH=>?_;clear hK KK
      try simp only[ax]
      refine aQ 14 hH ?_;try simp only[ax]
      refine wpAnyH_done (by kernel_rfl) ?_ _
      go_wp2_with fail;go_roundw
      case rel=>exact⟨j+1,n8,c8,o8,by go_num,rfl,by omega,HFJ,JK.out⟩
      case measure=>simp[intOf];omega
     ·have HR2:Hid (R=([],false)):=HR.out.trans (Uv λh=>hfit (h _ (a0j _) _ (a0j _)));rw[show kU (λx y=>x+y) 8 (p[k]).2 (q[j]).2=([],8)from by unfold kU;rw[if_pos ⟨HMX.out,Qm.out⟩];exact if_neg hfit]at ZL;refine ZL.mono ?_;rintro e w5 ⟨mo,mn,mc,rfl,hX,hB⟩;clear ZL hfit;have og:Hid (Below w.heap.size w w5):=Below.steps kT.out.2 hB;clear hX hB kT;go_wp2_with fail;clear hH;refine hK.out _ _ ⟨vR.out _ og.out,MV.out _ og.out⟩ λhH=>?_;clear hK KK
      try simp only[ax]
      refine aQ 11 hH ?_;try simp only[ax]
      refine aQ 12 hH ?_;try simp only[ax]
      refine aQ 13 hH ?_;try simp only[ax]
      refine aQ 14 hH ?_;try simp only[ax]
      refine aQ 15 hH ?_;try simp only[ax]
      refine wpAnyH_done (by kernel_rfl) ?_ _
      go_wp2_with fail;refine bodyPost_ret (v:= .tuple #[a0d none 0 0,.bool false]) (by simp[results,Tryz.results93,go_sem]) rfl ?_;exact⟨none,0,0,by rw[HR2.out],by rw[HR2.out];exact Pz.zero _ _,og.out⟩
    ·obtain rfl:j=l:=by omega
     have HFN:Hid (rf (p.take (k+1)) q):=Qv k vG HFT.out (by have h:=HFI.out;rwa[a0t (by rw[TY.out];exact a0y _)]at h)
     have HS2:Hid (Pz (bd ((k+1)*j)) wr o3 n3 c3 (iV (p.take (k+1)) q)/\ Below w.heap.size w wr):=by
      rw[<-Uw k vG,TY.out,a0B,a0D,<-HN.out];exact HS.out
     clear HS HFI HFT;go_wp2_with fail;go_roundw
     case rel=>exact⟨k+1,n3,c3,o3,by go_num,rfl,by omega,HFN,HS2⟩
     case measure=>simp[intOf];omega
  ·obtain rfl:k=n:=by omega
   have HFN:Hid (rf p q):=by have h:=HFT.out;rwa[a0t (by rw[xw.out];exact a0y _)]at h
   have HR2:Hid (R=(iV p q,true)):=HR.out.trans (Qr HFN.out);have HS2:Hid (Pz (bd A) wr oo n2 c2 (iV p q)/\ Below w.heap.size w wr):=by have h:=HS.out;rwa[a0t (by rw[xw.out];exact a0y _),<-HA.out]at h
   clear HS HFT;go_wp2_with fail;refine bodyPost_ret (v:= .tuple #[a0d oo n2 c2,.bool true]) (by simp[results,Tryz.results93,go_sem]) rfl ?_;exact⟨_,_,_,by rw[HR2.out],by rw[HR2.out];exact HS2.out.1,HS2.out.2⟩
theorem JL [Ol] {Kp Kq:Nat} {ao bo:Option Addr} {n cap l cb:Nat} {p q:List Term} {w:World} (hp:Pz Kp w ao n cap p) (hq:Pz Kq w bo l cb q) (hmp:jJ p) (XW:jJ q) (hK:Kp+Kq+n*l<=9000):
  Calls Tryz.prog 93 #[a0d ao n cap,a0d bo l cb] w (WS (Kp+Kq+n*l) w (zW p q).1 (zW p q).2):=
 JI (bd:=λi=>Kp+Kq+i) hp hq hmp XW (by omega) (λi hi=>⟨a0A _ _,by show Kp+Kq+i<=9000;omega⟩) λk j _ _=> .inl (a0y _)
open Lib (hid)
theorem Qw [Ol] {K:Nat} {bo:Option Addr} {l cb:Nat} {q:List Term} {w:World} (hq:Pz K w bo l cb q) (hn:l<=2000000) (hK:K<=9000):
  Calls Tryz.prog 92 #[a0d bo l cb] w (uz K w (pq q)):=by
 obtain⟨i0,hi,hz0,hz1,hz2⟩:=info_parts Tryz.Ql;obtain⟨bS,hG,hT⟩:=hq.ex;have hle:=hG.le;have hbig:=hG.big;have Jg:=hq.len;have HG:=hid hG;have HT:=hid hT;have Jh:=hid Jg;clear hq hG hT Jg;go_enter Tryz.func92,Tryz.ntmps92;go_wp2;go_loopw [3,4] (λo i wr=>∃(k c2:Nat) (oo:Option Addr) (zs:List (List Value)),i= .int .i64 k/\ o=a0d oo k c2/\ k<=l/\ Hid (jb w.heap.size 87 3 wr oo k c2 zs/\ cB (FV K wr) zs (pq (q.take k))/\ Below w.heap.size w wr)) (λ_ i _=>l-(intOf i).toNat)
 case atStart=>exact⟨0,0,none,[],rfl,rfl,a0x _,jb.nil _ _ _ _,trivial,a0b _ _⟩
 case round=>
  obtain⟨k,c2,oo,zs,rfl,rfl,hk,HS⟩:=hrel;by_cases hkl:k<l
  ·obtain⟨b,off,rfl,hb,hcl⟩:=HG.out.at (by omega);obtain⟨tm,ta,tn,tc,ba,bn,bc,hv,tz,tb,oF⟩:=cB.get (0,[]) HT.out k (by rw[Jh.out];exact hkl)
   have hcells:∀V:World,Below w.heap.size w V->V.cell? ⟨b,off+k*3,none⟩=some (.bool tm)/\ V.cell? ⟨b,off+k*3+1,none⟩=some (a0d ta tn tc)/\ V.cell? ⟨b,off+k*3+2,none⟩=some (a0d ba bn bc):=by
    intro V hV;have h0:=hcl V hV k hkl 0 (by omega);have h1:=hcl V hV k hkl 1 (by omega);have h2:=hcl V hV k hkl 2 (by omega);rw[hv]at h0 h1 h2;exact⟨h0,h1,h2⟩
   have mM:=hid hcells;have Lu:=hid tz;have Lv:=hid tb;have Pn:=hid oF;obtain⟨t,ht⟩:∃t,t=q.getD k (0,[]):=⟨_,rfl⟩;have hlq:k<q.length:=by rw[Jh.out];exact hkl
   have ht2:t=q[k]:=by rw[ht];simp[a0h,a0i hlq]
   have HQ:Hid (pq (q.take (k+1))=pq (q.take k)++[(-t.1,t.2)]):=by
    unfold pq;rw[Hid,a0k hlq,a0v,<-ht2];rfl
   rw[<-ht]at Lu Pn Lv;clear hcl hv hcells tz tb oF ht ht2 hlq;go_upto_region 5 with(fail)
   refine wp_region_held_drew (S:=λw'=>w'.cell? ⟨b,off+k*3,none⟩=some (.bool tm)/\ w'.cell? ⟨b,off+k*3+1,none⟩=some (a0d ta tn tc)/\ w'.cell? ⟨b,off+k*3+2,none⟩=some (a0d ba bn bc)) (by kernel_rfl) (mM.out _ HS.out.2.2.drew) (λhH=>?_);refine ai (λw4 hW=>?_);have kT:Hid (jb w.heap.size 87 3 w4 oo k c2 zs/\ cB (FV K w4) zs (pq (q.take k))/\ Below w.heap.size w w4):=by rw[hW];exact⟨HS.out.1.below (a0b _ _).drew,HS.out.2.1.imp (λ_ _ h=>h.below (a0b _ _).drew),HS.out.2.2.drew⟩
   rw[<-hW]at hH;clear hW HS;refine aQ 0 hH ?_;try simp only[ax]
   refine aQ 1 hH ?_;try simp only[ax]
   refine aQ 2 hH ?_;try simp only[ax]
   refine aQ 3 hH ?_;try simp only[ax]
   refine aQ 4 hH ?_;try simp only[ax]
   refine aQ 5 hH ?_;try simp only[ax]
   refine aQ 7 hH ?_;try simp only[ax]
   refine aQ 8 hH ?_;try simp only[ax]
   refine aQ 9 hH ?_;try simp only[ax]
   refine aQ 10 hH ?_;try simp only[ax]
   refine aQ 11 hH ?_;try simp only[ax]
   refine ah 6 rfl (by kernel_rfl) (λKK hK=>?_);go_simp;refine(mW ((Lu.out.below kT.out.2.2).zx Lv.out (by omega))).mono ?_;rintro e w5 ⟨rm,ra,rn,rc,rfl,hX,hB⟩;have jB:Hid (jb w.heap.size 87 3 w5 oo k c2 zs/\ cB (FV K w5) zs (pq (q.take k))/\ Below w.heap.size w w5):=⟨kT.out.1.below hB,kT.out.2.1.imp (λ_ _ h=>h.below hB),Below.steps kT.out.2.2 hB⟩;have MU:Hid (FV K w5 [.bool rm,a0d ra rn rc,a0d ba bn bc] (-t.1,t.2)):=⟨_,_,_,_,_,_,_,rfl,hX,Lv.out.neg,Pn.out.below jB.out.2.2⟩;clear kT hX hB Lu Lv Pn;go_wp2_with fail;clear hH;refine hK.out _ _ (mM.out _ jB.out.2.2) λhH=>?_;clear hK KK
   try simp only[ax]
   refine aQ 12 hH ?_;try simp only[ax]
   refine ah 13 rfl (by kernel_rfl) (λKK hK=>?_);go_simp;clear hH;refine hK.out _ _ (mM.out _ (jB.out.2.2.trans (a0c (af w5 _) jB.out.2.2.size))) λhH=>?_;clear hK KK
   try simp only[ax]
   refine ah 14 rfl (by kernel_rfl) (λKK hK=>?_);refine vT _ w (.tmp 11) (.tmp 24) 39 rfl w.heap.size 87 3 56 i0 (.agg #[.bool false,a0d none 0 0,a0d none 0 0]) Tryz.underlying39 hi hz0 hz1 hz2 rfl (by omega) oo k c2 zs rfl (jB.out.1.below (af w5 _)) _ 1 1 [[.bool rm,a0d ra rn rc,a0d ba bn bc]] rfl (Gl.lit 3 w5 _ _ rfl (by simp[a0e])) (jB.out.2.2.alloc jB.out.2.2.size _) (by have:=jB.out.2.2.size;simp;omega) (by omega) (by omega) (by simp[a0f,bF]) (by simp[bF]) ?_;intro o6 c6 w6 hO ZM hG6;have nZ:Hid (jb w.heap.size 87 3 w6 o6 (k+1) c6 (zs++[[.bool rm,a0d ra rn rc,a0d ba bn bc]])/\ cB (FV K w6) (zs++[[.bool rm,a0d ra rn rc,a0d ba bn bc]]) (pq (q.take (k+1)))/\ Below w.heap.size w w6):=⟨hO,by rw[HQ.out];exact cB.append (jB.out.2.1.imp (λ_ _ h=>(h.below (af w5 _)).stays (jB.out.1.below (af w5 _)) hG6)) ⟨(MU.out.below (af w5 _)).stays (jB.out.1.below (af w5 _)) hG6,trivial⟩,ZM⟩;clear jB hO ZM hG6 MU HQ;clear hH;refine hK.out _ _ (mM.out _ nZ.out.2.2) λhH=>?_;clear hK KK
   try simp only[ax]
   refine aQ 15 hH ?_;try simp only[ax]
   refine wpAnyH_done (by kernel_rfl) ?_ _
   go_wp2_with fail;go_roundw
   case rel=>exact⟨k+1,c6,o6,_,by go_num,rfl,by omega,nZ.out⟩
   case measure=>simp[intOf];omega
  ·obtain rfl:k=l:=by omega
   go_wp2_with fail;go_ret;refine⟨_,_,_,rfl,⟨_,HS.out.1.gl,?_⟩,HS.out.2.2⟩;have h:=HS.out.2.1;rw[a0t (by rw[Jh.out];exact a0y _)]at h;exact h
open Lib (hid)
def Es (n:Int):List Term:=iG [] n []
theorem yu (n:Int):fall (Es n):=(sV n (p:=[]) trivial rfl).1
theorem Gm {n:Int} (h: -9223372036854775808<=n/\ n<=9223372036854775807):Bd n 2:=by
 unfold Bd;have:(2:Nat)^(32*2)=18446744073709551616:=by decide
 omega
theorem Qy [Ol] {K:Nat} {bd:Nat->Nat} {ao bo:Option Addr} {n cap l cb:Nat} {p q:List Term} {w:World} (hp:Pz (bd 0) w ao n cap p) (hq:Pz K w bo l cb q) (hf:fall p) (hm:jJ q) (hn:n+l<=2000000) (hK:∀k,k<=l->K<=bd k/\ bd k<=9000) (hs:∀k,k<l->bd k+1<=bd (k+1)∨ ∀t∈jk p ((pq q).take (k+1)),Bd t.1 (bd (k+1))):
  Calls Tryz.prog 35 #[a0d ao n cap,a0d bo l cb] w (uz (bd l) w (XG p q)):=by
 have HP:=hid hp;have vS:=hid hK;have XT:=hid hs;clear hK hs;have HQ:=hid hq;have HF:=hid hf;have HM:=hid (Qz hm);have hl:=hq.len;have HL:Hid ((pq q).length=l):=by rw[Hid,<-hl];simp[pq]
 clear hp hq hf hm hl;go_enter Tryz.func35,Tryz.ntmps35;go_wp2_with fail;refine(Qw HQ.out (by omega) (by have:=vS.out 0 (a0x _);omega)).mono ?_;rintro e w1 ⟨qo,qn,qc,rfl,hX,hB⟩;have hl:=hX.len;obtain rfl:qn=l:=by rw[<-hl,HL.out]
 have HP1:=hid (HP.out.below hB);have HQ1:=hid hX;have HB1:=hid hB;clear HP HQ hX hB hl;go_wp2_with fail;refine(Gs HP1.out HQ1.out HF.out HM.out hn vS.out XT.out).mono ?_;rintro e w2 ⟨ro,rn,rc,rfl,hX,hB⟩;have HR:=hid hX;have HB2:=hid (Below.steps HB1.out hB);clear hX hB HB1;go_wp2_with fail;go_ret;exact⟨_,_,_,rfl,HR.out,HB2.out⟩
theorem Qc [Ol] {K:Nat} {ao bo:Option Addr} {n cap l cb:Nat} {p q:List Term} {w:World} (hp:Pz K w ao n cap p) (hq:Pz K w bo l cb q) (hf:fall p) (hm:jJ q) (hn:n+l<=100000) (hK:K+l<=9000):
  Calls Tryz.prog 35 #[a0d ao n cap,a0d bo l cb] w (uz (K+l) w (XG p q)):=
 Qy (bd:=λk=>K+k) hp hq hf hm (by omega) (λk hk=>⟨a0A _ _,by show K+k<=9000;omega⟩) λk _=> .inl (a0y _)
theorem zY [Ol] {Kp Kq:Nat} {ao bo:Option Addr} {n cap l cb:Nat} {p q:List Term} {w:World} (hp:Pz Kp w ao n cap p) (hq:Pz Kq w bo l cb q) (hmp:jJ p) (XW:jJ q) (hK:Kp+Kq+n*l<=9000):
  Calls Tryz.prog 36 #[a0d ao n cap,a0d bo l cb] w (uz (Kp+Kq+n*l) w (zW p q).1):=by
 have ht:=JL hp hq hmp XW hK;have HT:=hid ht;clear hp hq hmp XW ht hK;go_enter Tryz.func36,Tryz.ntmps36;go_wp2_with fail;refine HT.out.mono ?_;rintro e w1 ⟨ro,rn,rc,rfl,hX,hB⟩;have HR:=hid hX;have HB:=hid hB;clear hX hB HT;go_wp2_with fail;go_ret;exact⟨_,_,_,rfl,HR.out,HB.out⟩
theorem zZ [Ol] (n:Int) (w:World) (h: -9223372036854775808<=n/\ n<=9223372036854775807):
  Calls Tryz.prog 37 #[.int .i64 n] w (uz 3 w (Es n)):=by
 have HN:=hid h;clear h;go_enter Tryz.func37,Tryz.ntmps37;go_wp2_with fail;refine(jX n w HN.out).mono ?_;rintro e w1 ⟨m,ao,k,cap,rfl,hX,hB⟩;have HX:=hid hX;have HB:=hid hB;clear hX hB;go_wp2_with fail;refine(zB (K:=2) (p:=[]) (Pz.zero _ _) HX.out (Gm HN.out) (Ml.zero _) trivial rfl (by omega) (by omega)).mono ?_;rintro e w2 ⟨ro,rn,rc,rfl,hX,hB⟩;have HR:=hid hX;have HB2:=hid (Below.steps HB.out hB);clear hX hB HB;go_wp2_with fail;go_ret;exact⟨_,_,_,rfl,HR.out,HB2.out⟩
open Lib (hid)
def TmI [Ol] (K:Nat) (w:World) (vs:List Value) (t:Term):Prop:=
 ∃m ao n cap bo k cb,vs=[.bool m,a0d ao n cap,a0d bo k cb]/\ In w m ao n cap t.1/\ n<=K/\ Ml w bo k cb t.2
theorem TmI.below [Ol] {K:Nat} {w w':World} {vs:List Value} {t:Term} (h:TmI K w vs t) (hb:Below w.heap.size w w'):TmI K w' vs t:=by
 obtain⟨m,ao,n,cap,bo,k,cb,h1,h2,h3,h4⟩:=h;exact⟨m,ao,n,cap,bo,k,cb,h1,h2.below hb,h3,h4.below hb⟩
structure Pi [Ol] (K:Nat) (w:World) (ao:Option Addr) (n cap:Nat) (p:List Term):Prop where
 ex:∃bS,Gl 3 w ao n cap bS/\ cB (TmI K w) bS p
theorem Pi.len [Ol] {K:Nat} {w:World} {ao:Option Addr} {n cap:Nat} {p:List Term} (h:Pi K w ao n cap p):p.length=n:=by
 obtain⟨bS,h1,h2⟩:=h.ex;rw[<-h2.len,h1.len]
theorem Pi.below [Ol] {K:Nat} {w w':World} {ao:Option Addr} {n cap:Nat} {p:List Term} (h:Pi K w ao n cap p) (hb:Below w.heap.size w w'):Pi K w' ao n cap p:=by
 obtain⟨bS,h1,h2⟩:=h.ex;exact⟨bS,h1.below hb,h2.imp λv a h=>h.below hb⟩
theorem K9 [Ol] {K:Nat} {bo:Option Addr} {l cb:Nat} {q:List Term} {w:World} (hq:Pi K w bo l cb q) (hm:jJ q) (hn:l<=100000) (hK:K+l<=9000):
  Calls Tryz.prog 13 #[a0d bo l cb] w (uz (K+l) w (Co q)):=by
 obtain⟨bS,hG,hT⟩:=hq.ex;have hle:=hG.le;have hbig:=hG.big;have Jg:=hq.len;have HG:=hid hG;have HT:=hid hT;have Ls:=hid hm;have Jh:=hid Jg;clear hq hm hG hT Jg;go_enter Tryz.func13,Tryz.ntmps13;go_wp2;go_loopw [3,4] (λo i wr=>∃(k n2 c2:Nat) (oo:Option Addr),i= .int .i64 k/\ o=a0d oo n2 c2/\ k<=l/\ Hid (Pz (K+k) wr oo n2 c2 (Co (q.take k))/\ Below w.heap.size w wr)) (λ_ i _=>l-(intOf i).toNat)
 case atStart=>exact⟨0,0,0,none,rfl,rfl,a0x _,Pz.zero _ _,a0b _ _⟩
 case round=>
  obtain⟨k,n2,c2,oo,rfl,rfl,hk,HS⟩:=hrel;by_cases hkl:k<l
  ·obtain⟨b,off,rfl,hb,hcl⟩:=HG.out.at (by omega);obtain⟨tm,ta,tn,tc,ba,bn,bc,hv,tz,tb,oF⟩:=cB.get (0,[]) HT.out k (by rw[Jh.out];exact hkl)
   have hcells:∀V:World,Below w.heap.size w V->V.cell? ⟨b,off+k*3,none⟩=some (.bool tm)/\ V.cell? ⟨b,off+k*3+1,none⟩=some (a0d ta tn tc)/\ V.cell? ⟨b,off+k*3+2,none⟩=some (a0d ba bn bc):=by
    intro V hV;have h0:=hcl V hV k hkl 0 (by omega);have h1:=hcl V hV k hkl 1 (by omega);have h2:=hcl V hV k hkl 2 (by omega);rw[hv]at h0 h1 h2;exact⟨h0,h1,h2⟩
   have mM:=hid hcells;have Lu:=hid tz;have Lv:=hid tb;have Pn:=hid oF;obtain⟨t,ht⟩:∃t,t=q.getD k (0,[]):=⟨_,rfl⟩;have hlq:k<q.length:=by rw[Jh.out];exact hkl
   have ht2:t=q[k]:=by rw[ht];simp[a0h,a0i hlq]
   have Qm:Hid (aZ 0 t.2=true):=Ls.out _ (by rw[ht2];exact a0j _)
   have HQ:Hid (Co (q.take (k+1))=iG (Co (q.take k)) t.1 t.2):=by
    unfold Co;rw[Hid,a0k hlq,nY,<-ht2];simp[jk]
   have ZK:Hid (fall (Co (q.take k))):=(oZ (λs hs=>Ls.out s (a0r hs))).1
   have HNL:Hid (n2<=2000000):=by
    have h1:=HS.out.1.len;have h2:=ru [] (q.take k);rw[a0s]at h2;unfold Co at h1;simp only[List.length_nil]at h2;rw[Hid];omega
   have HKK:Hid (K+k<=9000):=by rw[Hid];omega
   rw[<-ht]at Lu Pn;clear hcl hv hcells tz tb oF ht ht2 hlq;go_upto_region 5 with(fail)
   refine wp_region_held_drew (S:=λw'=>w'.cell? ⟨b,off+k*3,none⟩=some (.bool tm)/\ w'.cell? ⟨b,off+k*3+1,none⟩=some (a0d ta tn tc)/\ w'.cell? ⟨b,off+k*3+2,none⟩=some (a0d ba bn bc)) (by kernel_rfl) (mM.out _ HS.out.2.drew) (λhH=>?_);refine ai (λw4 hW=>?_);have kT:Hid (Pz (K+k) w4 oo n2 c2 (Co (q.take k))/\ Below w.heap.size w w4):=by rw[hW];exact⟨HS.out.1.below (a0b _ _).drew,HS.out.2.drew⟩
   rw[<-hW]at hH;clear hW HS;refine aQ 0 hH ?_;try simp only[ax]
   refine aQ 1 hH ?_;try simp only[ax]
   refine aQ 2 hH ?_;try simp only[ax]
   refine aQ 3 hH ?_;try simp only[ax]
   refine aQ 4 hH ?_;try simp only[ax]
   refine aQ 5 hH ?_;try simp only[ax]
   refine aQ 7 hH ?_;try simp only[ax]
   refine aQ 8 hH ?_;try simp only[ax]
   refine aQ 9 hH ?_;try simp only[ax]
   refine aQ 10 hH ?_;try simp only[ax]
   refine aQ 11 hH ?_;try simp only[ax]
   refine ah 6 rfl (by kernel_rfl) (λKK hK=>?_);go_simp;refine(sW ⟨Lu.out.below kT.out.2,Nat.le_trans Lv.out (by omega)⟩).mono ?_;rintro e w5 ⟨rm,ra,rn,rc,rfl,hX,hB⟩;have jB:Hid (Pz (K+k) w5 oo n2 c2 (Co (q.take k))/\ Below w.heap.size w w5):=⟨kT.out.1.below hB,Below.steps kT.out.2 hB⟩;have MU:=hid hX;have og:Hid (Bd t.1 (K+k)):=(Lu.out.bd Lv.out).mono (a0A K k);clear kT hX hB Lu;go_wp2_with fail;clear hH;refine hK.out _ _ (mM.out _ jB.out.2) λhH=>?_;clear hK KK
   try simp only[ax]
   refine ah 12 rfl (by kernel_rfl) (λKK hK=>?_);go_simp;refine(zB jB.out.1 MU.out og.out (Pn.out.below jB.out.2) ZK.out Qm.out HNL.out HKK.out).mono ?_;rintro e w6 ⟨o3,n3,c3,rfl,hX,hB⟩;have nZ:Hid (Pz (K+(k+1)) w6 o3 n3 c3 (Co (q.take (k+1)))/\ Below w.heap.size w w6):=⟨by rw[HQ.out];exact hX,Below.steps jB.out.2 hB⟩;clear jB hX hB HQ MU;go_wp2_with fail;clear hH;refine hK.out _ _ (mM.out _ nZ.out.2) λhH=>?_;clear hK KK
   try simp only[ax]
   refine aQ 13 hH ?_;try simp only[ax]
   refine wpAnyH_done (by kernel_rfl) ?_ _
   go_wp2_with fail;go_roundw
   case rel=>exact⟨k+1,n3,c3,o3,by go_num,rfl,by omega,nZ.out⟩
   case measure=>simp[intOf];omega
  ·obtain rfl:k=l:=by omega
   go_wp2_with fail;go_ret;refine⟨_,_,_,rfl,?_,HS.out.2⟩;have h:=HS.out.1;rw[a0t (by rw[Jh.out];exact a0y _)]at h;exact h
open Lib (hid)
theorem nT {w w':World} {g:Nat} (hc:eO w g) (hG:w.grownBy w' (some g)) {k:IntKind} {x:Int} {ad:Addr} (h:w.cell? ad=some (.int k x)):w'.cell? ad=some (.int k x):=
 hG.cell h λeq=>hc.far h (Option.some.inj eq)
theorem Ml.fM [Ol] {w w':World} {g:Nat} (hc:eO w g) (hG:w.grownBy w' (some g)) {bo:Option Addr} {k cb:Nat} {ps:List (Int×Int)} (h:Ml w bo k cb ps):Ml w' bo k cb ps:=
 ⟨h.len,h.le,h.big,h.wf,h.nil,λad had t ht=>⟨nT hc hG (h.cells ad had t ht).1,nT hc hG (h.cells ad had t ht).2⟩,λh0 ad had=>by
  obtain⟨x,hx⟩:=h.int h0 had;exact(h.kp h0 ad had).grown (h.blt h0 had) hG λeq=>hc.far hx (Option.some.inj eq)⟩
theorem Cn.fM {w w':World} {g:Nat} (hc:eO w g) (hG:w.grownBy w' (some g)) {m:Bool} {bo:Option Addr} {k cb:Nat} {z:Int} (h:Cn w m bo k cb z):Cn w' m bo k cb z:=
 ⟨h.neg,h.sl.len,h.sl.le,h.sl.big,h.sl.wf,h.sl.nil,λad had t ht=>nT hc hG (h.sl.cells ad had t ht)⟩
theorem Cn.stays {B:Nat} {e:TypeId} {sz:Nat} {w w':World} {ao:Option Addr} {n cap:Nat} {bS:List (List Value)} {m:Bool} {bo:Option Addr} {k cb:Nat} {z:Int} (h:Cn w m bo k cb z) (hO:jb B e sz w ao n cap bS) (hG:w.grownBy w' (a0d ao n cap).ownBlock):Cn w' m bo k cb z:=
 ⟨h.neg,h.sl.len,h.sl.le,h.sl.big,h.sl.wf,h.sl.nil,λad had t ht=>hO.stays hG (h.sl.cells ad had t ht)⟩
theorem bD.clean {w:World} {g:Nat} {T:TypeId} (h:bD w g [] T):eO w g:=λcur T' fr hh u hu=>by
 unfold bD at h;rw[h]at hh;cases hh;simp at hu
theorem jb.other {B:Nat} {e:TypeId} {sz:Nat} {w w':World} {ao:Option Addr} {n cap:Nat} {bS:List (List Value)} (h:jb B e sz w ao n cap bS) {g:Nat} {us:List Value} {T:TypeId} (hg:bD w g us T) (hT:T≠e) (hG:w.grownBy w' (some g)):jb B e sz w' ao n cap bS:=by
 refine h.keep λa ha=>?_
 rcases h.parts with⟨h1,_⟩|⟨g',cur,h1,_,hlt,_,hh⟩
 ·rw[h1]at ha;cases ha
 ·rw[h1]at ha;cases ha;refine hG.block g' hlt λeq=>?_
  have e':g'=g:=Option.some.inj eq;subst e';unfold bD at hg;rw[hg]at hh;cases hh;exact hT rfl
def kD [Ol] (K:Nat) (w:World) (vs:List Value) (t:Term):Prop:=
 ∃m ao n cap bo k cb,vs=[.bool m,a0d ao n cap,a0d bo k cb]/\ Cn w m ao n cap t.1/\ Bd t.1 K/\ Ml w bo k cb t.2
theorem kD.below [Ol] {K:Nat} {w w':World} {vs:List Value} {t:Term} (h:kD K w vs t) (hb:Below w.heap.size w w'):kD K w' vs t:=by
 obtain⟨m,ao,n,cap,bo,k,cb,h1,h2,h3,h4⟩:=h;exact⟨m,ao,n,cap,bo,k,cb,h1,h2.below hb,h3,h4.below hb⟩
theorem kD.inn [Ol] {K:Nat} {w:World} {vs:List Value} {t:Term} (h:kD K w vs t):TmI K w vs t:=by
 obtain⟨m,ao,n,cap,bo,k,cb,h1,h2,h3,h4⟩:=h;exact⟨m,ao,n,cap,bo,k,cb,h1,h2.inn,h2.le h3,h4⟩
theorem kD.mono [Ol] {K L:Nat} {w:World} {vs:List Value} {t:Term} (h:kD K w vs t) (hk:K<=L):kD L w vs t:=by
 obtain⟨m,ao,n,cap,bo,k,cb,h1,h2,h3,h4⟩:=h;exact⟨m,ao,n,cap,bo,k,cb,h1,h2,h3.mono hk,h4⟩
theorem kD.stays [Ol] {B:Nat} {e:TypeId} {sz:Nat} {w w':World} {ao:Option Addr} {n cap:Nat} {bS:List (List Value)} {K:Nat} {vs:List Value} {t:Term} (h:kD K w vs t) (hO:jb B e sz w ao n cap bS) (hG:w.grownBy w' (a0d ao n cap).ownBlock):kD K w' vs t:=by
 obtain⟨m,ao,n,cap,bo,k,cb,h1,h2,h3,h4⟩:=h;exact⟨m,ao,n,cap,bo,k,cb,h1,h2.stays hO hG,h3,h4.stays hO hG⟩
theorem kD.fM [Ol] {w w':World} {g:Nat} (hc:eO w g) (hG:w.grownBy w' (some g)) {K:Nat} {vs:List Value} {t:Term} (h:kD K w vs t):kD K w' vs t:=by
 obtain⟨m,ao,n,cap,bo,k,cb,h1,h2,h3,h4⟩:=h;exact⟨m,ao,n,cap,bo,k,cb,h1,h2.fM hc hG,h3,h4.fM hc hG⟩
structure Pc [Ol] (K:Nat) (w:World) (ao:Option Addr) (n cap:Nat) (p:List Term):Prop where
 ex:∃bS,Gl 3 w ao n cap bS/\ cB (kD K w) bS p
theorem Pc.len [Ol] {K:Nat} {w:World} {ao:Option Addr} {n cap:Nat} {p:List Term} (h:Pc K w ao n cap p):p.length=n:=by
 obtain⟨bS,h1,h2⟩:=h.ex;rw[<-h2.len,h1.len]
theorem Pc.below [Ol] {K:Nat} {w w':World} {ao:Option Addr} {n cap:Nat} {p:List Term} (h:Pc K w ao n cap p) (hb:Below w.heap.size w w'):Pc K w' ao n cap p:=by
 obtain⟨bS,h1,h2⟩:=h.ex;exact⟨bS,h1.below hb,h2.imp λv a h=>h.below hb⟩
theorem Pc.inn [Ol] {K:Nat} {w:World} {ao:Option Addr} {n cap:Nat} {p:List Term} (h:Pc K w ao n cap p):Pi K w ao n cap p:=by
 obtain⟨bS,h1,h2⟩:=h.ex;exact⟨bS,h1,h2.imp λv a h=>h.inn⟩
theorem Pc.mono [Ol] {K L:Nat} {w:World} {ao:Option Addr} {n cap:Nat} {p:List Term} (h:Pc K w ao n cap p) (hk:K<=L):Pc L w ao n cap p:=by
 obtain⟨bS,h1,h2⟩:=h.ex;exact⟨bS,h1,h2.imp λv a h=>h.mono hk⟩
theorem Pc.zero [Ol] (K:Nat) (w:World):Pc K w none 0 0 []:=⟨[],Gl.zero 3 w,trivial⟩
def ad1 [Ol] (K:Nat) (w:World) (p:List Term) (e:Ending) (w':World):Prop:=∃ao n cap,e= .returned (a0d ao n cap)/\ Pc K w' ao n cap p/\ Below w.heap.size w w'
theorem Tryz.Uy:(Tryz.prog.info? 70).map (λi=>(i.zero,i.size,i.bytes))=some (some (.agg #[.bool false,a0d none 0 0,a0d none 0 0]),3,56):=by kernel_rfl
theorem Lx [Ol] {P:Program} (wa w0:World) {o:Oper} {a:Act} {K:Act->World->Prop} {Q:Exit->Act->World->Prop}
  (s x:Operand) (t:TypeId) (hop:o.op=Op.call { callee:=Callee.builtin Builtin.append,args:= #[s,x],argTypes:= #[t,t] })
  (B:Nat) (i:TypeInfo) (z:Value) (h1:P.underlying t=some (.slice 72)) (h2:P.info? 72=some i) (h3:i.zero=some z) (h4:i.size=2) (h5:i.bytes=16) (h6:z.cells.size=2)
  (g:Nat) (hs:a.eval s=a0d (some ⟨g,0,none⟩) 0 0) (hO:Mo B wa (some ⟨g,0,none⟩) 0 0 []) (ao:Option Addr) (n cap:Nat) (ps:List (Int×Int)) (hx:a.eval x=a0d ao n cap) (hS:Ml wa ao n cap ps)
  (hb:Below B w0 wa) (hB:B<=wa.heap.size)
  (hK:∀gu cap' w',Ml w' gu n cap' ps->Below B w0 w'->wa.grownBy w' (some g)->K (a.put o.dst (a0d gu n cap')) w'):
  Oper.wp P o a wa K Q:=by
 cases ao with
 |none=>
  have hn:n=0:=by have:=hS.nil rfl;have:=hS.le;omega
  have hc:cap=0:=hS.nil rfl;subst hn;subst hc;have hxs:ps=[]:=List.eq_nil_of_length_eq_zero hS.len;subst hxs;have hrun:=run_append_owned_none (P:=P) wa B t o.type 72 i 2 h1 h2 _ 0 [] hO.row;unfold Oper.wp;simp[execOp,hop,resolve,invoke,builtin,hs,hx,hrun,Result.andThen];exact hK _ _ wa hO.ml hb (World.grownBy.refl _ _)
 |some ad=>
  refine wp_append_own wa s x t hop B 72 i z 2 16 h1 h2 h3 h4 h5 h6 (by decide) _ 0 [] hs hO.row ad n cap (fq ps) hx (by rw[lI,hS.len]) ?_ (qm ps) (by have:=hS.big;unfold maxLen;omega) (by have:=hS.big;omega) hB ?_
  ·intro j u hj;have hjl:j<n*2:=by have:=(List.getElem?_eq_some_iff.1 hj).1;rwa[lI,hS.len]at this
   have hc:=hS.cells ad rfl (j/2) (by omega);have hp:=uN ps (j/2) (by rw[hS.len];omega);rcases(show j=j/2*2∨j=j/2*2+1 by omega)with e|e
   ·rw[<-e]at hc hp;rw[hc.1,<-hp.1,hj]
   ·rw[<-e]at hc hp;rw[hc.2,<-hp.2,hj]
  ·intro v' w' hown' hgrow _;obtain⟨gu,cap',rfl⟩:=rz hown';rw[Nat.zero_add]at hown' ⊢;have hM:Mo B w' gu n cap' ps:=⟨by simpa using hown',hS.big,hS.wf⟩;exact hK gu cap' w' hM.ml (hb.grown hgrow hB λk hk=>(hO.row.lt k hk).1) hgrow
theorem Mo.empty (w:World):Mo w.heap.size (w.alloc (.cells #[] 72)) (some ⟨w.heap.size,0,none⟩) 0 0 []:=
 ⟨World.ownsRow_made w #[] 0 (a0y _) (a0x _) rfl,a0x _,λ_ h=>by cases h⟩
theorem MQ [Ol] {K:Nat} {bo:Option Addr} {l cb:Nat} {q:List Term} {w:World} (hq:Pz K w bo l cb q) (hn:l<=100000) (hK:K<=9000):
  Calls Tryz.prog 38 #[a0d bo l cb] w (ad1 K w q):=by
 obtain⟨i0,hi,hz0,hz1,hz2⟩:=info_parts Tryz.Uy;obtain⟨j0,hi2,hy0,hy1,hy2⟩:=info_parts Tryz.rA;obtain⟨bS,hG,hT⟩:=hq.ex;have hle:=hG.le;have hbig:=hG.big;have Jg:=hq.len;have Ut:=hid hG;have TV:=hid hT;have xw:=hid Jg;clear hq hG hT Jg;go_enter Tryz.func38,Tryz.ntmps38;go_wp2;go_loopw [3,4] (λo i wr=>∃(k c2:Nat) (oo:Option Addr) (zs:List (List Value)),i= .int .i64 k/\ o=a0d oo k c2/\ k<=l/\ Hid (jb w.heap.size 70 3 wr oo k c2 zs/\ cB (kD K wr) zs (q.take k)/\ Below w.heap.size w wr)) (λ_ i _=>l-(intOf i).toNat)
 case atStart=>exact⟨0,0,none,[],rfl,rfl,a0x _,jb.nil _ _ _ _,trivial,a0b _ _⟩
 case round=>
  obtain⟨k,c2,oo,zs,rfl,rfl,hk,HS⟩:=hrel;by_cases hkl:k<l
  ·obtain⟨b,off,rfl,_,hcl⟩:=Ut.out.at (by omega);obtain⟨xm,xa,xn,xc,xp,xq,xr,hv,tz,tb,oF⟩:=cB.get (0,[]) TV.out k (by rw[xw.out];assumption)
   have hcells:∀V:World,Below w.heap.size w V->(V.cell? ⟨b,off+k*3,none⟩=some (.bool xm)/\ V.cell? ⟨b,off+k*3+1,none⟩=some (a0d xa xn xc)/\ V.cell? ⟨b,off+k*3+2,none⟩=some (a0d xp xq xr)):=by
    intro V hV;have h0:=hcl V hV k (by assumption) 0 (by omega);have h1:=hcl V hV k (by assumption) 1 (by omega);have h2:=hcl V hV k (by assumption) 2 (by omega);rw[hv]at h0 h1 h2;exact⟨h0,h1,h2⟩
   have vR:=hid hcells;clear hcl hv hcells;have vG:k<q.length:=by rw[xw.out];assumption
   have Gn:q.getD k (0,[])=q[k]:=by simp[a0h,a0i vG]
   rw[Gn]at tz tb oF;have HZP:=hid tz;have T9:=hid tb;have Qk:=hid oF;clear tz tb oF Gn;have HQ:Hid (q.take (k+1)=q.take k++[q[k]]):=a0k vG;go_upto_region 5 with(fail)
   refine wp_region_held_drew (S:=λw'=>(w'.cell? ⟨b,off+k*3,none⟩=some (.bool xm)/\ w'.cell? ⟨b,off+k*3+1,none⟩=some (a0d xa xn xc)/\ w'.cell? ⟨b,off+k*3+2,none⟩=some (a0d xp xq xr))) (by kernel_rfl) (vR.out _ HS.out.2.2.drew) (λhH=>?_);refine ai (λw4 hW=>?_);have kT:Hid (jb w.heap.size 70 3 w4 oo k c2 zs/\ cB (kD K w4) zs (q.take k)/\ Below w.heap.size w w4):=by rw[hW];exact⟨HS.out.1.below (a0b _ _).drew,HS.out.2.1.imp (λ_ _ h=>h.below (a0b _ _).drew),HS.out.2.2.drew⟩
   rw[<-hW]at hH;clear hW HS;refine aQ 0 hH ?_;try simp only[ax]
   refine aQ 1 hH ?_;try simp only[ax]
   refine aQ 2 hH ?_;try simp only[ax]
   refine aQ 3 hH ?_;try simp only[ax]
   refine aQ 4 hH ?_;try simp only[ax]
   refine aQ 5 hH ?_;try simp only[ax]
   refine aQ 8 hH ?_;try simp only[ax]
   refine aQ 9 hH ?_;try simp only[ax]
   refine aQ 10 hH ?_;try simp only[ax]
   refine aQ 11 hH ?_;try simp only[ax]
   refine aQ 12 hH ?_;try simp only[ax]
   refine wpAnyH_ready (rs:=[6,7]) (by kernel_rfl) (by simp) (aO rfl (λKK hK=>?_) (aO rfl (λKK hK=>?_) AllReadyH.nil))
   ·go_simp;refine(mX ((HZP.out.below kT.out.2.2).zx T9.out (by omega))).mono ?_;rintro e w5 ⟨rm,ra,rn,rc,rfl,hX,hB⟩;have MU:=hid hX;have jB:Hid (jb w.heap.size 70 3 w5 oo k c2 zs/\ cB (kD K w5) zs (q.take k)/\ Below w.heap.size w w5):=⟨kT.out.1.below hB,kT.out.2.1.imp (λ_ _ h=>h.below hB),Below.steps kT.out.2.2 hB⟩;clear kT hX hB;go_wp2_with fail;clear hH;refine hK.out _ _ (vR.out _ jB.out.2.2) λhH=>?_;clear hK KK
    try simp only[ax]
    refine ah 7 rfl (by kernel_rfl) (λKK hK=>?_);go_simp;clear hH;refine hK.out _ _ (vR.out _ (jB.out.2.2.trans (a0c (af w5 _) jB.out.2.2.size))) λhH=>?_;clear hK KK
    try simp only[ax]
    refine ai (λw6 hW=>?_);obtain⟨g,hg⟩:∃g,g=w5.heap.size:=⟨_,rfl⟩;have nZ:Hid (jb w.heap.size 70 3 w6 oo k c2 zs/\ cB (kD K w6) zs (q.take k)/\ Below w.heap.size w w6):=by rw[hW];exact⟨jB.out.1.below (af w5 _),jB.out.2.1.imp (λ_ _ h=>h.below (af w5 _)),jB.out.2.2.alloc jB.out.2.2.size _⟩
    have HZ6:Hid (Cn w6 rm ra rn rc (q[k]).1):=by rw[hW];exact MU.out.below (af w5 _)
    have HM6:Hid (Mo w.heap.size w6 (some ⟨g,0,none⟩) 0 0 []):=by rw[hW,hg];exact(Mo.empty w5).mono jB.out.2.2.size
    have Uz:Hid (bD w6 g [] 72):=by rw[hW,hg];exact bD.new w5 [] _
    rw[<-hW]at hH;rw[<-hg];clear hW hg jB MU;refine ah 13 rfl (by kernel_rfl) (λKK hK=>?_);refine Lx w6 w (.tmp 18) (.tmp 23) 68 rfl w.heap.size j0 (.agg #[.int .i64 0,.int .i64 0]) Tryz.underlying68 hi2 hy0 hy1 hy2 rfl g rfl HM6.out _ _ _ _ rfl (Qk.out.below nZ.out.2.2) nZ.out.2.2 nZ.out.2.2.size ?_;intro ma mc w7 hM7 hB7 UA;have fu:Hid (jb w.heap.size 70 3 w7 oo k c2 zs/\ cB (kD K w7) zs (q.take k)/\ Below w.heap.size w w7):=⟨nZ.out.1.other Uz.out (by decide) UA,nZ.out.2.1.imp (λ_ _ h=>kD.fM Uz.out.clean UA h),hB7⟩;have Dc:Hid (kD K w7 [.bool rm,a0d ra rn rc,a0d ma xq mc] q[k]):=⟨_,_,_,_,_,_,_,rfl,HZ6.out.fM Uz.out.clean UA,T9.out,hM7⟩;clear nZ HZ6 HM6 Uz hM7 hB7 UA;clear hH;refine hK.out _ _ (vR.out _ fu.out.2.2) λhH=>?_;clear hK KK
    try simp only[ax]
    refine aQ 14 hH ?_;try simp only[ax]
    refine ah 15 rfl (by kernel_rfl) (λKK hK=>?_);go_simp;clear hH;refine hK.out _ _ (vR.out _ (fu.out.2.2.trans (a0c (af w7 _) fu.out.2.2.size))) λhH=>?_;clear hK KK
    try simp only[ax]
    refine ah 16 rfl (by kernel_rfl) (λKK hK=>?_);refine vT _ w (.tmp 11) (.tmp 26) 23 rfl w.heap.size 70 3 56 i0 (.agg #[.bool false,a0d none 0 0,a0d none 0 0]) Tryz.underlying23 hi hz0 hz1 hz2 rfl (by omega) oo k c2 zs rfl (fu.out.1.below (af w7 _)) _ 1 1 [[.bool rm,a0d ra rn rc,a0d ma xq mc]] rfl (Gl.lit 3 w7 _ _ rfl (by simp[a0e])) (fu.out.2.2.alloc fu.out.2.2.size _) (by have:=fu.out.2.2.size;simp;omega) (by omega) (by omega) (by simp[a0f,bF]) (by simp[bF]) ?_;intro o8 c8 w8 hO o5 y7;have JK:Hid (jb w.heap.size 70 3 w8 o8 (k+1) c8 (zs++[[.bool rm,a0d ra rn rc,a0d ma xq mc]])/\ cB (kD K w8) (zs++[[.bool rm,a0d ra rn rc,a0d ma xq mc]]) (q.take (k+1))/\ Below w.heap.size w w8):=⟨hO,by rw[HQ.out];exact cB.append (fu.out.2.1.imp (λ_ _ h=>(h.below (af w7 _)).stays (fu.out.1.below (af w7 _)) y7)) ⟨(Dc.out.below (af w7 _)).stays (fu.out.1.below (af w7 _)) y7,trivial⟩,o5⟩;clear fu hO o5 y7 Dc HQ;clear hH;refine hK.out _ _ (vR.out _ JK.out.2.2) λhH=>?_;clear hK KK
    try simp only[ax]
    refine aQ 17 hH ?_;try simp only[ax]
    refine wpAnyH_done (by kernel_rfl) ?_ _
    go_wp2_with fail;go_roundw
    case rel=>exact⟨k+1,c8,o8,_,by go_num,rfl,by omega,JK.out⟩
    case measure=>simp[intOf];omega
   ·go_simp;clear hH;refine hK.out _ _ (vR.out _ (kT.out.2.2.trans (a0c (af w4 _) kT.out.2.2.size))) λhH=>?_;clear hK KK
    try simp only[ax]
    refine ai (λw9 hW=>?_);obtain⟨g,hg⟩:∃g,g=w4.heap.size:=⟨_,rfl⟩;have zC:Hid (jb w.heap.size 70 3 w9 oo k c2 zs/\ cB (kD K w9) zs (q.take k)/\ Below w.heap.size w w9):=by rw[hW];exact⟨kT.out.1.below (af w4 _),kT.out.2.1.imp (λ_ _ h=>h.below (af w4 _)),kT.out.2.2.alloc kT.out.2.2.size _⟩
    have HM9:Hid (Mo w.heap.size w9 (some ⟨g,0,none⟩) 0 0 []):=by rw[hW,hg];exact(Mo.empty w4).mono kT.out.2.2.size
    have HA9:Hid (bD w9 g [] 72):=by rw[hW,hg];exact bD.new w4 [] _
    rw[<-hW]at hH;rw[<-hg];clear hW hg kT;refine ah 6 rfl (by kernel_rfl) (λKK hK=>?_);go_simp;refine(mX ((HZP.out.below zC.out.2.2).zx T9.out (by omega))).mono ?_;rintro e w6 ⟨rm,ra,rn,rc,rfl,hX,hB⟩;have HZ6:=hid hX;have nZ:Hid (jb w.heap.size 70 3 w6 oo k c2 zs/\ cB (kD K w6) zs (q.take k)/\ Below w.heap.size w w6):=⟨zC.out.1.below hB,zC.out.2.1.imp (λ_ _ h=>h.below hB),Below.steps zC.out.2.2 hB⟩;have HM6:=hid (HM9.out.below hB);have Uz:=hid (HA9.out.below hB);clear zC HM9 HA9 hX hB;go_wp2_with fail;clear hH;refine hK.out _ _ (vR.out _ nZ.out.2.2) λhH=>?_;clear hK KK
    try simp only[ax]
    refine ah 13 rfl (by kernel_rfl) (λKK hK=>?_);refine Lx w6 w (.tmp 18) (.tmp 23) 68 rfl w.heap.size j0 (.agg #[.int .i64 0,.int .i64 0]) Tryz.underlying68 hi2 hy0 hy1 hy2 rfl g rfl HM6.out _ _ _ _ rfl (Qk.out.below nZ.out.2.2) nZ.out.2.2 nZ.out.2.2.size ?_;intro ma mc w7 hM7 hB7 UA;have fu:Hid (jb w.heap.size 70 3 w7 oo k c2 zs/\ cB (kD K w7) zs (q.take k)/\ Below w.heap.size w w7):=⟨nZ.out.1.other Uz.out (by decide) UA,nZ.out.2.1.imp (λ_ _ h=>kD.fM Uz.out.clean UA h),hB7⟩;have Dc:Hid (kD K w7 [.bool rm,a0d ra rn rc,a0d ma xq mc] q[k]):=⟨_,_,_,_,_,_,_,rfl,HZ6.out.fM Uz.out.clean UA,T9.out,hM7⟩;clear nZ HZ6 HM6 Uz hM7 hB7 UA;clear hH;refine hK.out _ _ (vR.out _ fu.out.2.2) λhH=>?_;clear hK KK
    try simp only[ax]
    refine aQ 14 hH ?_;try simp only[ax]
    refine ah 15 rfl (by kernel_rfl) (λKK hK=>?_);go_simp;clear hH;refine hK.out _ _ (vR.out _ (fu.out.2.2.trans (a0c (af w7 _) fu.out.2.2.size))) λhH=>?_;clear hK KK
    try simp only[ax]
    refine ah 16 rfl (by kernel_rfl) (λKK hK=>?_);refine vT _ w (.tmp 11) (.tmp 26) 23 rfl w.heap.size 70 3 56 i0 (.agg #[.bool false,a0d none 0 0,a0d none 0 0]) Tryz.underlying23 hi hz0 hz1 hz2 rfl (by omega) oo k c2 zs rfl (fu.out.1.below (af w7 _)) _ 1 1 [[.bool rm,a0d ra rn rc,a0d ma xq mc]] rfl (Gl.lit 3 w7 _ _ rfl (by simp[a0e])) (fu.out.2.2.alloc fu.out.2.2.size _) (by have:=fu.out.2.2.size;simp;omega) (by omega) (by omega) (by simp[a0f,bF]) (by simp[bF]) ?_;intro o8 c8 w8 hO o5 y7;have JK:Hid (jb w.heap.size 70 3 w8 o8 (k+1) c8 (zs++[[.bool rm,a0d ra rn rc,a0d ma xq mc]])/\ cB (kD K w8) (zs++[[.bool rm,a0d ra rn rc,a0d ma xq mc]]) (q.take (k+1))/\ Below w.heap.size w w8):=⟨hO,by rw[HQ.out];exact cB.append (fu.out.2.1.imp (λ_ _ h=>(h.below (af w7 _)).stays (fu.out.1.below (af w7 _)) y7)) ⟨(Dc.out.below (af w7 _)).stays (fu.out.1.below (af w7 _)) y7,trivial⟩,o5⟩;clear fu hO o5 y7 Dc HQ;clear hH;refine hK.out _ _ (vR.out _ JK.out.2.2) λhH=>?_;clear hK KK
    try simp only[ax]
    refine aQ 17 hH ?_;try simp only[ax]
    refine wpAnyH_done (by kernel_rfl) ?_ _
    go_wp2_with fail;go_roundw
    case rel=>exact⟨k+1,c8,o8,_,by go_num,rfl,by omega,JK.out⟩
    case measure=>simp[intOf];omega
  ·obtain rfl:k=l:=by omega
   go_wp2_with fail;go_ret;refine⟨_,_,_,rfl,⟨_,HS.out.1.gl,?_⟩,HS.out.2.2⟩;have h:=HS.out.2.1;rw[a0t (by rw[xw.out];exact a0y _)]at h;exact h
open Lib (hid)
def iq:(Bool×List Nat)×List (Int×Int):=((false,[]),[])
abbrev Raw:=(Bool×List Nat)×List (Int×Int)
def mq (t:Raw):Term:=(dK t.1.1 (val t.1.2),t.2)
def jO (t:Term):Raw:=((decide (t.1<0),limbs t.1.natAbs),t.2)
def XB [Ol] (w:World) (vs:List Value) (t:Raw):Prop:=
 ∃ao n cap bo k cb,vs=[.bool t.1.1,a0d ao n cap,a0d bo k cb]/\ Sl w ao n cap t.1.2/\ Ml w bo k cb t.2
theorem XB.below [Ol] {w w':World} {vs:List Value} {t:Raw} (h:XB w vs t) (hb:Below w.heap.size w w'):XB w' vs t:=by
 obtain⟨ao,n,cap,bo,k,cb,h1,h2,h4⟩:=h;exact⟨ao,n,cap,bo,k,cb,h1,h2.below hb,h4.below hb⟩
theorem kD.raw [Ol] {K:Nat} {w:World} {vs:List Value} {t:Term} (h:kD K w vs t):XB w vs (jO t):=by
 obtain⟨m,ao,n,cap,bo,k,cb,h1,h2,h3,h4⟩:=h;exact⟨ao,n,cap,bo,k,cb,by rw[h1,h2.neg];rfl,h2.sl,h4⟩
theorem sZ (t:Term):mq (jO t)=t:=by
 unfold mq jO;simp only[au,tu]
structure Pr [Ol] (w:World) (ao:Option Addr) (n cap:Nat) (ts:List Raw):Prop where
 ex:∃bS,Gl 3 w ao n cap bS/\ cB (XB w) bS ts
theorem Pr.len [Ol] {w:World} {ao:Option Addr} {n cap:Nat} {p:List Raw} (h:Pr w ao n cap p):p.length=n:=by
 obtain⟨bS,h1,h2⟩:=h.ex;rw[<-h2.len,h1.len]
theorem Pr.below [Ol] {w w':World} {ao:Option Addr} {n cap:Nat} {p:List Raw} (h:Pr w ao n cap p) (hb:Below w.heap.size w w'):Pr w' ao n cap p:=by
 obtain⟨bS,h1,h2⟩:=h.ex;exact⟨bS,h1.below hb,h2.imp λv a h=>h.below hb⟩
theorem cB.map {α β:Type} {R:List Value->α->Prop} {S:List Value->β->Prop} (f:α->β):∀{vs:List (List Value)} {l:List α},(∀v a,a∈l->R v a->S v (f a))->cB R vs l->cB S vs (l.map f)
 |[],[],_,_=>trivial
 | _::_,_::_,hRS,h=>⟨hRS _ _ (by simp) h.1,cB.map f (λv a ha=>hRS v a (by simp[ha])) h.2⟩
 |[],_::_,_,h=>h.elim
 | _::_,[],_,h=>h.elim
theorem Pc.raw [Ol] {K:Nat} {w:World} {ao:Option Addr} {n cap:Nat} {p:List Term} (h:Pc K w ao n cap p):Pr w ao n cap (p.map jO):=by
 obtain⟨bS,h1,h2⟩:=h.ex;exact⟨bS,h1,cB.map jO (λv a _ h=>h.raw) h2⟩
theorem QA [Ol] (r:Bool) {m k:Bool} {ao bo:Option Addr} {n cap l cb:Nat} {xs ys:List Nat} {w:World} (hs:Sl w ao n cap xs) (ht:Sl w bo l cb ys) (h:decide ((m,xs)=(k,ys))=r):
  Calls Tryz.prog 53 #[.agg #[.bool m,a0d ao n cap],.agg #[.bool k,a0d bo l cb]] w (cu (.bool r) w):=by
 by_cases hmk:m=k
 ·subst hmk;exact uO r hs ht (by rw[<-h];unfold qO;simp)
 ·rw[show decide ((m,xs)=(k,ys))=false from decide_eq_false (λe=>hmk (congrArg Prod.fst e))]at h;subst h;exact xC hmk
theorem MR [Ol] (r:Bool) {ao bo:Option Addr} {n cap l cb:Nat} {ps qs:List Raw} {w:World} (hp:Pr w ao n cap ps) (hq:Pr w bo l cb qs) (h:decide (ps=qs)=r):
  Calls Tryz.prog 23 #[a0d ao n cap,a0d bo l cb] w (cu (.bool r) w):=by
 obtain⟨bS,hG,hT⟩:=hp.ex;obtain⟨uss,hG2,hT2⟩:=hq.ex;have hbig:=hG.big;have hbig2:=hG2.big;have xw:=hid hp.len;have TY:=hid hq.len;have Ut:=hid hG;have TV:=hid hT;have HGQ:=hid hG2;have HTQ:=hid hT2;have HR:=hid h;clear hp hq hG hT hG2 hT2 h;by_cases hnl:n=l
 ·subst hnl;have hd:((n:Int)==(n:Int))=true:=beq_self_eq_true _;have hd2:((n:Int) !=(n:Int))=false:=by simp
  go_enter Tryz.func23,Tryz.ntmps23;go_wp2;go_loopw [5] (λi wr=>∃k:Nat,i= .int .i64 k/\ k<=n/\ Hid (ps.take k=qs.take k)/\ Hid (Below w.heap.size w wr)) (λi _=>n-(intOf i).toNat)
  case atStart=>exact⟨0,rfl,a0x _,by simp[Hid],a0b _ _⟩
  case round=>
   obtain⟨k,rfl,hk,HE,HB⟩:=hrel;by_cases hkn:k<n
   ·obtain⟨b,off,rfl,_,hcl⟩:=Ut.out.at (by omega);obtain⟨xa,xn,xc,xp,xq,xr,hv,tz,oF⟩:=cB.get iq TV.out k (by rw[xw.out];omega);have vG:k<ps.length:=by rw[xw.out];omega
    have Gn:ps.getD k iq=ps[k]:=by simp[a0h,a0i vG]
    have hcells:∀V:World,Below w.heap.size w V->(V.cell? ⟨b,off+k*3,none⟩=some (.bool (ps.getD k iq).1.1)/\ V.cell? ⟨b,off+k*3+1,none⟩=some (a0d xa xn xc)/\ V.cell? ⟨b,off+k*3+2,none⟩=some (a0d xp xq xr)):=by
     intro V hV;have h0:=hcl V hV k (by omega) 0 (by omega);have h1:=hcl V hV k (by omega) 1 (by omega);have h2:=hcl V hV k (by omega) 2 (by omega);rw[hv]at h0 h1 h2;exact⟨h0,h1,h2⟩
    rw[Gn]at tz oF;obtain⟨xm,hxm⟩:∃xm,xm=(ps.getD k iq).1.1:=⟨_,rfl⟩;rw[<-hxm]at hcells;rw[Gn]at hxm;have vR:=hid hcells;have Lr:=hid tz;have Qk:=hid oF;have HNP:=hid hxm;clear hcl hv hcells tz oF Gn hxm;obtain⟨d,Ji,rfl,_,hcl⟩:=HGQ.out.at (by omega);obtain⟨ya,yn,yc,yp,yq,yr,hv,tz,oF⟩:=cB.get iq HTQ.out k (by rw[TY.out];omega);have Po:k<qs.length:=by rw[TY.out];omega
    have Ua:qs.getD k iq=qs[k]:=by simp[a0h,a0i Po]
    have hcells:∀V:World,Below w.heap.size w V->(V.cell? ⟨d,Ji+k*3,none⟩=some (.bool (qs.getD k iq).1.1)/\ V.cell? ⟨d,Ji+k*3+1,none⟩=some (a0d ya yn yc)/\ V.cell? ⟨d,Ji+k*3+2,none⟩=some (a0d yp yq yr)):=by
     intro V hV;have h0:=hcl V hV k (by omega) 0 (by omega);have h1:=hcl V hV k (by omega) 1 (by omega);have h2:=hcl V hV k (by omega) 2 (by omega);rw[hv]at h0 h1 h2;exact⟨h0,h1,h2⟩
    rw[Ua]at tz oF;obtain⟨ym,hym⟩:∃ym,ym=(qs.getD k iq).1.1:=⟨_,rfl⟩;rw[<-hym]at hcells;rw[Ua]at hym;have MV:=hid hcells;have HSQ:=hid tz;have HMQ:=hid oF;have HNQ:=hid hym;clear hcl hv hcells tz oF Ua hym;have HSM:Hid (∀V:World,Below w.heap.size w V->Calls Tryz.prog 53 #[.agg #[.bool xm,a0d xa xn xc],.agg #[.bool ym,a0d ya yn yc]] V (cu (.bool (decide ((ps[k]).1=(qs[k]).1))) V)):=λV hV=>by rw[HNP.out,HNQ.out];exact QA _ (Lr.out.below hV) (HSQ.out.below hV) rfl
    have Ls:Hid (∀V:World,Below w.heap.size w V->Calls Tryz.prog 67 #[a0d xp xq xr,a0d yp yq yr] V (cu (.bool (decide ((ps[k]).2=(qs[k]).2))) V)):=λV hV=>MW _ (Qk.out.below hV) (HMQ.out.below hV) rfl
    obtain⟨A,hA⟩:∃A,A=decide ((ps[k]).1=(qs[k]).1):=⟨_,rfl⟩;obtain⟨C,hC⟩:∃C,C=decide ((ps[k]).2=(qs[k]).2):=⟨_,rfl⟩;rw[<-hA]at HSM;rw[<-hC]at Ls;have HA:=hid hA;have HC:=hid hC;clear hA hC;go_upto_region 6 with(fail)
    refine wp_region_held_drew (S:=λw'=>(w'.cell? ⟨b,off+k*3,none⟩=some (.bool xm)/\ w'.cell? ⟨b,off+k*3+1,none⟩=some (a0d xa xn xc)/\ w'.cell? ⟨b,off+k*3+2,none⟩=some (a0d xp xq xr))/\ (w'.cell? ⟨d,Ji+k*3,none⟩=some (.bool ym)/\ w'.cell? ⟨d,Ji+k*3+1,none⟩=some (a0d ya yn yc)/\ w'.cell? ⟨d,Ji+k*3+2,none⟩=some (a0d yp yq yr))) (by kernel_rfl) ⟨vR.out _ HB.out.drew,MV.out _ HB.out.drew⟩ (λhH=>?_);refine ai (λw4 hW=>?_);have qP:Hid (Below w.heap.size w w4):=by rw[hW];exact HB.out.drew
    rw[<-hW]at hH;clear hW HB;refine aQ 0 hH ?_;try simp only[ax]
    refine aQ 1 hH ?_;try simp only[ax]
    refine aQ 2 hH ?_;try simp only[ax]
    refine aQ 3 hH ?_;try simp only[ax]
    refine aQ 4 hH ?_;try simp only[ax]
    refine aQ 5 hH ?_;try simp only[ax]
    refine aQ 6 hH ?_;try simp only[ax]
    refine aQ 7 hH ?_;try simp only[ax]
    refine aQ 8 hH ?_;try simp only[ax]
    refine aQ 9 hH ?_;try simp only[ax]
    refine ah 10 rfl (by kernel_rfl) (λKK hK=>?_);go_simp;refine(HSM.out _ qP.out).mono ?_;rintro e w5 ⟨rfl,hB⟩;have og:=hid (Below.steps qP.out hB);clear hB qP;go_wp2_with fail;clear hH;refine hK.out _ _ ⟨vR.out _ og.out,MV.out _ og.out⟩ λhH=>?_;clear hK KK
    try simp only[ax]
    cases A with
    |true=>
     refine aQ 11 hH ?_;try simp only[ax]
     refine aQ 12 hH ?_;try simp only[ax]
     refine aQ 13 hH ?_;try simp only[ax]
     refine aQ 14 hH ?_;try simp only[ax]
     refine aQ 15 hH ?_;try simp only[ax]
     refine aQ 16 hH ?_;try simp only[ax]
     refine aQ 17 hH ?_;try simp only[ax]
     refine aQ 18 hH ?_;try simp only[ax]
     refine aQ 19 hH ?_;try simp only[ax]
     refine aQ 20 hH ?_;try simp only[ax]
     refine aQ 21 hH ?_;try simp only[ax]
     refine aQ 22 hH ?_;try simp only[ax]
     refine ah 23 rfl (by kernel_rfl) (λKK hK=>?_);go_simp;refine(Ls.out _ og.out).mono ?_;rintro e w6 ⟨rfl,hB⟩;have xD:=hid (Below.steps og.out hB);clear hB og;go_wp2_with fail;clear hH;refine hK.out _ _ ⟨vR.out _ xD.out,MV.out _ xD.out⟩ λhH=>?_;clear hK KK
     try simp only[ax]
     refine aQ 24 hH ?_;try simp only[ax]
     refine aQ 25 hH ?_;try simp only[ax]
     refine wpAnyH_done (by kernel_rfl) ?_ _
     cases C with
     |true=>
      have HE2:Hid (ps.take (k+1)=qs.take (k+1)):=by
       rw[Hid,a0k vG,a0k Po,HE.out,Prod.ext (of_decide_eq_true HA.out.symm) (of_decide_eq_true HC.out.symm)]
      go_wp2_with fail;go_roundw
      case rel=>exact⟨k+1,by go_num,by omega,HE2,xD⟩
      case measure=>simp[intOf];omega
     |false=>
      have HR2:Hid (r=false):=by
       rw[Hid,<-HR.out];exact decide_eq_false λe=>of_decide_eq_false HC.out.symm (by subst e;rfl)
      go_wp2_with fail;go_ret;have hr:=HR2.out;subst hr;exact⟨rfl,xD.out⟩
    |false=>
     have HR2:Hid (r=false):=by
      rw[Hid,<-HR.out];exact decide_eq_false λe=>of_decide_eq_false HA.out.symm (by subst e;rfl)
     refine aQ 11 hH ?_;try simp only[ax]
     refine aQ 12 hH ?_;try simp only[ax]
     refine uq 13 hH ?_;try simp only[ax]
     refine uq 14 hH ?_;try simp only[ax]
     refine uq 15 hH ?_;try simp only[ax]
     refine uq 16 hH ?_;try simp only[ax]
     refine uq 17 hH ?_;try simp only[ax]
     refine uq 18 hH ?_;try simp only[ax]
     refine uq 19 hH ?_;try simp only[ax]
     refine uq 20 hH ?_;try simp only[ax]
     refine uq 21 hH ?_;try simp only[ax]
     refine uq 22 hH ?_;try simp only[ax]
     refine uq 23 hH ?_;try simp only[ax]
     refine uq 24 hH ?_;try simp only[ax]
     refine aQ 25 hH ?_;try simp only[ax]
     refine wpAnyH_done (by kernel_rfl) ?_ _
     go_wp2_with fail;go_ret;have hr:=HR2.out;subst hr;exact⟨rfl,og.out⟩
   ·obtain rfl:k=n:=by omega
    have HR2:Hid (r=true):=by
     rw[Hid,<-HR.out];have h:=HE.out;rw[a0t (by rw[xw.out];exact a0y _),a0t (by rw[TY.out];exact a0y _)]at h;exact decide_eq_true h
    go_wp2_with fail;go_ret;have hr:=HR2.out;subst hr;exact⟨rfl,HB.out⟩
 ·have HR2:Hid (r=false):=by
   rw[Hid,<-HR.out];exact decide_eq_false λe=>hnl (by rw[<-xw.out,<-TY.out,e])
  have hd:((n:Int)==(l:Int))=false:=by simpa using(by omega:¬(n:Int)=l)
  have hd2:((n:Int) !=(l:Int))=true:=by simpa using(by omega:¬(n:Int)=l)
  go_enter Tryz.func23,Tryz.ntmps23;go_wp2_with fail;go_ret;have hr:=HR2.out;subst hr;exact⟨rfl,a0b _ _⟩
end Go.Proofs.YtmenbpmciblnlaaGreatDoor

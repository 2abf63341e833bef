/- Tms, Tm, Put, PAdd, PTimes, PNeg, PSub, POf, PPoly, PRaw -/
import Derived.Test.YthdhjckangekoaaGreatGl
import Derived.Test.YthdhjckangekoaaGreatEn
import Derived.Test.YthdhjckangekoaaGreatGPp
import Derived.Test.YthdhjckangekoaaGreatGWZ2
import Derived.Test.YthdhjckangekoaaGreatGM3
set_option maxHeartbeats 40000000
set_option maxRecDepth 100000
namespace Go.Proofs.YthdhjckangekoaaGreat
open Go.RowKit
def bG {α:Type} (R:List Value->α->Prop):List (List Value)->List α->Prop
 |[],[]=>True
 |v::vs,a::l=>R v a/\ bG R vs l
 | _,_=>False
theorem bG.len {α:Type} {R:List Value->α->Prop}:∀{vs:List (List Value)} {l:List α},bG R vs l->vs.length=l.length
 |[],[],_=>rfl
 | _::_,_::_,h=>by simp[bG.len h.2]
 |[],_::_,h=>h.elim
 | _::_,[],h=>h.elim
theorem bG.imp {α:Type} {R S:List Value->α->Prop} (hRS:∀v a,R v a->S v a):∀{vs:List (List Value)} {l:List α},bG R vs l->bG S vs l
 |[],[],_=>trivial
 | _::_,_::_,h=>⟨hRS _ _ h.1,bG.imp hRS h.2⟩
 |[],_::_,h=>h.elim
 | _::_,[],h=>h.elim
theorem bG.get {α:Type} {R:List Value->α->Prop} (d:α):∀{vs:List (List Value)} {l:List α},bG R vs l->∀t,t<l.length->R (vs.getD t []) (l.getD t d)
 | _::_,_::_,h,0,_=>h.1
 | _::_,_::_,h,t+1,ht=>by
  have:=bG.get d h.2 t (by simpa using ht);simpa using this
 |[],[],_,_,ht=>by simp at ht
 |[],_::_,h,_,_=>h.elim
 | _::_,[],h,_,_=>h.elim
theorem bG.append {α:Type} {R:List Value->α->Prop}:∀{vs us:List (List Value)} {l k:List α},bG R vs l->bG R us k->bG R (vs++us) (l++k)
 |[],_,[],_,_,hk=>hk
 | _::_,_,_::_,_,h,hk=>⟨h.1,bG.append h.2 hk⟩
 |[],_,_::_,_,h,_=>h.elim
 | _::_,_,[],_,h,_=>h.elim
theorem bG.take {α:Type} {R:List Value->α->Prop}:∀{vs:List (List Value)} {l:List α},bG R vs l->∀k,bG R (vs.take k) (l.take k)
 |[],[],_,k=>by simp[bG]
 | _::_,_::_,_,0=>by simp[bG]
 | _::_,_::_,h,k+1=>⟨h.1,bG.take h.2 k⟩
 |[],_::_,h,_=>h.elim
 | _::_,[],h,_=>h.elim
theorem bG.drop {α:Type} {R:List Value->α->Prop}:∀{vs:List (List Value)} {l:List α},bG R vs l->∀k,bG R (vs.drop k) (l.drop k)
 |[],[],_,k=>by simp[bG]
 | _::_,_::_,h,0=>h
 | _::_,_::_,h,k+1=>bG.drop h.2 k
 |[],_::_,h,_=>h.elim
 | _::_,[],h,_=>h.elim
theorem dP {α:Type} {R:List Value->α->Prop} (hR:∀v a,R v a->∀u∈v,aX u=true):∀{vs:List (List Value)} {l:List α},bG R vs l->∀u∈vs.flatten,aX u=true
 |[],[],_,u,hu=>by simp at hu
 |v::vs,a::l,h,u,hu=>by
  rw[List.flatten_cons]at hu;rcases List.mem_append.1 hu with hu|hu
  ·exact hR v a h.1 u hu
  ·exact dP hR h.2 u hu
 |[],_::_,h,_,_=>h.elim
 | _::_,[],h,_,_=>h.elim
def Dl [Ol] (K:Nat) (w:World) (vs:List Value) (t:Term):Prop:=
 ∃m ao n cap bo k cb,vs=[.bool m,.slice ao n cap,.slice bo k cb]/\ Zd w m ao n cap t.1/\ Bd t.1 K/\ Ml w bo k cb t.2
theorem Dl.below [Ol] {K:Nat} {w w':World} {vs:List Value} {t:Term} (h:Dl K w vs t) (hb:Below w.heap.size w w'):Dl K w' vs t:=by
 obtain⟨m,ao,n,cap,bo,k,cb,h1,h2,h3,h4⟩:=h;exact⟨m,ao,n,cap,bo,k,cb,h1,h2.below hb,h3,h4.below hb⟩
theorem Dl.mono [Ol] {K L:Nat} {w:World} {vs:List Value} {t:Term} (h:Dl K w vs t) (hk:K<=L):Dl L w vs t:=by
 obtain⟨m,ao,n,cap,bo,k,cb,h1,h2,h3,h4⟩:=h;exact⟨m,ao,n,cap,bo,k,cb,h1,h2,h3.mono hk,h4⟩
theorem Ml.stays [Ol] {B:Nat} {e:TypeId} {sz:Nat} {w w':World} {ao:Option Addr} {n cap:Nat} {aW:List (List Value)} {bo:Option Addr} {k cb:Nat} {ps:List (Int×Int)} (h:Ml w bo k cb ps) (hO:fM B e sz w ao n cap aW) (hG:w.grownBy w' (Value.slice ao n cap).ownBlock):Ml w' bo k cb ps:=
 ⟨h.len,h.le,h.big,h.wf,h.nil,fun ad had t ht=>⟨hO.stays hG (h.cells ad had t ht).1,hO.stays hG (h.cells ad had t ht).2⟩,fun h0 ad had=>by
  obtain⟨x,hx⟩:=h.int h0 had;exact(h.kp h0 ad had).grown (h.blt h0 had) hG fun eq=>(hO.wS _ eq.symm).far hx rfl⟩
theorem Zd.stays [Ol] {B:Nat} {e:TypeId} {sz:Nat} {w w':World} {ao:Option Addr} {n cap:Nat} {aW:List (List Value)} {m:Bool} {bo:Option Addr} {k cb:Nat} {z:Int} (h:Zd w m bo k cb z) (hO:fM B e sz w ao n cap aW) (hG:w.grownBy w' (Value.slice ao n cap).ownBlock):Zd w' m bo k cb z:=
 ⟨h.neg,h.sl.len,h.sl.le,h.sl.big,h.sl.wf,h.sl.nil,(fun ad had t ht=>hO.stays hG (h.sl.cells ad had t ht)),fun h0 ad had=>by
  obtain⟨x,hx⟩:=h.sl.int h0 had;exact(h.sl.kp h0 ad had).grown (h.sl.blt h0 had) hG fun eq=>(hO.wS _ eq.symm).far hx rfl⟩
theorem Dl.stays [Ol] {B:Nat} {e:TypeId} {sz:Nat} {w w':World} {ao:Option Addr} {n cap:Nat} {aW:List (List Value)} {K:Nat} {vs:List Value} {t:Term} (h:Dl K w vs t) (hO:fM B e sz w ao n cap aW) (hG:w.grownBy w' (Value.slice ao n cap).ownBlock):Dl K w' vs t:=by
 obtain⟨m,ao,n,cap,bo,k,cb,h1,h2,h3,h4⟩:=h;exact⟨m,ao,n,cap,bo,k,cb,h1,h2.stays hO hG,h3,h4.stays hO hG⟩
theorem fI [Ol] {K:Nat} {w:World} {vs:List Value} {t:Term} (h:Dl K w vs t):∀u∈vs,aX u=true:=by
 obtain⟨m,ao,n,cap,bo,k,cb,rfl,_⟩:=h;intro u hu;simp at hu;rcases hu with rfl|rfl|rfl<;>rfl
structure Pz [Ol] (K:Nat) (w:World) (ao:Option Addr) (n cap:Nat) (p:List Term):Prop where
 ex:∃aW,Gl 3 w ao n cap aW/\ bG (Dl K w) aW p
theorem Pz.len [Ol] {K:Nat} {w:World} {ao:Option Addr} {n cap:Nat} {p:List Term} (h:Pz K w ao n cap p):p.length=n:=by
 obtain⟨aW,h1,h2⟩:=h.ex;rw[<-h2.len,h1.len]
theorem Pz.le [Ol] {K:Nat} {w:World} {ao:Option Addr} {n cap:Nat} {p:List Term} (h:Pz K w ao n cap p):n<=cap:=by
 obtain⟨aW,h1,h2⟩:=h.ex;exact h1.le
theorem Pz.below [Ol] {K:Nat} {w w':World} {ao:Option Addr} {n cap:Nat} {p:List Term} (h:Pz K w ao n cap p) (hb:Below w.heap.size w w'):Pz K w' ao n cap p:=by
 obtain⟨aW,h1,h2⟩:=h.ex;exact⟨aW,h1.below hb,h2.imp fun v a h=>h.below hb⟩
theorem Pz.mono [Ol] {K L:Nat} {w:World} {ao:Option Addr} {n cap:Nat} {p:List Term} (h:Pz K w ao n cap p) (hk:K<=L):Pz L w ao n cap p:=by
 obtain⟨aW,h1,h2⟩:=h.ex;exact⟨aW,h1,h2.imp fun v a h=>h.mono hk⟩
theorem Pz.zero [Ol] (K:Nat) (w:World):Pz K w none 0 0 []:=⟨[],Gl.zero 3 w,trivial⟩
def kK [Ol] (K:Nat) (w:World) (p:List Term) (e:Ending) (w':World):Prop:=∃ao n cap,e= .returned (.slice ao n cap)/\ Pz K w' ao n cap p/\ Below w.heap.size w w'
theorem Tryz.NP:(Tryz.prog.info? 82).map (fun i=>(i.zero,i.size,i.bytes))=some (some (.agg #[.bool false,.slice none 0 0,.slice none 0 0]),3,56):=by kernel_rfl
theorem oH (c:Int) (m:List (Int×Int)):∀(p:List Term) (k:Nat),k<=p.length->(∀t,t<k->0<gN (p.getD t (0,[])).2 m)->
  fC p c m=p.take k++fC (p.drop k) c m
 | _,0,_,_=>by simp
 |t::r,k+1,hk,h=>by
  have h0:0<gN t.2 m:=by simpa using h 0 (by omega)
  have ih:=oH c m r k (by simpa using hk) (fun j hj=>by simpa using h (j+1) (by omega));rw[List.take_succ_cons,List.drop_succ_cons,List.cons_append,<-ih]
  conv=>lhs;unfold fC
  rw[if_pos h0]
 |[],k+1,hk,_=>by simp at hk
open Lib (hid)
theorem Q7 [Ol] {w:World} {b:Nat} {vs:List Value} {T:TypeId} {m:Bool} {ao:Option Addr} {n cap:Nat} {z:Int} (hb:aN w b vs T) (h:Zd w m ao n cap z) (u v:Value) (hv:∀x∈vs,aX x=true):Zd ((w.setCell ⟨b,0,none⟩ u).setCell ⟨b,1,none⟩ v) m ao n cap z:=by
 have hcl:bV w b:=fun cur T fr hh=>by
  unfold aN at hb;rw[hb]at hh;cases hh;exact hv
 refine⟨h.neg,h.sl.len,h.sl.le,h.sl.big,h.sl.wf,h.sl.nil,fun ad had t ht=>?_,fun h0 ad had=>?_⟩
 rotate_left
 ·obtain⟨x,hx⟩:=h.sl.int h0 had;have hne:=hcl.far hx;exact(h.sl.kp h0 ad had).keep ((Below.heap_setCell _ _ _ _ hne).trans (Below.heap_setCell _ _ _ _ hne))
 have hc:=h.sl.cells ad had t ht;have hne:=hcl.far hc;exact(World.cell?_of_block ((Below.heap_setCell _ _ _ _ hne).trans (Below.heap_setCell _ _ _ _ hne))).trans hc
theorem wT [Ol] {K:Nat} {ao zo mo:Option Addr} {n cap zn zc mn mc:Nat} {mz:Bool} {p:List Term} {c:Int} {m:List (Int×Int)} {w:World} (hp:Pz K w ao n cap p) (hz:Zd w mz zo zn zc c) (hbz:Bd c K) (hm:Ml w mo mn mc m)
  (hf:fall p) (hmm:aJ 0 m=true) (hn:n<=2000000) (hK:K<=9000):
  Calls Tryz.prog 29 #[.slice ao n cap,.agg #[.bool mz,.slice zo zn zc],.slice mo mn mc] w (kK (K+1) w (fC p c m)):=by
 obtain⟨i0,hi,hz0,hz1,hz2⟩:=info_parts Tryz.NP;obtain⟨aW,hG,hT⟩:=hp.ex;have hle:=hG.le;have hbig:=hG.big;have hpl:=hp.len;have HG:=hid hG;have HT:=hid hT;have HZ:=hid hz;have Zt:=hid hbz;have HM:=hid hm;have HF:=hid hf;have NQ:=hid hmm;have wU:=hid hpl;clear hp hz hbz hm hf hmm hG hT hpl;go_enter Tryz.func29,Tryz.ntmps29;go_upto_region 1 with(fail)
 refine au (fun W hW=>?_);have HB:Hid (Below w.heap.size w W):=by rw[hW];exact af _ _
 have HX:Hid (aN W w.heap.size [.bool mz,.slice zo zn zc] 80):=by rw[hW];exact aN.new w [.bool mz,.slice zo zn zc] _
 clear hW;go_wp2;go_loopw [7,8] (fun o i wr=>∃(k cp:Nat) (oo:Option Addr),i= .int .i64 k/\ o= .slice oo k cp/\ k<=n/\ Hid (∀t,t<k->0<gN (p.getD t (0,[])).2 m)/\ Hid (fM w.heap.size 82 3 wr oo k cp (aW.take k)/\ aN wr w.heap.size [.bool mz,.slice zo zn zc] 80/\ Below w.heap.size w wr)) (fun _ i _=>n-(intOf i).toNat)
 case atStart=>exact⟨0,0,none,rfl,rfl,Nat.zero_le _,fun t ht=>by omega,fM.nil _ _ _ _,HX.out,HB.out⟩
 case round=>
  clear HX HB;obtain⟨k,cp,oo,rfl,rfl,hk,HC,HS⟩:=hrel;by_cases hkn:k<n
  ·obtain⟨b,off,rfl,hb,hcl⟩:=HG.out.at (by omega);obtain⟨tm,ta,tn,tc,ba,bn,bc,hv,tz,tb,mR⟩:=bG.get (0,[]) HT.out k (by rw[wU.out];exact hkn);have hmay:aJ 0 (p.getD k (0,[])).2=true:=bM HF.out _ (by simp only[List.getD,List.getElem?_eq_getElem (show k<p.length by rw[wU.out];exact hkn),Option.getD_some];exact List.getElem_mem _)
   have hcells:∀V:World,Below w.heap.size w V->V.cell? ⟨b,off+k*3,none⟩=some (.bool tm)/\ V.cell? ⟨b,off+k*3+1,none⟩=some (.slice ta tn tc)/\ V.cell? ⟨b,off+k*3+2,none⟩=some (.slice ba bn bc):=by
    intro V hV;have h0:=hcl V hV k hkn 0 (by omega);have h1:=hcl V hV k hkn 1 (by omega);have h2:=hcl V hV k hkn 2 (by omega);rw[hv]at h0 h1 h2;exact⟨h0,h1,h2⟩
   have HV:Hid (aW.getD k []=[.bool tm,.slice ta tn tc,.slice ba bn bc]):=hv;have rW:=hid hcells;have Ja:=hid tz;have Jb:=hid tb;have Jc:=hid mR;have DL:=hid hmay;clear hcl hv hcells tz tb mR hmay;obtain⟨z,hz⟩:∃z,z=gN (p.getD k (0,[])).2 m:=⟨_,rfl⟩;have Zu:Hid (pQ z (jv (p.getD k (0,[])).2) (jv m)):=by rw[hz,iT DL.out,iT NQ.out];exact kN DL.out NQ.out
   have NR:=hid hz;clear hz;obtain⟨c0,c1,c2⟩:=rW.out _ HS.out.2.2;go_wp2_with fail;refine(oI (Jc.out.below HS.out.2.2) (HM.out.below HS.out.2.2) z Zu.out).mono ?_;rintro e w2 ⟨rfl,hB⟩;have HS2:Hid (fM w.heap.size 82 3 w2 oo k cp (aW.take k)/\ aN w2 w.heap.size [.bool mz,.slice zo zn zc] 80/\ Below w.heap.size w w2):=⟨HS.out.1.below hB,HS.out.2.1.below hB,Below.steps HS.out.2.2 hB⟩;clear hB HS c0 c1 c2;by_cases g:0<z
   ·have g1:decide (0<z)=true:=decide_eq_true g;have HGZ:=hid g;clear g;obtain⟨c0,c1,c2⟩:=rW.out _ HS2.out.2.2;have hk2:k+1<=2000001:=by omega
    go_wp2_with (at_builtin;refine d9 w2 w rfl (.tmp 23) (.tmp 28) 40 rfl w.heap.size 82 3 56 i0 (.agg #[.bool false,.slice none 0 0,.slice none 0 0]) Tryz.underlying40 hi hz0 hz1 hz2 rfl (by omega) oo k cp (aW.take k) rfl HS2.out.1 [.bool tm,.slice ta tn tc,.slice ba bn bc] rfl (by simp[Value.oneCell']) (by simp[Value.cells,aX]) (by simp[aX]) _ rfl HS2.out.2.2 HS2.out.2.2.size (by omega) (by omega) ?_;intro o2 cp2 w3 hO hB3 hG3;have HO:=hid hO;have HB3:=hid hB3;have Q8:=hid ((HS2.out.2.1.below (af w2 _)).grown (HS2.out.1.below (af w2 _)) (by decide) hG3);clear hO hB3 hG3 c0 c1 c2);go_roundw
    case rel=>
     refine⟨k+1,cp2,o2,by go_num,rfl,by omega,fun t ht=>?_,?_,Q8.out,HB3.out⟩
     ·by_cases h:t<k
      ·exact HC.out t h
      ·obtain rfl:t=k:=by omega
       rw[<-NR.out];exact HGZ.out
     ·have e:aW.take (k+1)=aW.take k++[[.bool tm,.slice ta tn tc,.slice ba bn bc]]:=by
       rw[List.take_succ_eq_append_getElem (by rw[HG.out.len];exact hkn)]
       congr 2
       rw[<-HV.out];simp[List.getD,List.getElem?_eq_getElem (show k<aW.length by rw[HG.out.len];exact hkn)]
      rw[e];exact HO.out
    case measure=>simp[intOf];omega
   ·have g1:decide (0<z)=false:=decide_eq_false g;have HNG:=hid g;clear g;obtain⟨c0,c1,c2⟩:=rW.out _ HS2.out.2.2;go_wp2_with fail;refine(oI (Jc.out.below HS2.out.2.2) (HM.out.below HS2.out.2.2) z Zu.out).mono ?_;rintro e w3 ⟨rfl,hB⟩;have nA:Hid (fM w.heap.size 82 3 w3 oo k cp (aW.take k)/\ aN w3 w.heap.size [.bool mz,.slice zo zn zc] 80/\ Below w.heap.size w w3):=⟨HS2.out.1.below hB,HS2.out.2.1.below hB,Below.steps HS2.out.2.2 hB⟩;clear hB HS2 c0 c1 c2;obtain⟨c0,c1,c2⟩:=rW.out _ nA.out.2.2;by_cases gz:z=0
    ·have HZ0:=hid gz;have g2:(z==0)=true:=by simpa using gz
     clear gz
     have HR:Hid (fC p c m=p.take k++((if c+(p.getD k (0,[])).1=0 then[]else[(c+(p.getD k (0,[])).1,m)])++p.drop (k+1))):=by
      have hl:k<p.length:=by rw[wU.out];exact hkn
      rw[Hid,oH c m p k (by omega) HC.out,List.drop_eq_getElem_cons hl];have e:p.getD k (0,[])=p[k]:=by simp[List.getD,List.getElem?_eq_getElem hl]
      have h1:=NR.out;rw[e]at h1 ⊢;simp only[fC];rw[if_neg (by rw[<-h1];have:=HNG.out;omega),if_pos (by rw[<-h1];exact HZ0.out)];by_cases hc:c+(p[k]).1=0
      ·rw[if_pos hc,if_pos hc];rfl
      ·rw[if_neg hc,if_neg hc];rfl
     clear HC c0 c1 c2;go_upto_region 7 with(fail)
     have hcc:∀V:World,Below w.heap.size w V->V.cell? ⟨b,off+k*3,none⟩=some (.bool tm)/\ V.cell? ⟨b,off+k*3+1,none⟩=some (.slice ta tn tc):=fun V hV=>⟨(rW.out V hV).1,(rW.out V hV).2.1⟩
     have Q9:=hid hcc;clear hcc;refine wp_region_held_drew (S:=fun w'=>w'.cell? ⟨b,off+k*3,none⟩=some (.bool tm)/\ w'.cell? ⟨b,off+k*3+1,none⟩=some (.slice ta tn tc)) (by kernel_rfl) (Q9.out _ nA.out.2.2.drew) (fun hH=>?_);refine ak (fun w4 hW=>?_);have eU:Hid (fM w.heap.size 82 3 w4 oo k cp (aW.take k)/\ aN w4 w.heap.size [.bool mz,.slice zo zn zc] 80/\ Below w.heap.size w w4):=by rw[hW];exact⟨nA.out.1.below (Below.refl _ _).drew,nA.out.2.1.below (Below.refl _ _).drew,nA.out.2.2.drew⟩
     rw[<-hW]at hH;clear hW nA;refine aB 1 hH ?_;try simp only[ai]
     refine aB 2 hH ?_;try simp only[ai]
     refine aB 3 hH ?_;try simp only[ai]
     refine aB 4 hH ?_;try simp only[ai]
     refine aB 5 hH ?_;try simp only[ai]
     refine aj 0 rfl (by kernel_rfl) (fun KK hK=>?_);have x0:=eU.out.2.1.cell 0;have x1:=eU.out.2.1.cell 1;simp only[List.getElem?_cons_zero,List.getElem?_cons_succ]at x0 x1;go_simp;clear x0 x1;clear hH;refine hK.out _ _ (Q9.out _ eU.out.2.2) fun hH=>?_;clear hK KK
     try simp only[ai]
     refine aj 6 rfl (by kernel_rfl) (fun KK hK=>?_);go_simp;refine(NS ((HZ.out.below eU.out.2.2).zx Zt.out (by omega)) ((Ja.out.below eU.out.2.2).zx Jb.out (by omega))).mono ?_;rintro e w5 ⟨rm,ra,rn,rc,rfl,hX,hB⟩;have fT:Hid (fM w.heap.size 82 3 w5 oo k cp (aW.take k)/\ aN w5 w.heap.size [.bool mz,.slice zo zn zc] 80/\ Below w.heap.size w w5):=⟨eU.out.1.below hB,eU.out.2.1.below hB,Below.steps eU.out.2.2 hB⟩;have Gw:=hid hX;clear eU hX hB;go_wp2_with fail;clear hH;refine hK.out _ _ (Q9.out _ fT.out.2.2) fun hH=>?_;clear hK KK
     try simp only[ai]
     refine aj 7 rfl (by kernel_rfl) (fun KK hK=>?_);have x0:=fT.out.2.1.cell 0;have x1:=fT.out.2.1.cell 1;have y0:=fT.out.2.1.fz 0;have y1:=fT.out.2.1.fz 1;simp only[List.getElem?_cons_zero,List.getElem?_cons_succ]at x0 x1;go_simp;clear x0 x1 y0 y1;have mU:Hid (fM w.heap.size 82 3 _ oo k cp (aW.take k)/\ aN _ w.heap.size [.bool rm,.slice ra rn rc] 80/\ Below w.heap.size w _):=⟨(fT.out.1.far fT.out.2.1 (by decide) 0 (.bool rm)).far (fT.out.2.1.set 0 (.bool rm)) (by decide) 1 (.slice ra rn rc),(fT.out.2.1.set 0 (.bool rm)).set 1 (.slice ra rn rc),(fT.out.2.2.setCell (p:=⟨w.heap.size,0,none⟩) (Nat.le_refl _) (.bool rm)).setCell (p:=⟨w.heap.size,1,none⟩) (Nat.le_refl _) (.slice ra rn rc)⟩;have HZ2:=hid (Q7 fT.out.2.1 Gw.out (.bool rm) (.slice ra rn rc) (by simp[aX]));clear fT Gw;refine hK.out _ _ (Q9.out _ mU.out.2.2) (fun h2=>?_);clear hK KK hH h2
     try simp only[ai]
     refine ak (fun w6 hW=>?_);rw[<-hW]at mU HZ2;clear hW;refine wpAnyH_done (by kernel_rfl) ?_ _
     have HB2:Hid (Bd (c+(p.getD k (0,[])).1) (K+1)):=Bd.add Zt.out Jb.out (Nat.le_refl _);obtain⟨cc,hcc⟩:∃cc,cc=c+(p.getD k (0,[])).1:=⟨_,rfl⟩;rw[<-hcc]at HZ2 HR HB2;have hk1:k+1<=n:=by omega
     clear hcc Q9 HZ Zt Jb Ja Zu NR;by_cases hck:cap=k+1
     ·obtain⟨s,hs⟩:∃s,(cc).sign=s:=⟨_,rfl⟩;have mV:=hid hs;clear hs;have x0:=mU.out.2.1.cell 0;have x1:=mU.out.2.1.cell 1;simp only[List.getElem?_cons_zero,List.getElem?_cons_succ]at x0 x1;go_wp2_with fail;refine(nC s (HZ2.out.zx HB2.out (by omega)) mV.out).mono ?_;rintro e w7 ⟨rfl,hB⟩;have dG:Hid (fM w.heap.size 82 3 w7 oo k cp (aW.take k)/\ aN w7 w.heap.size [.bool rm,.slice ra rn rc] 80/\ Below w.heap.size w w7):=⟨mU.out.1.below hB,mU.out.2.1.below hB,Below.steps mU.out.2.2 hB⟩;have Ao:=hid (HZ2.out.below hB);clear hB mU HZ2 x0 x1;by_cases h0:cc=0
      ·obtain rfl:s=0:=by rw[<-mV.out,h0];rfl
       have HR2:Hid (fC p c m=p.take k++p.drop (k+1)):=HR.out.trans (by rw[if_pos h0];rfl);clear h0 HR mV;go_wp2_with (at_builtin;go_must (refine bR w7 w rfl (.tmp 64) (.tmp 67) 40 rfl w.heap.size 82 3 56 i0 (.agg #[.bool false,.slice none 0 0,.slice none 0 0]) Tryz.underlying40 hi hz0 hz1 hz2 rfl (by omega) oo k cp (aW.take k) rfl dG.out.1 (some ⟨b,off,none⟩) _ _ (aW.drop (k+1)) rfl (((HG.out.BQ (k+1) (by omega) hck).below dG.out.2.2).cast (by omega) (by omega)) dG.out.2.2 dG.out.2.2.size (by omega) (by omega) (by simp[Value.cells,aX]) (dP (fun _ _ h=>fI h) (bG.drop HT.out (k+1))) ?_);intro o8 NT w8 hO mq _;have xM:=hid hO;have gX:=hid mq;clear hO mq);go_ret;exact⟨_,_,_,rfl,⟨_,xM.out.gl.cast (by omega) rfl,by rw[HR2.out];exact bG.append (bG.take (bG.imp (fun v a h=>(h.below gX.out).mono (Nat.le_succ K)) HT.out) _) (bG.drop (bG.imp (fun v a h=>(h.below gX.out).mono (Nat.le_succ K)) HT.out) _)⟩,gX.out⟩
      ·have hs0:(s==0)=false:=by rw[<-mV.out];simpa using h0
       have hs1:(s !=0)=true:=by rw[<-mV.out];simpa using h0
       have HR2:Hid (fC p c m=p.take k++([(cc,m)]++p.drop (k+1))):=HR.out.trans (by rw[if_neg h0]);have x0:=dG.out.2.1.cell 0;have x1:=dG.out.2.1.cell 1;simp only[List.getElem?_cons_zero,List.getElem?_cons_succ]at x0 x1;clear h0 HR mV
       go_wp2_with (first
        |(at_builtin;refine d9 w7 w rfl (.tmp 58) (.tmp 62) 40 rfl w.heap.size 82 3 56 i0 (.agg #[.bool false,.slice none 0 0,.slice none 0 0]) Tryz.underlying40 hi hz0 hz1 hz2 rfl (by omega) oo k cp (aW.take k) rfl dG.out.1 [.bool rm,.slice ra rn rc,.slice mo mn mc] rfl (by simp[Value.oneCell']) (by simp[Value.cells,aX]) (by simp[aX]) _ rfl dG.out.2.2 dG.out.2.2.size (by omega) (by omega) ?_;intro o9 NU w9 hO DN DR;have DT:=hid hO;have sF:=hid DN;have NV:=hid ((Ao.out.below (af w7 _)).stays (dG.out.1.below (af w7 _)) DR);clear hO DN DR x0 x1)
        |(at_builtin;refine bR w9 w rfl (.tmp 64) (.tmp 67) 40 rfl w.heap.size 82 3 56 i0 (.agg #[.bool false,.slice none 0 0,.slice none 0 0]) Tryz.underlying40 hi hz0 hz1 hz2 rfl (by omega) o9 _ NU (aW.take k++[[.bool rm,.slice ra rn rc,.slice mo mn mc]]) rfl DT.out (some ⟨b,off,none⟩) _ _ (aW.drop (k+1)) rfl (((HG.out.BQ (k+1) (by omega) hck).below sF.out).cast (by omega) (by omega)) sF.out sF.out.size (by omega) (by omega) (by simp[Value.cells,aX]) (dP (fun _ _ h=>fI h) (bG.drop HT.out (k+1))) ?_;intro o8 NT w8 hO mq sS;have xM:=hid hO;have gX:=hid mq;have NW:=hid (NV.out.stays DT.out sS);clear hO mq sS))
       go_ret;refine⟨_,_,_,rfl,⟨_,xM.out.gl.cast (by omega) rfl,?_⟩,gX.out⟩;rw[HR2.out,List.append_assoc];exact bG.append (bG.take (bG.imp (fun v a h=>(h.below gX.out).mono (Nat.le_succ K)) HT.out) _) (bG.append ⟨⟨_,_,_,_,_,_,_,rfl,NW.out,HB2.out,HM.out.below gX.out⟩,trivial⟩ (bG.drop (bG.imp (fun v a h=>(h.below gX.out).mono (Nat.le_succ K)) HT.out) _))
     ·obtain⟨s,hs⟩:∃s,(cc).sign=s:=⟨_,rfl⟩;have mV:=hid hs;clear hs;have x0:=mU.out.2.1.cell 0;have x1:=mU.out.2.1.cell 1;simp only[List.getElem?_cons_zero,List.getElem?_cons_succ]at x0 x1;go_wp2_with fail;refine(nC s (HZ2.out.zx HB2.out (by omega)) mV.out).mono ?_;rintro e w7 ⟨rfl,hB⟩;have dG:Hid (fM w.heap.size 82 3 w7 oo k cp (aW.take k)/\ aN w7 w.heap.size [.bool rm,.slice ra rn rc] 80/\ Below w.heap.size w w7):=⟨mU.out.1.below hB,mU.out.2.1.below hB,Below.steps mU.out.2.2 hB⟩;have Ao:=hid (HZ2.out.below hB);clear hB mU HZ2 x0 x1;by_cases h0:cc=0
      ·obtain rfl:s=0:=by rw[<-mV.out,h0];rfl
       have HR2:Hid (fC p c m=p.take k++p.drop (k+1)):=HR.out.trans (by rw[if_pos h0];rfl);clear h0 HR mV;go_wp2_with (at_builtin;go_must (refine bR w7 w rfl (.tmp 64) (.tmp 67) 40 rfl w.heap.size 82 3 56 i0 (.agg #[.bool false,.slice none 0 0,.slice none 0 0]) Tryz.underlying40 hi hz0 hz1 hz2 rfl (by omega) oo k cp (aW.take k) rfl dG.out.1 (some ⟨b,off+(k+1)*3,none⟩) _ _ (aW.drop (k+1)) rfl (((HG.out.uP (k+1) (by omega) hck).below dG.out.2.2).cast (by omega) (by omega)) dG.out.2.2 dG.out.2.2.size (by omega) (by omega) (by simp[Value.cells,aX]) (dP (fun _ _ h=>fI h) (bG.drop HT.out (k+1))) ?_);intro o8 NT w8 hO mq _;have xM:=hid hO;have gX:=hid mq;clear hO mq);go_ret;exact⟨_,_,_,rfl,⟨_,xM.out.gl.cast (by omega) rfl,by rw[HR2.out];exact bG.append (bG.take (bG.imp (fun v a h=>(h.below gX.out).mono (Nat.le_succ K)) HT.out) _) (bG.drop (bG.imp (fun v a h=>(h.below gX.out).mono (Nat.le_succ K)) HT.out) _)⟩,gX.out⟩
      ·have hs0:(s==0)=false:=by rw[<-mV.out];simpa using h0
       have hs1:(s !=0)=true:=by rw[<-mV.out];simpa using h0
       have HR2:Hid (fC p c m=p.take k++([(cc,m)]++p.drop (k+1))):=HR.out.trans (by rw[if_neg h0]);have x0:=dG.out.2.1.cell 0;have x1:=dG.out.2.1.cell 1;simp only[List.getElem?_cons_zero,List.getElem?_cons_succ]at x0 x1;clear h0 HR mV
       go_wp2_with (first
        |(at_builtin;refine d9 w7 w rfl (.tmp 58) (.tmp 62) 40 rfl w.heap.size 82 3 56 i0 (.agg #[.bool false,.slice none 0 0,.slice none 0 0]) Tryz.underlying40 hi hz0 hz1 hz2 rfl (by omega) oo k cp (aW.take k) rfl dG.out.1 [.bool rm,.slice ra rn rc,.slice mo mn mc] rfl (by simp[Value.oneCell']) (by simp[Value.cells,aX]) (by simp[aX]) _ rfl dG.out.2.2 dG.out.2.2.size (by omega) (by omega) ?_;intro o9 NU w9 hO DN DR;have DT:=hid hO;have sF:=hid DN;have NV:=hid ((Ao.out.below (af w7 _)).stays (dG.out.1.below (af w7 _)) DR);clear hO DN DR x0 x1)
        |(at_builtin;refine bR w9 w rfl (.tmp 64) (.tmp 67) 40 rfl w.heap.size 82 3 56 i0 (.agg #[.bool false,.slice none 0 0,.slice none 0 0]) Tryz.underlying40 hi hz0 hz1 hz2 rfl (by omega) o9 _ NU (aW.take k++[[.bool rm,.slice ra rn rc,.slice mo mn mc]]) rfl DT.out (some ⟨b,off+(k+1)*3,none⟩) _ _ (aW.drop (k+1)) rfl (((HG.out.uP (k+1) (by omega) hck).below sF.out).cast (by omega) (by omega)) sF.out sF.out.size (by omega) (by omega) (by simp[Value.cells,aX]) (dP (fun _ _ h=>fI h) (bG.drop HT.out (k+1))) ?_;intro o8 NT w8 hO mq sS;have xM:=hid hO;have gX:=hid mq;have NW:=hid (NV.out.stays DT.out sS);clear hO mq sS))
       go_ret;refine⟨_,_,_,rfl,⟨_,xM.out.gl.cast (by omega) rfl,?_⟩,gX.out⟩;rw[HR2.out,List.append_assoc];exact bG.append (bG.take (bG.imp (fun v a h=>(h.below gX.out).mono (Nat.le_succ K)) HT.out) _) (bG.append ⟨⟨_,_,_,_,_,_,_,rfl,NW.out,HB2.out,HM.out.below gX.out⟩,trivial⟩ (bG.drop (bG.imp (fun v a h=>(h.below gX.out).mono (Nat.le_succ K)) HT.out) _))
    ·have HN0:=hid gz;have g2:(z==0)=false:=by simpa using gz
     clear gz
     have HR:Hid (fC p c m=p.take k++((if c=0 then[]else[(c,m)])++p.drop k)):=by
      have hl:k<p.length:=by rw[wU.out];exact hkn
      rw[Hid,oH c m p k (by omega) HC.out,List.drop_eq_getElem_cons hl];have e:p.getD k (0,[])=p[k]:=by simp[List.getD,List.getElem?_eq_getElem hl]
      have h1:=NR.out;rw[e]at h1;simp only[fC];rw[if_neg (by rw[<-h1];have:=HNG.out;omega),if_neg (by rw[<-h1];exact HN0.out)];by_cases hc:c=0
      ·rw[if_pos hc,if_pos hc];rfl
      ·rw[if_neg hc,if_neg hc];rfl
     have mU:=nA;have HZ2:=hid (HZ.out.below nA.out.2.2);have HB2:=hid (Zt.out.mono (Nat.le_succ K));clear HC nA HZ c0 c1 c2;have hck:cap≠k:=by omega
     obtain⟨s,hs⟩:∃s,(c).sign=s:=⟨_,rfl⟩;have mV:=hid hs;clear hs;have x0:=mU.out.2.1.cell 0;have x1:=mU.out.2.1.cell 1;simp only[List.getElem?_cons_zero,List.getElem?_cons_succ]at x0 x1;go_wp2_with fail;refine(nC s (HZ2.out.zx HB2.out (by omega)) mV.out).mono ?_;rintro e w7 ⟨rfl,hB⟩;have dG:Hid (fM w.heap.size 82 3 w7 oo k cp (aW.take k)/\ aN w7 w.heap.size [.bool mz,.slice zo zn zc] 80/\ Below w.heap.size w w7):=⟨mU.out.1.below hB,mU.out.2.1.below hB,Below.steps mU.out.2.2 hB⟩;have Ao:=hid (HZ2.out.below hB);clear hB mU HZ2 x0 x1;by_cases h0:c=0
     ·obtain rfl:s=0:=by rw[<-mV.out,h0];rfl
      have HR2:Hid (fC p c m=p.take k++p.drop k):=HR.out.trans (by rw[if_pos h0];rfl);clear h0 HR mV;go_wp2_with (at_builtin;go_must (refine bR w7 w rfl (.tmp 64) (.tmp 67) 40 rfl w.heap.size 82 3 56 i0 (.agg #[.bool false,.slice none 0 0,.slice none 0 0]) Tryz.underlying40 hi hz0 hz1 hz2 rfl (by omega) oo k cp (aW.take k) rfl dG.out.1 (some ⟨b,off+k*3,none⟩) _ _ (aW.drop k) rfl (((HG.out.uP k (by omega) hck).below dG.out.2.2).cast (by omega) (by omega)) dG.out.2.2 dG.out.2.2.size (by omega) (by omega) (by simp[Value.cells,aX]) (dP (fun _ _ h=>fI h) (bG.drop HT.out k)) ?_);intro o8 NT w8 hO mq _;have xM:=hid hO;have gX:=hid mq;clear hO mq);go_ret;exact⟨_,_,_,rfl,⟨_,xM.out.gl.cast (by omega) rfl,by rw[HR2.out];exact bG.append (bG.take (bG.imp (fun v a h=>(h.below gX.out).mono (Nat.le_succ K)) HT.out) _) (bG.drop (bG.imp (fun v a h=>(h.below gX.out).mono (Nat.le_succ K)) HT.out) _)⟩,gX.out⟩
     ·have hs0:(s==0)=false:=by rw[<-mV.out];simpa using h0
      have hs1:(s !=0)=true:=by rw[<-mV.out];simpa using h0
      have HR2:Hid (fC p c m=p.take k++([(c,m)]++p.drop k)):=HR.out.trans (by rw[if_neg h0]);have x0:=dG.out.2.1.cell 0;have x1:=dG.out.2.1.cell 1;simp only[List.getElem?_cons_zero,List.getElem?_cons_succ]at x0 x1;clear h0 HR mV
      go_wp2_with (first
       |(at_builtin;refine d9 w7 w rfl (.tmp 58) (.tmp 62) 40 rfl w.heap.size 82 3 56 i0 (.agg #[.bool false,.slice none 0 0,.slice none 0 0]) Tryz.underlying40 hi hz0 hz1 hz2 rfl (by omega) oo k cp (aW.take k) rfl dG.out.1 [.bool mz,.slice zo zn zc,.slice mo mn mc] rfl (by simp[Value.oneCell']) (by simp[Value.cells,aX]) (by simp[aX]) _ rfl dG.out.2.2 dG.out.2.2.size (by omega) (by omega) ?_;intro o9 NU w9 hO DN DR;have DT:=hid hO;have sF:=hid DN;have NV:=hid ((Ao.out.below (af w7 _)).stays (dG.out.1.below (af w7 _)) DR);clear hO DN DR x0 x1)
       |(at_builtin;refine bR w9 w rfl (.tmp 64) (.tmp 67) 40 rfl w.heap.size 82 3 56 i0 (.agg #[.bool false,.slice none 0 0,.slice none 0 0]) Tryz.underlying40 hi hz0 hz1 hz2 rfl (by omega) o9 _ NU (aW.take k++[[.bool mz,.slice zo zn zc,.slice mo mn mc]]) rfl DT.out (some ⟨b,off+k*3,none⟩) _ _ (aW.drop k) rfl (((HG.out.uP k (by omega) hck).below sF.out).cast (by omega) (by omega)) sF.out sF.out.size (by omega) (by omega) (by simp[Value.cells,aX]) (dP (fun _ _ h=>fI h) (bG.drop HT.out k)) ?_;intro o8 NT w8 hO mq sS;have xM:=hid hO;have gX:=hid mq;have NW:=hid (NV.out.stays DT.out sS);clear hO mq sS))
      go_ret;refine⟨_,_,_,rfl,⟨_,xM.out.gl.cast (by omega) rfl,?_⟩,gX.out⟩;rw[HR2.out,List.append_assoc];exact bG.append (bG.take (bG.imp (fun v a h=>(h.below gX.out).mono (Nat.le_succ K)) HT.out) _) (bG.append ⟨⟨_,_,_,_,_,_,_,rfl,NW.out,HB2.out,HM.out.below gX.out⟩,trivial⟩ (bG.drop (bG.imp (fun v a h=>(h.below gX.out).mono (Nat.le_succ K)) HT.out) _))
  ·obtain rfl:k=n:=by omega
   have HR:Hid (fC p c m=p.take k++((if c=0 then[]else[(c,m)])++p.drop k)):=by
    rw[Hid,oH c m p k (by rw[wU.out];exact Nat.le_refl _) HC.out,List.drop_eq_nil_of_le (by rw[wU.out];exact Nat.le_refl _)];simp[fC]
   have mU:=HS;have HZ2:=hid (HZ.out.below HS.out.2.2);have HB2:=hid (Zt.out.mono (Nat.le_succ K));clear HC HS HZ;cases ao with
   |none=>
    obtain rfl:cap=0:=HG.out.nil rfl;obtain rfl:k=0:=by omega
    obtain⟨s,hs⟩:∃s,(c).sign=s:=⟨_,rfl⟩;have mV:=hid hs;clear hs;have x0:=mU.out.2.1.cell 0;have x1:=mU.out.2.1.cell 1;simp only[List.getElem?_cons_zero,List.getElem?_cons_succ]at x0 x1;go_wp2_with fail;refine(nC s (HZ2.out.zx HB2.out (by omega)) mV.out).mono ?_;rintro e w7 ⟨rfl,hB⟩;have dG:Hid (fM w.heap.size 82 3 w7 oo 0 cp (aW.take 0)/\ aN w7 w.heap.size [.bool mz,.slice zo zn zc] 80/\ Below w.heap.size w w7):=⟨mU.out.1.below hB,mU.out.2.1.below hB,Below.steps mU.out.2.2 hB⟩;have Ao:=hid (HZ2.out.below hB);clear hB mU HZ2 x0 x1;by_cases h0:c=0
    ·obtain rfl:s=0:=by rw[<-mV.out,h0];rfl
     have HR2:Hid (fC p c m=p.take 0++p.drop 0):=HR.out.trans (by rw[if_pos h0];rfl);clear h0 HR mV;go_wp2_with (at_builtin;go_must (refine bR w7 w rfl (.tmp 64) (.tmp 67) 40 rfl w.heap.size 82 3 56 i0 (.agg #[.bool false,.slice none 0 0,.slice none 0 0]) Tryz.underlying40 hi hz0 hz1 hz2 rfl (by omega) oo 0 cp (aW.take 0) rfl dG.out.1 none _ _ [] rfl ((Gl.zero 3 _).cast (by omega) (by omega)) dG.out.2.2 dG.out.2.2.size (by omega) (by omega) (by simp[Value.cells,aX]) (by simp) ?_);intro o8 NT w8 hO mq _;have xM:=hid hO;have gX:=hid mq;clear hO mq);go_ret;exact⟨_,_,_,rfl,⟨_,xM.out.gl.cast (by omega) rfl,by rw[HR2.out];exact bG.append (bG.take (bG.imp (fun v a h=>(h.below gX.out).mono (Nat.le_succ K)) HT.out) _) (by simp[List.drop_eq_nil_of_le,wU.out,bG])⟩,gX.out⟩
    ·have hs0:(s==0)=false:=by rw[<-mV.out];simpa using h0
     have hs1:(s !=0)=true:=by rw[<-mV.out];simpa using h0
     have HR2:Hid (fC p c m=p.take 0++([(c,m)]++p.drop 0)):=HR.out.trans (by rw[if_neg h0]);have x0:=dG.out.2.1.cell 0;have x1:=dG.out.2.1.cell 1;simp only[List.getElem?_cons_zero,List.getElem?_cons_succ]at x0 x1;clear h0 HR mV
     go_wp2_with (first
      |(at_builtin;refine d9 w7 w rfl (.tmp 58) (.tmp 62) 40 rfl w.heap.size 82 3 56 i0 (.agg #[.bool false,.slice none 0 0,.slice none 0 0]) Tryz.underlying40 hi hz0 hz1 hz2 rfl (by omega) oo 0 cp (aW.take 0) rfl dG.out.1 [.bool mz,.slice zo zn zc,.slice mo mn mc] rfl (by simp[Value.oneCell']) (by simp[Value.cells,aX]) (by simp[aX]) _ rfl dG.out.2.2 dG.out.2.2.size (by omega) (by omega) ?_;intro o9 NU w9 hO DN DR;have DT:=hid hO;have sF:=hid DN;have NV:=hid ((Ao.out.below (af w7 _)).stays (dG.out.1.below (af w7 _)) DR);clear hO DN DR x0 x1)
      |(at_builtin;refine bR w9 w rfl (.tmp 64) (.tmp 67) 40 rfl w.heap.size 82 3 56 i0 (.agg #[.bool false,.slice none 0 0,.slice none 0 0]) Tryz.underlying40 hi hz0 hz1 hz2 rfl (by omega) o9 _ NU (aW.take 0++[[.bool mz,.slice zo zn zc,.slice mo mn mc]]) rfl DT.out none _ _ [] rfl ((Gl.zero 3 _).cast (by omega) (by omega)) sF.out sF.out.size (by omega) (by omega) (by simp[Value.cells,aX]) (by simp) ?_;intro o8 NT w8 hO mq sS;have xM:=hid hO;have gX:=hid mq;have NW:=hid (NV.out.stays DT.out sS);clear hO mq sS))
     go_ret;refine⟨_,_,_,rfl,⟨_,xM.out.gl.cast (by omega) rfl,?_⟩,gX.out⟩;rw[HR2.out,List.append_assoc];exact bG.append (bG.take (bG.imp (fun v a h=>(h.below gX.out).mono (Nat.le_succ K)) HT.out) _) (bG.append ⟨⟨_,_,_,_,_,_,_,rfl,NW.out,HB2.out,HM.out.below gX.out⟩,trivial⟩ (by simp[List.drop_eq_nil_of_le,wU.out,bG]))
   |some ad=>
    obtain⟨b,off,sp⟩:=ad;by_cases hck:cap=k
    ·obtain⟨s,hs⟩:∃s,(c).sign=s:=⟨_,rfl⟩;have mV:=hid hs;clear hs;have x0:=mU.out.2.1.cell 0;have x1:=mU.out.2.1.cell 1;simp only[List.getElem?_cons_zero,List.getElem?_cons_succ]at x0 x1;go_wp2_with fail;refine(nC s (HZ2.out.zx HB2.out (by omega)) mV.out).mono ?_;rintro e w7 ⟨rfl,hB⟩;have dG:Hid (fM w.heap.size 82 3 w7 oo k cp (aW.take k)/\ aN w7 w.heap.size [.bool mz,.slice zo zn zc] 80/\ Below w.heap.size w w7):=⟨mU.out.1.below hB,mU.out.2.1.below hB,Below.steps mU.out.2.2 hB⟩;have Ao:=hid (HZ2.out.below hB);clear hB mU HZ2 x0 x1;by_cases h0:c=0
     ·obtain rfl:s=0:=by rw[<-mV.out,h0];rfl
      have HR2:Hid (fC p c m=p.take k++p.drop k):=HR.out.trans (by rw[if_pos h0];rfl);clear h0 HR mV;go_wp2_with (at_builtin;go_must (refine bR w7 w rfl (.tmp 64) (.tmp 67) 40 rfl w.heap.size 82 3 56 i0 (.agg #[.bool false,.slice none 0 0,.slice none 0 0]) Tryz.underlying40 hi hz0 hz1 hz2 rfl (by omega) oo k cp (aW.take k) rfl dG.out.1 (some ⟨b,off,sp⟩) _ _ (aW.drop k) rfl (((HG.out.BQ k (by omega) hck).below dG.out.2.2).cast (by omega) (by omega)) dG.out.2.2 dG.out.2.2.size (by omega) (by omega) (by simp[Value.cells,aX]) (dP (fun _ _ h=>fI h) (bG.drop HT.out k)) ?_);intro o8 NT w8 hO mq _;have xM:=hid hO;have gX:=hid mq;clear hO mq);go_ret;exact⟨_,_,_,rfl,⟨_,xM.out.gl.cast (by omega) rfl,by rw[HR2.out];exact bG.append (bG.take (bG.imp (fun v a h=>(h.below gX.out).mono (Nat.le_succ K)) HT.out) _) (bG.drop (bG.imp (fun v a h=>(h.below gX.out).mono (Nat.le_succ K)) HT.out) _)⟩,gX.out⟩
     ·have hs0:(s==0)=false:=by rw[<-mV.out];simpa using h0
      have hs1:(s !=0)=true:=by rw[<-mV.out];simpa using h0
      have HR2:Hid (fC p c m=p.take k++([(c,m)]++p.drop k)):=HR.out.trans (by rw[if_neg h0]);have x0:=dG.out.2.1.cell 0;have x1:=dG.out.2.1.cell 1;simp only[List.getElem?_cons_zero,List.getElem?_cons_succ]at x0 x1;clear h0 HR mV
      go_wp2_with (first
       |(at_builtin;refine d9 w7 w rfl (.tmp 58) (.tmp 62) 40 rfl w.heap.size 82 3 56 i0 (.agg #[.bool false,.slice none 0 0,.slice none 0 0]) Tryz.underlying40 hi hz0 hz1 hz2 rfl (by omega) oo k cp (aW.take k) rfl dG.out.1 [.bool mz,.slice zo zn zc,.slice mo mn mc] rfl (by simp[Value.oneCell']) (by simp[Value.cells,aX]) (by simp[aX]) _ rfl dG.out.2.2 dG.out.2.2.size (by omega) (by omega) ?_;intro o9 NU w9 hO DN DR;have DT:=hid hO;have sF:=hid DN;have NV:=hid ((Ao.out.below (af w7 _)).stays (dG.out.1.below (af w7 _)) DR);clear hO DN DR x0 x1)
       |(at_builtin;refine bR w9 w rfl (.tmp 64) (.tmp 67) 40 rfl w.heap.size 82 3 56 i0 (.agg #[.bool false,.slice none 0 0,.slice none 0 0]) Tryz.underlying40 hi hz0 hz1 hz2 rfl (by omega) o9 _ NU (aW.take k++[[.bool mz,.slice zo zn zc,.slice mo mn mc]]) rfl DT.out (some ⟨b,off,sp⟩) _ _ (aW.drop k) rfl (((HG.out.BQ k (by omega) hck).below sF.out).cast (by omega) (by omega)) sF.out sF.out.size (by omega) (by omega) (by simp[Value.cells,aX]) (dP (fun _ _ h=>fI h) (bG.drop HT.out k)) ?_;intro o8 NT w8 hO mq sS;have xM:=hid hO;have gX:=hid mq;have NW:=hid (NV.out.stays DT.out sS);clear hO mq sS))
      go_ret;refine⟨_,_,_,rfl,⟨_,xM.out.gl.cast (by omega) rfl,?_⟩,gX.out⟩;rw[HR2.out,List.append_assoc];exact bG.append (bG.take (bG.imp (fun v a h=>(h.below gX.out).mono (Nat.le_succ K)) HT.out) _) (bG.append ⟨⟨_,_,_,_,_,_,_,rfl,NW.out,HB2.out,HM.out.below gX.out⟩,trivial⟩ (bG.drop (bG.imp (fun v a h=>(h.below gX.out).mono (Nat.le_succ K)) HT.out) _))
    ·obtain rfl:sp=none:=HG.out.spot _ rfl (by omega);obtain⟨s,hs⟩:∃s,(c).sign=s:=⟨_,rfl⟩;have mV:=hid hs;clear hs;have x0:=mU.out.2.1.cell 0;have x1:=mU.out.2.1.cell 1;simp only[List.getElem?_cons_zero,List.getElem?_cons_succ]at x0 x1;go_wp2_with fail;refine(nC s (HZ2.out.zx HB2.out (by omega)) mV.out).mono ?_;rintro e w7 ⟨rfl,hB⟩;have dG:Hid (fM w.heap.size 82 3 w7 oo k cp (aW.take k)/\ aN w7 w.heap.size [.bool mz,.slice zo zn zc] 80/\ Below w.heap.size w w7):=⟨mU.out.1.below hB,mU.out.2.1.below hB,Below.steps mU.out.2.2 hB⟩;have Ao:=hid (HZ2.out.below hB);clear hB mU HZ2 x0 x1;by_cases h0:c=0
     ·obtain rfl:s=0:=by rw[<-mV.out,h0];rfl
      have HR2:Hid (fC p c m=p.take k++p.drop k):=HR.out.trans (by rw[if_pos h0];rfl);clear h0 HR mV;go_wp2_with (at_builtin;go_must (refine bR w7 w rfl (.tmp 64) (.tmp 67) 40 rfl w.heap.size 82 3 56 i0 (.agg #[.bool false,.slice none 0 0,.slice none 0 0]) Tryz.underlying40 hi hz0 hz1 hz2 rfl (by omega) oo k cp (aW.take k) rfl dG.out.1 (some ⟨b,off+k*3,none⟩) _ _ (aW.drop k) rfl (((HG.out.uP k (by omega) hck).below dG.out.2.2).cast (by omega) (by omega)) dG.out.2.2 dG.out.2.2.size (by omega) (by omega) (by simp[Value.cells,aX]) (dP (fun _ _ h=>fI h) (bG.drop HT.out k)) ?_);intro o8 NT w8 hO mq _;have xM:=hid hO;have gX:=hid mq;clear hO mq);go_ret;exact⟨_,_,_,rfl,⟨_,xM.out.gl.cast (by omega) rfl,by rw[HR2.out];exact bG.append (bG.take (bG.imp (fun v a h=>(h.below gX.out).mono (Nat.le_succ K)) HT.out) _) (bG.drop (bG.imp (fun v a h=>(h.below gX.out).mono (Nat.le_succ K)) HT.out) _)⟩,gX.out⟩
     ·have hs0:(s==0)=false:=by rw[<-mV.out];simpa using h0
      have hs1:(s !=0)=true:=by rw[<-mV.out];simpa using h0
      have HR2:Hid (fC p c m=p.take k++([(c,m)]++p.drop k)):=HR.out.trans (by rw[if_neg h0]);have x0:=dG.out.2.1.cell 0;have x1:=dG.out.2.1.cell 1;simp only[List.getElem?_cons_zero,List.getElem?_cons_succ]at x0 x1;clear h0 HR mV
      go_wp2_with (first
       |(at_builtin;refine d9 w7 w rfl (.tmp 58) (.tmp 62) 40 rfl w.heap.size 82 3 56 i0 (.agg #[.bool false,.slice none 0 0,.slice none 0 0]) Tryz.underlying40 hi hz0 hz1 hz2 rfl (by omega) oo k cp (aW.take k) rfl dG.out.1 [.bool mz,.slice zo zn zc,.slice mo mn mc] rfl (by simp[Value.oneCell']) (by simp[Value.cells,aX]) (by simp[aX]) _ rfl dG.out.2.2 dG.out.2.2.size (by omega) (by omega) ?_;intro o9 NU w9 hO DN DR;have DT:=hid hO;have sF:=hid DN;have NV:=hid ((Ao.out.below (af w7 _)).stays (dG.out.1.below (af w7 _)) DR);clear hO DN DR x0 x1)
       |(at_builtin;refine bR w9 w rfl (.tmp 64) (.tmp 67) 40 rfl w.heap.size 82 3 56 i0 (.agg #[.bool false,.slice none 0 0,.slice none 0 0]) Tryz.underlying40 hi hz0 hz1 hz2 rfl (by omega) o9 _ NU (aW.take k++[[.bool mz,.slice zo zn zc,.slice mo mn mc]]) rfl DT.out (some ⟨b,off+k*3,none⟩) _ _ (aW.drop k) rfl (((HG.out.uP k (by omega) hck).below sF.out).cast (by omega) (by omega)) sF.out sF.out.size (by omega) (by omega) (by simp[Value.cells,aX]) (dP (fun _ _ h=>fI h) (bG.drop HT.out k)) ?_;intro o8 NT w8 hO mq sS;have xM:=hid hO;have gX:=hid mq;have NW:=hid (NV.out.stays DT.out sS);clear hO mq sS))
      go_ret;refine⟨_,_,_,rfl,⟨_,xM.out.gl.cast (by omega) rfl,?_⟩,gX.out⟩;rw[HR2.out,List.append_assoc];exact bG.append (bG.take (bG.imp (fun v a h=>(h.below gX.out).mono (Nat.le_succ K)) HT.out) _) (bG.append ⟨⟨_,_,_,_,_,_,_,rfl,NW.out,HB2.out,HM.out.below gX.out⟩,trivial⟩ (bG.drop (bG.imp (fun v a h=>(h.below gX.out).mono (Nat.le_succ K)) HT.out) _))
open Lib (hid)
theorem vU (c:Int) (m:List (Int×Int)):∀p:List Term,(fC p c m).length<=p.length+1
 |[]=>by unfold fC;split<;>simp
 |t::r=>by
  have ih:=vU c m r;unfold fC;split
  ·simp;omega
  ·split
   ·split<;>simp<;>omega
   ·split<;>simp
theorem mr (p:List Term):∀q:List Term,(fD p q).length<=p.length+q.length:=by
 intro q;induction q generalizing p with
 |nil=>simp[fD]
 |cons t r ih=>
  have h:=ih (fC p t.1 t.2);have h2:=vU t.1 t.2 p;show(fD (fC p t.1 t.2) r).length<=_;simp only[List.length_cons];omega
theorem xN [Ol] {K K':Nat} {w:World}:∀{X:List (List Value)} {p:List Term},bG (Dl K' w) X p->(∀t∈p,Bd t.1 K)->bG (Dl K w) X p
 |[],[],_,_=>trivial
 | _::_,_::_,h,hb=>by
  obtain⟨m,ao,n,cap,bo,k,cb,h1,h2,_,h4⟩:=h.1;exact⟨⟨m,ao,n,cap,bo,k,cb,h1,h2,hb _ (by simp),h4⟩,xN h.2 fun t ht=>hb t (by simp[ht])⟩
 |[],_::_,h,_=>h.elim
 | _::_,[],h,_=>h.elim
theorem Pz.lower [Ol] {K K':Nat} {w:World} {ao:Option Addr} {n cap:Nat} {p:List Term} (h:Pz K' w ao n cap p) (hb:∀t∈p,Bd t.1 K):Pz K w ao n cap p:=by
 obtain⟨X,h1,h2⟩:=h.ex;exact⟨X,h1,xN h2 hb⟩
theorem Pz.next [Ol] {K K':Nat} {w:World} {ao:Option Addr} {n cap:Nat} {p:List Term} (h:Pz K' w ao n cap p) (hs:K'<=K∨ ∀t∈p,Bd t.1 K):Pz K w ao n cap p:=hs.elim h.mono h.lower
theorem tC [Ol] {K:Nat} {bd:Nat->Nat} {ao bo:Option Addr} {n cap l cb:Nat} {p q:List Term} {w:World} (hp:Pz (bd 0) w ao n cap p) (hq:Pz K w bo l cb q) (hf:fall p) (hm:dX q) (hn:n+l<=2000000) (hK:∀k,k<=l->K<=bd k/\ bd k<=9000) (hs:∀k,k<l->bd k+1<=bd (k+1)∨ ∀t∈fD p (q.take (k+1)),Bd t.1 (bd (k+1))):
  Calls Tryz.prog 19 #[.slice ao n cap,.slice bo l cb] w (kK (bd l) w (fD p q)):=by
 have qb:=hid hK;have Vd:=hid hs;clear hK hs;obtain⟨aW,hG,hT⟩:=hq.ex;have hle:=hG.le;have hbig:=hG.big;have hpl:=hp.len;have NY:=hq.len;have HP:=hid hp;have HG:=hid hG;have HT:=hid hT;have HF:=hid hf;have NQ:=hid hm;have wU:=hid hpl;have Gc:=hid NY;clear hp hq hf hm hG hT hpl NY;go_enter Tryz.func19,Tryz.ntmps19;go_wp2;go_loopw [5,6] (fun o i wr=>∃(k n2 c2:Nat) (oo:Option Addr),i= .int .i64 k/\ o= .slice oo n2 c2/\ k<=l/\ Hid (Pz (bd k) wr oo n2 c2 (fD p (q.take k))/\ Below w.heap.size w wr)) (fun _ i _=>l-(intOf i).toNat)
 case atStart=>exact⟨0,n,cap,ao,rfl,rfl,Nat.zero_le _,by simpa[fD]using HP.out,Below.refl _ _⟩
 case round=>
  clear HP;obtain⟨k,n2,c2,oo,rfl,rfl,hk,HS⟩:=hrel;by_cases hkl:k<l
  ·obtain⟨b,off,rfl,hb,hcl⟩:=HG.out.at (by omega);obtain⟨tm,ta,tn,tc,ba,bn,bc,hv,tz,tb,mR⟩:=bG.get (0,[]) HT.out k (by rw[Gc.out];exact hkl)
   have hcells:∀V:World,Below w.heap.size w V->V.cell? ⟨b,off+k*3,none⟩=some (.bool tm)/\ V.cell? ⟨b,off+k*3+1,none⟩=some (.slice ta tn tc)/\ V.cell? ⟨b,off+k*3+2,none⟩=some (.slice ba bn bc):=by
    intro V hV;have h0:=hcl V hV k hkl 0 (by omega);have h1:=hcl V hV k hkl 1 (by omega);have h2:=hcl V hV k hkl 2 (by omega);rw[hv]at h0 h1 h2;exact⟨h0,h1,h2⟩
   have rW:=hid hcells;have Ja:=hid tz;have Jb:=hid tb;have Jc:=hid mR;obtain⟨t,ht⟩:∃t,t=q.getD k (0,[]):=⟨_,rfl⟩;have hlq:k<q.length:=by rw[Gc.out];exact hkl
   have ht2:t=q[k]:=by rw[ht];simp[List.getD,List.getElem?_eq_getElem hlq]
   have DL:Hid (aJ 0 t.2=true):=NQ.out _ (by rw[ht2];exact List.getElem_mem _)
   have HQ:Hid (fD p (q.take (k+1))=fC (fD p (q.take k)) t.1 t.2):=by
    rw[Hid,List.take_succ_eq_append_getElem hlq,mD,<-ht2];simp[fD]
   have QI:Hid (fall (fD p (q.take k))):=(fU HF.out (fun s hs=>NQ.out s (List.mem_of_mem_take hs))).1
   have Zv:Hid (n2<=2000000):=by
    have h1:=HS.out.1.len;have h2:=mr p (q.take k);rw[List.length_take,wU.out]at h2;rw[Hid];omega
   have HKK:Hid (K<=bd k/\ bd k<=9000):=qb.out k (by omega);have HSK:Hid (bd k+1<=bd (k+1)∨ ∀t∈fD p (q.take (k+1)),Bd t.1 (bd (k+1))):=Vd.out k hkl;rw[<-ht]at Ja Jb Jc;clear hcl hv hcells tz tb mR ht ht2 hlq;go_upto_region 5 with(fail)
   refine wp_region_held_drew (S:=fun w'=>w'.cell? ⟨b,off+k*3,none⟩=some (.bool tm)/\ w'.cell? ⟨b,off+k*3+1,none⟩=some (.slice ta tn tc)/\ w'.cell? ⟨b,off+k*3+2,none⟩=some (.slice ba bn bc)) (by kernel_rfl) (rW.out _ HS.out.2.drew) (fun hH=>?_);refine ak (fun w4 hW=>?_);have eU:Hid (Pz (bd k) w4 oo n2 c2 (fD p (q.take k))/\ Below w.heap.size w w4):=by rw[hW];exact⟨HS.out.1.below (Below.refl _ _).drew,HS.out.2.drew⟩
   rw[<-hW]at hH;clear hW HS;refine aB 0 hH ?_;try simp only[ai]
   refine aB 1 hH ?_;try simp only[ai]
   refine aB 2 hH ?_;try simp only[ai]
   refine aB 3 hH ?_;try simp only[ai]
   refine aB 4 hH ?_;try simp only[ai]
   refine aB 5 hH ?_;try simp only[ai]
   refine aB 6 hH ?_;try simp only[ai]
   refine aB 7 hH ?_;try simp only[ai]
   refine aB 8 hH ?_;try simp only[ai]
   refine aB 9 hH ?_;try simp only[ai]
   refine aB 10 hH ?_;try simp only[ai]
   refine aj 11 rfl (by kernel_rfl) (fun KK hK=>?_);go_simp;refine(wT eU.out.1 (Ja.out.below eU.out.2) (Jb.out.mono HKK.out.1) (Jc.out.below eU.out.2) QI.out DL.out Zv.out HKK.out.2).mono ?_;rintro e w5 ⟨o3,n3,c3,rfl,hX,hB⟩;have fT:Hid (Pz (bd (k+1)) w5 o3 n3 c3 (fD p (q.take (k+1)))/\ Below w.heap.size w w5):=⟨by have h:=HSK.out;rw[HQ.out]at h ⊢;exact hX.next h,Below.steps eU.out.2 hB⟩;clear eU hX hB HQ;go_wp2_with fail;clear hH;refine hK.out _ _ (rW.out _ fT.out.2) fun hH=>?_;clear hK KK
   try simp only[ai]
   refine aB 12 hH ?_;try simp only[ai]
   refine wpAnyH_done (by kernel_rfl) ?_ _
   go_wp2_with fail;go_roundw
   case rel=>exact⟨k+1,n3,c3,o3,by go_num,rfl,by omega,fT.out⟩
   case measure=>simp[intOf];omega
  ·obtain rfl:k=l:=by omega
   go_wp2_with fail;go_ret;refine⟨_,_,_,rfl,?_,HS.out.2⟩;have h:=HS.out.1;rw[List.take_of_length_le (by rw[Gc.out];exact Nat.le_refl _)]at h;exact h
theorem NZ [Ol] {K:Nat} {ao bo:Option Addr} {n cap l cb:Nat} {p q:List Term} {w:World} (hp:Pz K w ao n cap p) (hq:Pz K w bo l cb q) (hf:fall p) (hm:dX q) (hn:n+l<=100000) (hK:K+l<=9000):
  Calls Tryz.prog 19 #[.slice ao n cap,.slice bo l cb] w (kK (K+l) w (fD p q)):=
 tC (bd:=fun k=>K+k) hp hq hf hm (by omega) (fun k hk=>⟨Nat.le_add_right _ _,by show K+k<=9000;omega⟩) fun k _=> .inl (Nat.le_refl _)
open Lib (hid)
theorem vV (t:Term) (q:List Term):(uQ t q).length=q.length:=by simp[uQ]
theorem qi (q:List Term):∀p:List Term,(mulL p q).length=p.length*q.length
 |[]=>by simp[mulL]
 |t::r=>by simp only[mulL,List.length_append,vV,qi q r,List.length_cons,Nat.add_mul];omega
theorem vW (q:List Term):∀a b:List Term,mulL (a++b) q=mulL a q++mulL b q
 |[],_=>rfl
 |t::a,b=>by simp[mulL,vW q a b]
def zI (p q:List Term):Bool:=p.all fun t=>q.all fun s=>aJ 0 (gH t.2 s.2)
theorem iM {p q:List Term}:zI p q=true↔iA p q:=by
 unfold zI iA;simp only[List.all_eq_true]
def uR (p q:List Term):List Term×Bool:=if zI p q=true then(aU p q,true)else([],false)
theorem qj {p q:List Term} (h:iA p q):uR p q=(aU p q,true):=if_pos (iM.2 h)
theorem Jd {p q:List Term} (h:¬iA p q):uR p q=([],false):=if_neg (fun g=>h (iM.1 g))
def N7 [Ol] (K:Nat) (w:World) (p:List Term) (b:Bool) (e:Ending) (w':World):Prop:=∃ao n cap,e= .returned (.tuple #[.slice ao n cap,.bool b])/\ Pz K w' ao n cap p/\ Below w.heap.size w w'
def zC (p q:List Term) (t:Term) (k j:Nat):List Term:=mE (mulL (p.take k) q++uQ t (q.take j))
theorem N8 {p q:List Term} (t:Term) (k j:Nat) (hj:j<q.length):zC p q t k (j+1)=fC (zC p q t k j) (t.1*(q[j]).1) (gH t.2 (q[j]).2):=by
 unfold zC uQ mE;rw[List.take_succ_eq_append_getElem hj,List.map_append,<-List.append_assoc,mD];simp[fD]
theorem N9 {p q:List Term} (t:Term) (k:Nat):zC p q t k 0=aU (p.take k) q:=by simp[zC,uQ,aU]
theorem Ra {p q:List Term} (k:Nat) (hk:k<p.length):zC p q p[k] k q.length=aU (p.take (k+1)) q:=by
 unfold zC aU;rw[List.take_succ_eq_append_getElem hk,vW,List.take_length];simp[mulL]
theorem Rb {p q:List Term} (t:Term) (k j:Nat) (hk:k<=p.length) (hj:j<=q.length):(zC p q t k j).length<=k*q.length+j:=by
 unfold zC mE;have h:=mr [] (mulL (p.take k) q++uQ t (q.take j));rw[List.length_append,qi,vV,List.length_take,List.length_take,Nat.min_eq_left hk,Nat.min_eq_left hj]at h;simpa using h
theorem Oa {p q:List Term} (t:Term) (k j:Nat) (h1:iA (p.take k) q) (h2:∀s∈q.take j,aJ 0 (gH t.2 s.2)=true):fall (zC p q t k j):=by
 refine(iB fun s hs=>?_).1;rcases List.mem_append.1 hs with hs|hs
 ·exact uS h1 s hs
 ·obtain⟨u,hu,rfl⟩:=List.mem_map.1 hs;exact h2 u hu
theorem Ob {p q:List Term} (k:Nat) (hk:k<p.length) (h1:iA (p.take k) q) (h2:∀s∈q,aJ 0 (gH (p[k]).2 s.2)=true):iA (p.take (k+1)) q:=by
 intro t ht s hs;rw[List.take_succ_eq_append_getElem hk]at ht;rcases List.mem_append.1 ht with ht|ht
 ·exact h1 t ht s hs
 ·rw[List.mem_singleton]at ht;subst ht;exact h2 s hs
theorem VY {t:Term} {q:List Term} (j:Nat) (hj:j<q.length) (h:∀s∈q.take j,aJ 0 (gH t.2 s.2)=true) (h2:aJ 0 (gH t.2 (q[j]).2)=true):∀s∈q.take (j+1),aJ 0 (gH t.2 s.2)=true:=by
 intro s hs;rw[List.take_succ_eq_append_getElem hj]at hs;rcases List.mem_append.1 hs with hs|hs
 ·exact h s hs
 ·rw[List.mem_singleton]at hs;subst hs;exact h2
theorem xO [Ol] {Kp Kq:Nat} {bd:Nat->Nat} {ao bo:Option Addr} {n cap l cb:Nat} {p q:List Term} {w:World} (hp:Pz Kp w ao n cap p) (hq:Pz Kq w bo l cb q) (hmp:dX p) (xK:dX q) (hL:n*l<=2000000) (hB:∀i,i<=n*l->Kp+Kq<=bd i/\ bd i<=9000)
  (hs:∀k j (hk:k<p.length),j<q.length->bd (k*l+j)+1<=bd (k*l+(j+1))∨ ∀t∈zC p q p[k] k (j+1),Bd t.1 (bd (k*l+(j+1)))):
  Calls Tryz.prog 33 #[.slice ao n cap,.slice bo l cb] w (N7 (bd (n*l)) w (uR p q).1 (uR p q).2):=by
 obtain⟨A,hA⟩:∃A,A=n*l:=⟨_,rfl⟩;rw[<-hA]at hB hL;rw[<-hA];have qb:=hid hB;have Vd:=hid hs;clear hB hs;obtain⟨aW,hG,hT⟩:=hp.ex;obtain⟨uss,hG2,Zw⟩:=hq.ex;have hbig:=hG.big;have hbig2:=hG2.big;have ni:=hid hp.len;have uT:=hid hq.len;have Rc:=hid hG;have QJ:=hid hT;have Yd:=hid hG2;have Rf:=hid Zw;have KE:=hid hmp;have VZ:=hid xK;have HA:=hid hA;obtain⟨R,hR⟩:∃R,R=uR p q:=⟨_,rfl⟩;rw[<-hR];have HR:=hid hR;clear hp hq hmp xK hG hT hG2 Zw hR hA;go_enter Tryz.func33,Tryz.ntmps33;go_wp2;go_loopw [6,7,8,9,10] (fun o i _ _ _ wr=>∃(k n2 c2:Nat) (oo:Option Addr),i= .int .i64 k/\ o= .slice oo n2 c2/\ k<=n/\ Hid (iA (p.take k) q)/\ Hid (Pz (bd (k*l)) wr oo n2 c2 (aU (p.take k) q)/\ Below w.heap.size w wr)) (fun _ i _ _ _ _=>n-(intOf i).toNat)
 case atStart=>exact⟨0,0,0,none,rfl,rfl,Nat.zero_le _,fun _ h=>by simp at h,Pz.zero _ _,Below.refl _ _⟩
 case round=>
  obtain⟨k,n2,c2,oo,rfl,rfl,hk,Zy,HS⟩:=hrel;by_cases hkn:k<n
  ·obtain⟨N,hN⟩:∃N,N=k*l:=⟨_,rfl⟩
   have hNA:N+l<=A:=by
    rw[hN,HA.out];have h:=Nat.mul_le_mul_right l (show k+1<=n from hkn);rwa[Nat.add_mul,Nat.one_mul]at h
   obtain⟨b,off,rfl,_,hcl⟩:=Rc.out.at (by omega);obtain⟨xm,xa,xn,xc,xp,xq,xr,hv,tz,tb,mR⟩:=bG.get (0,[]) QJ.out k (by rw[ni.out];assumption)
   have hcells:∀V:World,Below w.heap.size w V->(V.cell? ⟨b,off+k*3,none⟩=some (.bool xm)/\ V.cell? ⟨b,off+k*3+1,none⟩=some (.slice xa xn xc)/\ V.cell? ⟨b,off+k*3+2,none⟩=some (.slice xp xq xr)):=by
    intro V hV;have h0:=hcl V hV k (by assumption) 0 (by omega);have h1:=hcl V hV k (by assumption) 1 (by omega);have h2:=hcl V hV k (by assumption) 2 (by omega);rw[hv]at h0 h1 h2;exact⟨h0,h1,h2⟩
   have sU:=hid hcells;clear hcl hv hcells;have oJ:k<p.length:=by rw[ni.out];assumption
   have DU:p.getD k (0,[])=p[k]:=by simp[List.getD,List.getElem?_eq_getElem oJ]
   rw[DU]at tz tb mR;have HZP:=hid tz;have V6:=hid tb;have af9:=hid mR;clear tz tb mR DU;have HN:=hid hN;have Gy:Hid (Pz (bd (N+0)) wr oo n2 c2 (zC p q p[k] k 0)/\ Below w.heap.size w wr):=by rw[N9,hN];exact HS.out
   clear HS hN;go_wp2;go_loopw [6,8,9,10] (fun o i _ _ wi=>∃(j n3 c3:Nat) (o3:Option Addr),i= .int .i64 j/\ o= .slice o3 n3 c3/\ j<=l/\ Hid (∀s∈q.take j,aJ 0 (gH (p[k]).2 s.2)=true)/\ Hid (Pz (bd (N+j)) wi o3 n3 c3 (zC p q p[k] k j)/\ Below w.heap.size w wi)) (fun _ i _ _ _=>l-(intOf i).toNat)
   case atStart=>exact⟨0,n2,c2,oo,rfl,rfl,Nat.zero_le _,fun _ h=>by simp at h,Gy.out⟩
   case round=>
    clear Gy;obtain⟨j,n3,c3,o3,rfl,rfl,hj,Rh,HS⟩:=hrel;by_cases hjl:j<l
    ·obtain⟨d,tF,rfl,_,hcl⟩:=Yd.out.at (by omega);obtain⟨ym,ya,yn,yc,yp,yq,yr,hv,tz,tb,mR⟩:=bG.get (0,[]) Rf.out j (by rw[uT.out];assumption)
     have hcells:∀V:World,Below w.heap.size w V->(V.cell? ⟨d,tF+j*3,none⟩=some (.bool ym)/\ V.cell? ⟨d,tF+j*3+1,none⟩=some (.slice ya yn yc)/\ V.cell? ⟨d,tF+j*3+2,none⟩=some (.slice yp yq yr)):=by
      intro V hV;have h0:=hcl V hV j (by assumption) 0 (by omega);have h1:=hcl V hV j (by assumption) 1 (by omega);have h2:=hcl V hV j (by assumption) 2 (by omega);rw[hv]at h0 h1 h2;exact⟨h0,h1,h2⟩
     have KF:=hid hcells;clear hcl hv hcells;have zJ:j<q.length:=by rw[uT.out];assumption
     have QK:q.getD j (0,[])=q[j]:=by simp[List.getD,List.getElem?_eq_getElem zJ]
     rw[QK]at tz tb mR;have HZQ:=hid tz;have HBQ:=hid tb;have ag0:=hid mR;clear tz tb mR QK;have HMX:Hid (aJ 0 (p[k]).2=true):=KE.out _ (List.getElem_mem _);have DL:Hid (aJ 0 (q[j]).2=true):=VZ.out _ (List.getElem_mem _);have QI:Hid (fall (zC p q p[k] k j)):=Oa _ k j Zy.out Rh.out
     have Zv:Hid (n3<=2000000):=by
      have h1:=HS.out.1.len;have h2:=Rb (p:=p) (q:=q) p[k] k j (by omega) (by omega);rw[uT.out,<-HN.out]at h2;rw[Hid];omega
     have HKK:Hid (Kp+Kq<=bd (N+j)/\ bd (N+j)<=9000):=qb.out _ (by omega);have HSK:Hid (bd (N+j)+1<=bd (N+(j+1))∨ ∀t∈zC p q p[k] k (j+1),Bd t.1 (bd (N+(j+1)))):=by have h:=Vd.out k j oJ zJ;rwa[<-HN.out]at h
     go_upto_region 8 with(fail)
     refine wp_region_held_drew (S:=fun w'=>(w'.cell? ⟨b,off+k*3,none⟩=some (.bool xm)/\ w'.cell? ⟨b,off+k*3+1,none⟩=some (.slice xa xn xc)/\ w'.cell? ⟨b,off+k*3+2,none⟩=some (.slice xp xq xr))/\ (w'.cell? ⟨d,tF+j*3,none⟩=some (.bool ym)/\ w'.cell? ⟨d,tF+j*3+1,none⟩=some (.slice ya yn yc)/\ w'.cell? ⟨d,tF+j*3+2,none⟩=some (.slice yp yq yr))) (by kernel_rfl) ⟨sU.out _ (HS.out.2).drew,KF.out _ (HS.out.2).drew⟩ (fun hH=>?_);refine ak (fun w4 hW=>?_);have eU:Hid (Pz (bd (N+j)) w4 o3 n3 c3 (zC p q p[k] k j)/\ Below w.heap.size w w4):=by rw[hW];exact⟨HS.out.1.below (Below.refl _ _).drew,HS.out.2.drew⟩
     clear HS;rw[<-hW]at hH;clear hW;refine aB 0 hH ?_;try simp only[ai]
     refine aB 1 hH ?_;try simp only[ai]
     refine aB 2 hH ?_;try simp only[ai]
     refine aB 3 hH ?_;try simp only[ai]
     refine aB 4 hH ?_;try simp only[ai]
     refine aB 5 hH ?_;try simp only[ai]
     refine aB 6 hH ?_;try simp only[ai]
     refine aB 7 hH ?_;try simp only[ai]
     refine aB 8 hH ?_;try simp only[ai]
     refine aB 9 hH ?_;try simp only[ai]
     refine aj 10 rfl (by kernel_rfl) (fun KK hK=>?_);go_simp;have Ye:=Gz (af9.out.below eU.out.2) (ag0.out.below eU.out.2);by_cases hfit:aJ 0 (gH (p[k]).2 (q[j]).2)=true
     ·rw[show gD (fun x y=>x+y) 8 (p[k]).2 (q[j]).2=(gH (p[k]).2 (q[j]).2,0)from by unfold gD;rw[if_pos ⟨HMX.out,DL.out⟩];exact if_pos hfit]at Ye;refine Ye.mono ?_;rintro e w5 ⟨mo,mn,mc,rfl,hX,hB⟩;clear Ye;have fT:Hid (Pz (bd (N+j)) w5 o3 n3 c3 (zC p q p[k] k j)/\ Below w.heap.size w w5):=⟨eU.out.1.below hB,Below.steps eU.out.2 hB⟩;have HML:=hid hX;have HFJ:Hid (∀s∈q.take (j+1),aJ 0 (gH (p[k]).2 s.2)=true):=VY j zJ Rh.out hfit;have Zz:=hid hfit;clear hX hB eU Rh hfit;go_wp2_with fail;clear hH;refine hK.out _ _ ⟨sU.out _ fT.out.2,KF.out _ fT.out.2⟩ fun hH=>?_;clear hK KK
      try simp only[ai]
      refine aB 11 hH ?_;try simp only[ai]
      refine aB 12 hH ?_;try simp only[ai]
      refine aB 13 hH ?_;try simp only[ai]
      refine aB 14 hH ?_;try simp only[ai]
      refine aB 15 hH ?_;try simp only[ai]
      refine wpAnyH_done (by kernel_rfl) ?_ _
      go_upto_region 11 with(fail)
      refine wp_region_held_drew (S:=fun w'=>(w'.cell? ⟨b,off+k*3,none⟩=some (.bool xm)/\ w'.cell? ⟨b,off+k*3+1,none⟩=some (.slice xa xn xc)/\ w'.cell? ⟨b,off+k*3+2,none⟩=some (.slice xp xq xr))/\ (w'.cell? ⟨d,tF+j*3,none⟩=some (.bool ym)/\ w'.cell? ⟨d,tF+j*3+1,none⟩=some (.slice ya yn yc)/\ w'.cell? ⟨d,tF+j*3+2,none⟩=some (.slice yp yq yr))) (by kernel_rfl) ⟨sU.out _ (fT.out.2).drew,KF.out _ (fT.out.2).drew⟩ (fun hH=>?_);refine ak (fun w4 hW=>?_);have jg:Hid (Pz (bd (N+j)) w4 o3 n3 c3 (zC p q p[k] k j)/\ Below w.heap.size w w4):=by rw[hW];exact⟨fT.out.1.below (Below.refl _ _).drew,fT.out.2.drew⟩
      have ZA:Hid (Ml w4 mo mn mc (gH (p[k]).2 (q[j]).2)):=by rw[hW];exact HML.out.below (Below.refl _ _).drew
      clear fT HML;rw[<-hW]at hH;clear hW;refine aB 0 hH ?_;try simp only[ai]
      refine aB 1 hH ?_;try simp only[ai]
      refine aB 2 hH ?_;try simp only[ai]
      refine aB 3 hH ?_;try simp only[ai]
      refine aB 4 hH ?_;try simp only[ai]
      refine aB 5 hH ?_;try simp only[ai]
      refine aB 6 hH ?_;try simp only[ai]
      refine aB 7 hH ?_;try simp only[ai]
      refine aB 8 hH ?_;try simp only[ai]
      refine aB 9 hH ?_;try simp only[ai]
      refine aB 10 hH ?_;try simp only[ai]
      refine aB 12 hH ?_;try simp only[ai]
      refine aj 11 rfl (by kernel_rfl) (fun KK hK=>?_);go_simp;refine(Oc ((HZP.out.below jg.out.2).zx V6.out (by have:=HKK.out;omega)) ((HZQ.out.below jg.out.2).zx HBQ.out (by have:=HKK.out;omega))).mono ?_;rintro e w6 ⟨rm,ra,rn,rc,rfl,hX,hB⟩;have dG:Hid (Pz (bd (N+j)) w6 o3 n3 c3 (zC p q p[k] k j)/\ Below w.heap.size w w6):=⟨jg.out.1.below hB,Below.steps jg.out.2 hB⟩;have ZB:=hid (ZA.out.below hB);have Ao:=hid hX;have BR:Hid (Bd ((p[k]).1*(q[j]).1) (bd (N+j))):=(V6.out.mul HBQ.out).mono HKK.out.1;clear jg ZA hX hB;go_wp2_with fail;clear hH;refine hK.out _ _ ⟨sU.out _ dG.out.2,KF.out _ dG.out.2⟩ fun hH=>?_;clear hK KK
      try simp only[ai]
      refine aj 13 rfl (by kernel_rfl) (fun KK hK=>?_);go_simp;refine(wT dG.out.1 Ao.out BR.out ZB.out QI.out Zz.out Zv.out HKK.out.2).mono ?_;rintro e w8 ⟨o8,n8,c8,rfl,hX,hB⟩;have tH:Hid (Pz (bd (N+(j+1))) w8 o8 n8 c8 (zC p q p[k] k (j+1))/\ Below w.heap.size w w8):=⟨by have h:=HSK.out;rw[N8 _ k j zJ]at h ⊢;exact hX.next h,Below.steps dG.out.2 hB⟩;clear dG ZB Ao BR hX hB QI Zz;go_wp2_with fail;clear hH;refine hK.out _ _ ⟨sU.out _ tH.out.2,KF.out _ tH.out.2⟩ fun hH=>?_;clear hK KK
      try simp only[ai]
      refine aB 14 hH ?_;try simp only[ai]
      refine wpAnyH_done (by kernel_rfl) ?_ _
      go_wp2_with fail;go_roundw
      case rel=>exact⟨j+1,n8,c8,o8,by go_num,rfl,by omega,HFJ,tH.out⟩
      case measure=>simp[intOf];omega
     ·have HR2:Hid (R=([],false)):=HR.out.trans (Jd fun h=>hfit (h _ (List.getElem_mem _) _ (List.getElem_mem _)));rw[show gD (fun x y=>x+y) 8 (p[k]).2 (q[j]).2=([],8)from by unfold gD;rw[if_pos ⟨HMX.out,DL.out⟩];exact if_neg hfit]at Ye;refine Ye.mono ?_;rintro e w5 ⟨mo,mn,mc,rfl,hX,hB⟩;clear Ye hfit;have lY:Hid (Below w.heap.size w w5):=Below.steps eU.out.2 hB;clear hX hB eU;go_wp2_with fail;clear hH;refine hK.out _ _ ⟨sU.out _ lY.out,KF.out _ lY.out⟩ fun hH=>?_;clear hK KK
      try simp only[ai]
      refine aB 11 hH ?_;try simp only[ai]
      refine aB 12 hH ?_;try simp only[ai]
      refine aB 13 hH ?_;try simp only[ai]
      refine aB 14 hH ?_;try simp only[ai]
      refine aB 15 hH ?_;try simp only[ai]
      refine wpAnyH_done (by kernel_rfl) ?_ _
      go_wp2_with fail;refine bodyPost_ret (v:= .tuple #[.slice none 0 0,.bool false]) (by simp[results,Tryz.results33,go_sem]) rfl ?_;exact⟨none,0,0,by rw[HR2.out],by rw[HR2.out];exact Pz.zero _ _,lY.out⟩
    ·obtain rfl:j=l:=by omega
     have ZC:Hid (iA (p.take (k+1)) q):=Ob k oJ Zy.out (by have h:=Rh.out;rwa[List.take_of_length_le (by rw[uT.out];exact Nat.le_refl _)]at h)
     have HS2:Hid (Pz (bd ((k+1)*j)) wr o3 n3 c3 (aU (p.take (k+1)) q)/\ Below w.heap.size w wr):=by
      rw[<-Ra k oJ,uT.out,Nat.add_mul,Nat.one_mul,<-HN.out];exact HS.out
     clear HS Rh Zy;go_wp2_with fail;go_roundw
     case rel=>exact⟨k+1,n3,c3,o3,by go_num,rfl,by omega,ZC,HS2⟩
     case measure=>simp[intOf];omega
  ·obtain rfl:k=n:=by omega
   have ZC:Hid (iA p q):=by have h:=Zy.out;rwa[List.take_of_length_le (by rw[ni.out];exact Nat.le_refl _)]at h
   have HR2:Hid (R=(aU p q,true)):=HR.out.trans (qj ZC.out);have HS2:Hid (Pz (bd A) wr oo n2 c2 (aU p q)/\ Below w.heap.size w wr):=by have h:=HS.out;rwa[List.take_of_length_le (by rw[ni.out];exact Nat.le_refl _),<-HA.out]at h
   clear HS Zy;go_wp2_with fail;refine bodyPost_ret (v:= .tuple #[.slice oo n2 c2,.bool true]) (by simp[results,Tryz.results33,go_sem]) rfl ?_;exact⟨_,_,_,by rw[HR2.out],by rw[HR2.out];exact HS2.out.1,HS2.out.2⟩
theorem GA [Ol] {Kp Kq:Nat} {ao bo:Option Addr} {n cap l cb:Nat} {p q:List Term} {w:World} (hp:Pz Kp w ao n cap p) (hq:Pz Kq w bo l cb q) (hmp:dX p) (xK:dX q) (hK:Kp+Kq+n*l<=9000):
  Calls Tryz.prog 33 #[.slice ao n cap,.slice bo l cb] w (N7 (Kp+Kq+n*l) w (uR p q).1 (uR p q).2):=
 xO (bd:=fun i=>Kp+Kq+i) hp hq hmp xK (by omega) (fun i hi=>⟨Nat.le_add_right _ _,by show Kp+Kq+i<=9000;omega⟩) fun k j _ _=> .inl (Nat.le_refl _)
open Lib (hid)
theorem Od [Ol] {K:Nat} {bo:Option Addr} {l cb:Nat} {q:List Term} {w:World} (hq:Pz K w bo l cb q) (hn:l<=2000000) (hK:K<=9000):
  Calls Tryz.prog 43 #[.slice bo l cb] w (kK K w (kP q)):=by
 obtain⟨i0,hi,hz0,hz1,hz2⟩:=info_parts Tryz.NP;obtain⟨aW,hG,hT⟩:=hq.ex;have hle:=hG.le;have hbig:=hG.big;have NY:=hq.len;have HG:=hid hG;have HT:=hid hT;have Gc:=hid NY;clear hq hG hT NY;go_enter Tryz.func43,Tryz.ntmps43;go_wp2;go_loopw [3,4] (fun o i wr=>∃(k c2:Nat) (oo:Option Addr) (zs:List (List Value)),i= .int .i64 k/\ o= .slice oo k c2/\ k<=l/\ Hid (fM w.heap.size 82 3 wr oo k c2 zs/\ bG (Dl K wr) zs (kP (q.take k))/\ Below w.heap.size w wr)) (fun _ i _=>l-(intOf i).toNat)
 case atStart=>exact⟨0,0,none,[],rfl,rfl,Nat.zero_le _,fM.nil _ _ _ _,trivial,Below.refl _ _⟩
 case round=>
  obtain⟨k,c2,oo,zs,rfl,rfl,hk,HS⟩:=hrel;by_cases hkl:k<l
  ·obtain⟨b,off,rfl,hb,hcl⟩:=HG.out.at (by omega);obtain⟨tm,ta,tn,tc,ba,bn,bc,hv,tz,tb,mR⟩:=bG.get (0,[]) HT.out k (by rw[Gc.out];exact hkl)
   have hcells:∀V:World,Below w.heap.size w V->V.cell? ⟨b,off+k*3,none⟩=some (.bool tm)/\ V.cell? ⟨b,off+k*3+1,none⟩=some (.slice ta tn tc)/\ V.cell? ⟨b,off+k*3+2,none⟩=some (.slice ba bn bc):=by
    intro V hV;have h0:=hcl V hV k hkl 0 (by omega);have h1:=hcl V hV k hkl 1 (by omega);have h2:=hcl V hV k hkl 2 (by omega);rw[hv]at h0 h1 h2;exact⟨h0,h1,h2⟩
   have rW:=hid hcells;have Ja:=hid tz;have Jb:=hid tb;have Jc:=hid mR;obtain⟨t,ht⟩:∃t,t=q.getD k (0,[]):=⟨_,rfl⟩;have hlq:k<q.length:=by rw[Gc.out];exact hkl
   have ht2:t=q[k]:=by rw[ht];simp[List.getD,List.getElem?_eq_getElem hlq]
   have HQ:Hid (kP (q.take (k+1))=kP (q.take k)++[(-t.1,t.2)]):=by
    unfold kP;rw[Hid,List.take_succ_eq_append_getElem hlq,List.map_append,<-ht2];rfl
   rw[<-ht]at Ja Jc Jb;clear hcl hv hcells tz tb mR ht ht2 hlq;go_upto_region 5 with(fail)
   refine wp_region_held_drew (S:=fun w'=>w'.cell? ⟨b,off+k*3,none⟩=some (.bool tm)/\ w'.cell? ⟨b,off+k*3+1,none⟩=some (.slice ta tn tc)/\ w'.cell? ⟨b,off+k*3+2,none⟩=some (.slice ba bn bc)) (by kernel_rfl) (rW.out _ HS.out.2.2.drew) (fun hH=>?_);refine ak (fun w4 hW=>?_);have eU:Hid (fM w.heap.size 82 3 w4 oo k c2 zs/\ bG (Dl K w4) zs (kP (q.take k))/\ Below w.heap.size w w4):=by rw[hW];exact⟨HS.out.1.below (Below.refl _ _).drew,HS.out.2.1.imp (fun _ _ h=>h.below (Below.refl _ _).drew),HS.out.2.2.drew⟩
   rw[<-hW]at hH;clear hW HS;refine aB 0 hH ?_;try simp only[ai]
   refine aB 1 hH ?_;try simp only[ai]
   refine aB 2 hH ?_;try simp only[ai]
   refine aB 3 hH ?_;try simp only[ai]
   refine aB 4 hH ?_;try simp only[ai]
   refine aB 5 hH ?_;try simp only[ai]
   refine aB 7 hH ?_;try simp only[ai]
   refine aB 8 hH ?_;try simp only[ai]
   refine aB 9 hH ?_;try simp only[ai]
   refine aB 10 hH ?_;try simp only[ai]
   refine aB 11 hH ?_;try simp only[ai]
   refine aj 6 rfl (by kernel_rfl) (fun KK hK=>?_);go_simp;refine(Oe ((Ja.out.below eU.out.2.2).zx Jb.out (by omega))).mono ?_;rintro e w5 ⟨rm,ra,rn,rc,rfl,hX,hB⟩;have fT:Hid (fM w.heap.size 82 3 w5 oo k c2 zs/\ bG (Dl K w5) zs (kP (q.take k))/\ Below w.heap.size w w5):=⟨eU.out.1.below hB,eU.out.2.1.imp (fun _ _ h=>h.below hB),Below.steps eU.out.2.2 hB⟩;have Gw:Hid (Dl K w5 [.bool rm,.slice ra rn rc,.slice ba bn bc] (-t.1,t.2)):=⟨_,_,_,_,_,_,_,rfl,hX,Jb.out.neg,Jc.out.below fT.out.2.2⟩;clear eU hX hB Ja Jb Jc;go_wp2_with fail;clear hH;refine hK.out _ _ (rW.out _ fT.out.2.2) fun hH=>?_;clear hK KK
   try simp only[ai]
   refine aB 12 hH ?_;try simp only[ai]
   refine aj 13 rfl (by kernel_rfl) (fun KK hK=>?_);go_simp;clear hH;refine hK.out _ _ (rW.out _ (fT.out.2.2.trans (Below.mono (af w5 _) fT.out.2.2.size))) fun hH=>?_;clear hK KK
   try simp only[ai]
   refine aj 14 rfl (by kernel_rfl) (fun KK hK=>?_);refine ql _ w (.tmp 11) (.tmp 24) 40 rfl w.heap.size 82 3 56 i0 (.agg #[.bool false,.slice none 0 0,.slice none 0 0]) Tryz.underlying40 hi hz0 hz1 hz2 rfl (by omega) oo k c2 zs rfl (fT.out.1.below (af w5 _)) _ 1 1 [[.bool rm,.slice ra rn rc,.slice ba bn bc]] rfl (Gl.lit 3 w5 _ _ rfl (by simp[Value.oneCell'])) (fT.out.2.2.alloc fT.out.2.2.size _) (by have:=fT.out.2.2.size;simp;omega) (by omega) (by omega) (by simp[Value.cells,aX]) (by simp[aX]) ?_;intro o6 c6 w6 hO hB6 hG6;have jg:Hid (fM w.heap.size 82 3 w6 o6 (k+1) c6 (zs++[[.bool rm,.slice ra rn rc,.slice ba bn bc]])/\ bG (Dl K w6) (zs++[[.bool rm,.slice ra rn rc,.slice ba bn bc]]) (kP (q.take (k+1)))/\ Below w.heap.size w w6):=⟨hO,by rw[HQ.out];exact bG.append (fT.out.2.1.imp (fun _ _ h=>(h.below (af w5 _)).stays (fT.out.1.below (af w5 _)) hG6)) ⟨(Gw.out.below (af w5 _)).stays (fT.out.1.below (af w5 _)) hG6,trivial⟩,hB6⟩;clear fT hO hB6 hG6 Gw HQ;clear hH;refine hK.out _ _ (rW.out _ jg.out.2.2) fun hH=>?_;clear hK KK
   try simp only[ai]
   refine aB 15 hH ?_;try simp only[ai]
   refine wpAnyH_done (by kernel_rfl) ?_ _
   go_wp2_with fail;go_roundw
   case rel=>exact⟨k+1,c6,o6,_,by go_num,rfl,by omega,jg.out⟩
   case measure=>simp[intOf];omega
  ·obtain rfl:k=l:=by omega
   go_wp2_with fail;go_ret;refine⟨_,_,_,rfl,⟨_,HS.out.1.gl,?_⟩,HS.out.2.2⟩;have h:=HS.out.2.1;rw[List.take_of_length_le (by rw[Gc.out];exact Nat.le_refl _)]at h;exact h
open Lib (hid)
def xP (n:Int):List Term:=fC [] n []
theorem vX (n:Int):fall (xP n):=(qX n (p:=[]) trivial rfl).1
theorem xQ {n:Int} (h: -9223372036854775808<=n/\ n<=9223372036854775807):Bd n 2:=by
 unfold Bd;have:(2:Nat)^(32*2)=18446744073709551616:=by decide
 omega
theorem eH (p q:List Term):(aU p q).length<=p.length*q.length:=by
 have h:=mr [] (mulL p q);rw[qi]at h;simpa[aU,mE]using h
theorem DV [Ol] {K:Nat} {bd:Nat->Nat} {ao bo:Option Addr} {n cap l cb:Nat} {p q:List Term} {w:World} (hp:Pz (bd 0) w ao n cap p) (hq:Pz K w bo l cb q) (hf:fall p) (hm:dX q) (hn:n+l<=2000000) (hK:∀k,k<=l->K<=bd k/\ bd k<=9000) (hs:∀k,k<l->bd k+1<=bd (k+1)∨ ∀t∈fD p ((kP q).take (k+1)),Bd t.1 (bd (k+1))):
  Calls Tryz.prog 21 #[.slice ao n cap,.slice bo l cb] w (kK (bd l) w (uU p q)):=by
 have HP:=hid hp;have qb:=hid hK;have Vd:=hid hs;clear hK hs;have HQ:=hid hq;have HF:=hid hf;have HM:=hid (xR hm);have hl:=hq.len;have HL:Hid ((kP q).length=l):=by rw[Hid,<-hl];simp[kP]
 clear hp hq hf hm hl;go_enter Tryz.func21,Tryz.ntmps21;go_wp2_with fail;refine(Od HQ.out (by omega) (by have:=qb.out 0 (Nat.zero_le _);omega)).mono ?_;rintro e w1 ⟨qo,qn,qc,rfl,hX,hB⟩;have hl:=hX.len;obtain rfl:qn=l:=by rw[<-hl,HL.out]
 have zD:=hid (HP.out.below hB);have Ap:=hid hX;have HB1:=hid hB;clear HP HQ hX hB hl;go_wp2_with fail;refine(tC zD.out Ap.out HF.out HM.out hn qb.out Vd.out).mono ?_;rintro e w2 ⟨ro,rn,rc,rfl,hX,hB⟩;have HR:=hid hX;have HB2:=hid (Below.steps HB1.out hB);clear hX hB HB1;go_wp2_with fail;go_ret;exact⟨_,_,_,rfl,HR.out,HB2.out⟩
theorem Og [Ol] {K:Nat} {ao bo:Option Addr} {n cap l cb:Nat} {p q:List Term} {w:World} (hp:Pz K w ao n cap p) (hq:Pz K w bo l cb q) (hf:fall p) (hm:dX q) (hn:n+l<=100000) (hK:K+l<=9000):
  Calls Tryz.prog 21 #[.slice ao n cap,.slice bo l cb] w (kK (K+l) w (uU p q)):=
 DV (bd:=fun k=>K+k) hp hq hf hm (by omega) (fun k hk=>⟨Nat.le_add_right _ _,by show K+k<=9000;omega⟩) fun k _=> .inl (Nat.le_refl _)
theorem xS [Ol] {Kp Kq:Nat} {ao bo:Option Addr} {n cap l cb:Nat} {p q:List Term} {w:World} (hp:Pz Kp w ao n cap p) (hq:Pz Kq w bo l cb q) (hmp:dX p) (xK:dX q) (hK:Kp+Kq+n*l<=9000):
  Calls Tryz.prog 18 #[.slice ao n cap,.slice bo l cb] w (kK (Kp+Kq+n*l) w (uR p q).1):=by
 have ht:=GA hp hq hmp xK hK;have HT:=hid ht;clear hp hq hmp xK ht hK;go_enter Tryz.func18,Tryz.ntmps18;go_wp2_with fail;refine HT.out.mono ?_;rintro e w1 ⟨ro,rn,rc,rfl,hX,hB⟩;have HR:=hid hX;have HB:=hid hB;clear hX hB HT;go_wp2_with fail;go_ret;exact⟨_,_,_,rfl,HR.out,HB.out⟩
theorem oK [Ol] (n:Int) (w:World) (h: -9223372036854775808<=n/\ n<=9223372036854775807):
  Calls Tryz.prog 20 #[.int .i64 n] w (kK 3 w (xP n)):=by
 have HN:=hid h;clear h;go_enter Tryz.func20,Tryz.ntmps20;go_wp2_with fail;refine(sG n w HN.out).mono ?_;rintro e w1 ⟨m,ao,k,cap,rfl,hX,hB⟩;have HX:=hid hX;have HB:=hid hB;clear hX hB;go_wp2_with fail;refine(wT (K:=2) (p:=[]) (Pz.zero _ _) HX.out (xQ HN.out) (Ml.zero _) trivial rfl (by omega) (by omega)).mono ?_;rintro e w2 ⟨ro,rn,rc,rfl,hX,hB⟩;have HR:=hid hX;have HB2:=hid (Below.steps HB.out hB);clear hX hB HB;go_wp2_with fail;go_ret;exact⟨_,_,_,rfl,HR.out,HB2.out⟩
open Lib (hid)
def ZE [Ol] (K:Nat) (w:World) (vs:List Value) (t:Term):Prop:=
 ∃m ao n cap bo k cb,vs=[.bool m,.slice ao n cap,.slice bo k cb]/\ In w m ao n cap t.1/\ n<=K/\ Ml w bo k cb t.2
theorem ZE.below [Ol] {K:Nat} {w w':World} {vs:List Value} {t:Term} (h:ZE K w vs t) (hb:Below w.heap.size w w'):ZE K w' vs t:=by
 obtain⟨m,ao,n,cap,bo,k,cb,h1,h2,h3,h4⟩:=h;exact⟨m,ao,n,cap,bo,k,cb,h1,h2.below hb,h3,h4.below hb⟩
structure Pi [Ol] (K:Nat) (w:World) (ao:Option Addr) (n cap:Nat) (p:List Term):Prop where
 ex:∃aW,Gl 3 w ao n cap aW/\ bG (ZE K w) aW p
theorem Pi.len [Ol] {K:Nat} {w:World} {ao:Option Addr} {n cap:Nat} {p:List Term} (h:Pi K w ao n cap p):p.length=n:=by
 obtain⟨aW,h1,h2⟩:=h.ex;rw[<-h2.len,h1.len]
theorem Pi.below [Ol] {K:Nat} {w w':World} {ao:Option Addr} {n cap:Nat} {p:List Term} (h:Pi K w ao n cap p) (hb:Below w.heap.size w w'):Pi K w' ao n cap p:=by
 obtain⟨aW,h1,h2⟩:=h.ex;exact⟨aW,h1.below hb,h2.imp fun v a h=>h.below hb⟩
theorem qW [Ol] {K:Nat} {bo:Option Addr} {l cb:Nat} {q:List Term} {w:World} (hq:Pi K w bo l cb q) (hm:dX q) (hn:l<=100000) (hK:K+l<=9000):
  Calls Tryz.prog 11 #[.slice bo l cb] w (kK (K+l) w (mE q)):=by
 obtain⟨aW,hG,hT⟩:=hq.ex;have hle:=hG.le;have hbig:=hG.big;have NY:=hq.len;have HG:=hid hG;have HT:=hid hT;have NQ:=hid hm;have Gc:=hid NY;clear hq hm hG hT NY;go_enter Tryz.func11,Tryz.ntmps11;go_wp2;go_loopw [3,4] (fun o i wr=>∃(k n2 c2:Nat) (oo:Option Addr),i= .int .i64 k/\ o= .slice oo n2 c2/\ k<=l/\ Hid (Pz (K+k) wr oo n2 c2 (mE (q.take k))/\ Below w.heap.size w wr)) (fun _ i _=>l-(intOf i).toNat)
 case atStart=>exact⟨0,0,0,none,rfl,rfl,Nat.zero_le _,Pz.zero _ _,Below.refl _ _⟩
 case round=>
  obtain⟨k,n2,c2,oo,rfl,rfl,hk,HS⟩:=hrel;by_cases hkl:k<l
  ·obtain⟨b,off,rfl,hb,hcl⟩:=HG.out.at (by omega);obtain⟨tm,ta,tn,tc,ba,bn,bc,hv,tz,tb,mR⟩:=bG.get (0,[]) HT.out k (by rw[Gc.out];exact hkl)
   have hcells:∀V:World,Below w.heap.size w V->V.cell? ⟨b,off+k*3,none⟩=some (.bool tm)/\ V.cell? ⟨b,off+k*3+1,none⟩=some (.slice ta tn tc)/\ V.cell? ⟨b,off+k*3+2,none⟩=some (.slice ba bn bc):=by
    intro V hV;have h0:=hcl V hV k hkl 0 (by omega);have h1:=hcl V hV k hkl 1 (by omega);have h2:=hcl V hV k hkl 2 (by omega);rw[hv]at h0 h1 h2;exact⟨h0,h1,h2⟩
   have rW:=hid hcells;have Ja:=hid tz;have Jb:=hid tb;have Jc:=hid mR;obtain⟨t,ht⟩:∃t,t=q.getD k (0,[]):=⟨_,rfl⟩;have hlq:k<q.length:=by rw[Gc.out];exact hkl
   have ht2:t=q[k]:=by rw[ht];simp[List.getD,List.getElem?_eq_getElem hlq]
   have DL:Hid (aJ 0 t.2=true):=NQ.out _ (by rw[ht2];exact List.getElem_mem _)
   have HQ:Hid (mE (q.take (k+1))=fC (mE (q.take k)) t.1 t.2):=by
    unfold mE;rw[Hid,List.take_succ_eq_append_getElem hlq,mD,<-ht2];simp[fD]
   have QI:Hid (fall (mE (q.take k))):=(iB (fun s hs=>NQ.out s (List.mem_of_mem_take hs))).1
   have Zv:Hid (n2<=2000000):=by
    have h1:=HS.out.1.len;have h2:=mr [] (q.take k);rw[List.length_take]at h2;unfold mE at h1;simp only[List.length_nil]at h2;rw[Hid];omega
   have HKK:Hid (K+k<=9000):=by rw[Hid];omega
   rw[<-ht]at Ja Jc;clear hcl hv hcells tz tb mR ht ht2 hlq;go_upto_region 5 with(fail)
   refine wp_region_held_drew (S:=fun w'=>w'.cell? ⟨b,off+k*3,none⟩=some (.bool tm)/\ w'.cell? ⟨b,off+k*3+1,none⟩=some (.slice ta tn tc)/\ w'.cell? ⟨b,off+k*3+2,none⟩=some (.slice ba bn bc)) (by kernel_rfl) (rW.out _ HS.out.2.drew) (fun hH=>?_);refine ak (fun w4 hW=>?_);have eU:Hid (Pz (K+k) w4 oo n2 c2 (mE (q.take k))/\ Below w.heap.size w w4):=by rw[hW];exact⟨HS.out.1.below (Below.refl _ _).drew,HS.out.2.drew⟩
   rw[<-hW]at hH;clear hW HS;refine aB 0 hH ?_;try simp only[ai]
   refine aB 1 hH ?_;try simp only[ai]
   refine aB 2 hH ?_;try simp only[ai]
   refine aB 3 hH ?_;try simp only[ai]
   refine aB 4 hH ?_;try simp only[ai]
   refine aB 5 hH ?_;try simp only[ai]
   refine aB 7 hH ?_;try simp only[ai]
   refine aB 8 hH ?_;try simp only[ai]
   refine aB 9 hH ?_;try simp only[ai]
   refine aB 10 hH ?_;try simp only[ai]
   refine aB 11 hH ?_;try simp only[ai]
   refine aj 6 rfl (by kernel_rfl) (fun KK hK=>?_);go_simp;refine(Je ⟨Ja.out.below eU.out.2,Nat.le_trans Jb.out (by omega)⟩).mono ?_;rintro e w5 ⟨rm,ra,rn,rc,rfl,hX,hB⟩;have fT:Hid (Pz (K+k) w5 oo n2 c2 (mE (q.take k))/\ Below w.heap.size w w5):=⟨eU.out.1.below hB,Below.steps eU.out.2 hB⟩;have Gw:=hid hX;have lY:Hid (Bd t.1 (K+k)):=(Ja.out.bd Jb.out).mono (Nat.le_add_right K k);clear eU hX hB Ja;go_wp2_with fail;clear hH;refine hK.out _ _ (rW.out _ fT.out.2) fun hH=>?_;clear hK KK
   try simp only[ai]
   refine aj 12 rfl (by kernel_rfl) (fun KK hK=>?_);go_simp;refine(wT fT.out.1 Gw.out lY.out (Jc.out.below fT.out.2) QI.out DL.out Zv.out HKK.out).mono ?_;rintro e w6 ⟨o3,n3,c3,rfl,hX,hB⟩;have jg:Hid (Pz (K+(k+1)) w6 o3 n3 c3 (mE (q.take (k+1)))/\ Below w.heap.size w w6):=⟨by rw[HQ.out];exact hX,Below.steps fT.out.2 hB⟩;clear fT hX hB HQ Gw;go_wp2_with fail;clear hH;refine hK.out _ _ (rW.out _ jg.out.2) fun hH=>?_;clear hK KK
   try simp only[ai]
   refine aB 13 hH ?_;try simp only[ai]
   refine wpAnyH_done (by kernel_rfl) ?_ _
   go_wp2_with fail;go_roundw
   case rel=>exact⟨k+1,n3,c3,o3,by go_num,rfl,by omega,jg.out⟩
   case measure=>simp[intOf];omega
  ·obtain rfl:k=l:=by omega
   go_wp2_with fail;go_ret;refine⟨_,_,_,rfl,?_,HS.out.2⟩;have h:=HS.out.1;rw[List.take_of_length_le (by rw[Gc.out];exact Nat.le_refl _)]at h;exact h
open Lib (hid)
theorem mF {w w':World} {g:Nat} (hc:bV w g) (hG:w.grownBy w' (some g)) {k:IntKind} {x:Int} {ad:Addr} (h:w.cell? ad=some (.int k x)):w'.cell? ad=some (.int k x):=
 hG.cell h fun eq=>hc.far h (Option.some.inj eq)
theorem Ml.eY [Ol] {w w':World} {g:Nat} (hc:bV w g) (hG:w.grownBy w' (some g)) {bo:Option Addr} {k cb:Nat} {ps:List (Int×Int)} (h:Ml w bo k cb ps):Ml w' bo k cb ps:=
 ⟨h.len,h.le,h.big,h.wf,h.nil,fun ad had t ht=>⟨mF hc hG (h.cells ad had t ht).1,mF hc hG (h.cells ad had t ht).2⟩,fun h0 ad had=>by
  obtain⟨x,hx⟩:=h.int h0 had;exact(h.kp h0 ad had).grown (h.blt h0 had) hG fun eq=>hc.far hx (Option.some.inj eq)⟩
theorem Cn.eY {w w':World} {g:Nat} (hc:bV w g) (hG:w.grownBy w' (some g)) {m:Bool} {bo:Option Addr} {k cb:Nat} {z:Int} (h:Cn w m bo k cb z):Cn w' m bo k cb z:=
 ⟨h.neg,h.sl.len,h.sl.le,h.sl.big,h.sl.wf,h.sl.nil,fun ad had t ht=>mF hc hG (h.sl.cells ad had t ht)⟩
theorem Cn.stays {B:Nat} {e:TypeId} {sz:Nat} {w w':World} {ao:Option Addr} {n cap:Nat} {aW:List (List Value)} {m:Bool} {bo:Option Addr} {k cb:Nat} {z:Int} (h:Cn w m bo k cb z) (hO:fM B e sz w ao n cap aW) (hG:w.grownBy w' (Value.slice ao n cap).ownBlock):Cn w' m bo k cb z:=
 ⟨h.neg,h.sl.len,h.sl.le,h.sl.big,h.sl.wf,h.sl.nil,fun ad had t ht=>hO.stays hG (h.sl.cells ad had t ht)⟩
theorem aN.clean {w:World} {g:Nat} {T:TypeId} (h:aN w g [] T):bV w g:=fun cur T' fr hh u hu=>by
 unfold aN at h;rw[h]at hh;cases hh;simp at hu
theorem fM.other {B:Nat} {e:TypeId} {sz:Nat} {w w':World} {ao:Option Addr} {n cap:Nat} {aW:List (List Value)} (h:fM B e sz w ao n cap aW) {g:Nat} {us:List Value} {T:TypeId} (hg:aN w g us T) (hT:T≠e) (hG:w.grownBy w' (some g)):fM B e sz w' ao n cap aW:=by
 refine h.keep fun a ha=>?_
 rcases h.parts with⟨h1,_⟩|⟨g',cur,h1,_,hlt,_,hh⟩
 ·rw[h1]at ha;cases ha
 ·rw[h1]at ha;cases ha;refine hG.block g' hlt fun eq=>?_
  have e':g'=g:=Option.some.inj eq;subst e';unfold aN at hg;rw[hg]at hh;cases hh;exact hT rfl
def fP [Ol] (K:Nat) (w:World) (vs:List Value) (t:Term):Prop:=
 ∃m ao n cap bo k cb,vs=[.bool m,.slice ao n cap,.slice bo k cb]/\ Cn w m ao n cap t.1/\ Bd t.1 K/\ Ml w bo k cb t.2
theorem fP.below [Ol] {K:Nat} {w w':World} {vs:List Value} {t:Term} (h:fP K w vs t) (hb:Below w.heap.size w w'):fP K w' vs t:=by
 obtain⟨m,ao,n,cap,bo,k,cb,h1,h2,h3,h4⟩:=h;exact⟨m,ao,n,cap,bo,k,cb,h1,h2.below hb,h3,h4.below hb⟩
theorem fP.inn [Ol] {K:Nat} {w:World} {vs:List Value} {t:Term} (h:fP K w vs t):ZE K w vs t:=by
 obtain⟨m,ao,n,cap,bo,k,cb,h1,h2,h3,h4⟩:=h;exact⟨m,ao,n,cap,bo,k,cb,h1,h2.inn,h2.le h3,h4⟩
theorem fP.mono [Ol] {K L:Nat} {w:World} {vs:List Value} {t:Term} (h:fP K w vs t) (hk:K<=L):fP L w vs t:=by
 obtain⟨m,ao,n,cap,bo,k,cb,h1,h2,h3,h4⟩:=h;exact⟨m,ao,n,cap,bo,k,cb,h1,h2,h3.mono hk,h4⟩
theorem fP.stays [Ol] {B:Nat} {e:TypeId} {sz:Nat} {w w':World} {ao:Option Addr} {n cap:Nat} {aW:List (List Value)} {K:Nat} {vs:List Value} {t:Term} (h:fP K w vs t) (hO:fM B e sz w ao n cap aW) (hG:w.grownBy w' (Value.slice ao n cap).ownBlock):fP K w' vs t:=by
 obtain⟨m,ao,n,cap,bo,k,cb,h1,h2,h3,h4⟩:=h;exact⟨m,ao,n,cap,bo,k,cb,h1,h2.stays hO hG,h3,h4.stays hO hG⟩
theorem fP.eY [Ol] {w w':World} {g:Nat} (hc:bV w g) (hG:w.grownBy w' (some g)) {K:Nat} {vs:List Value} {t:Term} (h:fP K w vs t):fP K w' vs t:=by
 obtain⟨m,ao,n,cap,bo,k,cb,h1,h2,h3,h4⟩:=h;exact⟨m,ao,n,cap,bo,k,cb,h1,h2.eY hc hG,h3,h4.eY hc hG⟩
structure Pc [Ol] (K:Nat) (w:World) (ao:Option Addr) (n cap:Nat) (p:List Term):Prop where
 ex:∃aW,Gl 3 w ao n cap aW/\ bG (fP K w) aW p
theorem Pc.len [Ol] {K:Nat} {w:World} {ao:Option Addr} {n cap:Nat} {p:List Term} (h:Pc K w ao n cap p):p.length=n:=by
 obtain⟨aW,h1,h2⟩:=h.ex;rw[<-h2.len,h1.len]
theorem Pc.below [Ol] {K:Nat} {w w':World} {ao:Option Addr} {n cap:Nat} {p:List Term} (h:Pc K w ao n cap p) (hb:Below w.heap.size w w'):Pc K w' ao n cap p:=by
 obtain⟨aW,h1,h2⟩:=h.ex;exact⟨aW,h1.below hb,h2.imp fun v a h=>h.below hb⟩
theorem Pc.inn [Ol] {K:Nat} {w:World} {ao:Option Addr} {n cap:Nat} {p:List Term} (h:Pc K w ao n cap p):Pi K w ao n cap p:=by
 obtain⟨aW,h1,h2⟩:=h.ex;exact⟨aW,h1,h2.imp fun v a h=>h.inn⟩
theorem Pc.mono [Ol] {K L:Nat} {w:World} {ao:Option Addr} {n cap:Nat} {p:List Term} (h:Pc K w ao n cap p) (hk:K<=L):Pc L w ao n cap p:=by
 obtain⟨aW,h1,h2⟩:=h.ex;exact⟨aW,h1,h2.imp fun v a h=>h.mono hk⟩
theorem Pc.zero [Ol] (K:Nat) (w:World):Pc K w none 0 0 []:=⟨[],Gl.zero 3 w,trivial⟩
def vY [Ol] (K:Nat) (w:World) (p:List Term) (e:Ending) (w':World):Prop:=∃ao n cap,e= .returned (.slice ao n cap)/\ Pc K w' ao n cap p/\ Below w.heap.size w w'
theorem Tryz.Jf:(Tryz.prog.info? 54).map (fun i=>(i.zero,i.size,i.bytes))=some (some (.agg #[.bool false,.slice none 0 0,.slice none 0 0]),3,56):=by kernel_rfl
theorem Jg [Ol] {P:Program} (wa w0:World) {o:Oper} {a:Act} {K:Act->World->Prop} {Q:Exit->Act->World->Prop}
  (s x:Operand) (t:TypeId) (hop:o.op=Op.call { callee:=Callee.builtin Builtin.append,args:= #[s,x],argTypes:= #[t,t] })
  (B:Nat) (i:TypeInfo) (z:Value) (h1:P.underlying t=some (.slice 56)) (h2:P.info? 56=some i) (h3:i.zero=some z) (h4:i.size=2) (h5:i.bytes=16) (h6:z.cells.size=2)
  (g:Nat) (hs:a.eval s= .slice (some ⟨g,0,none⟩) 0 0) (hO:Mo B wa (some ⟨g,0,none⟩) 0 0 []) (ao:Option Addr) (n cap:Nat) (ps:List (Int×Int)) (hx:a.eval x= .slice ao n cap) (hS:Ml wa ao n cap ps)
  (hb:Below B w0 wa) (hB:B<=wa.heap.size)
  (hK:∀iq cap' w',Ml w' iq n cap' ps->Below B w0 w'->wa.grownBy w' (some g)->K (a.put o.dst (.slice iq n cap')) w'):
  Oper.wp P o a wa K Q:=by
 cases ao with
 |none=>
  have hn:n=0:=by have:=hS.nil rfl;have:=hS.le;omega
  have hc:cap=0:=hS.nil rfl;subst hn;subst hc;have hxs:ps=[]:=List.eq_nil_of_length_eq_zero hS.len;subst hxs;have hrun:=run_append_owned_none (P:=P) wa B t o.type 56 i 2 h1 h2 _ 0 [] hO.row;unfold Oper.wp;simp[execOp,hop,resolve,invoke,builtin,hs,hx,hrun,Result.andThen];exact hK _ _ wa hO.ml hb (World.grownBy.refl _ _)
 |some ad=>
  refine wp_append_own wa s x t hop B 56 i z 2 16 h1 h2 h3 h4 h5 h6 (by decide) _ 0 [] hs hO.row ad n cap (dQ ps) hx (by rw[gV,hS.len]) ?_ (oL ps) (by have:=hS.big;unfold maxLen;omega) (by have:=hS.big;omega) hB ?_
  ·intro j u hj;have hjl:j<n*2:=by have:=(List.getElem?_eq_some_iff.1 hj).1;rwa[gV,hS.len]at this
   have hc:=hS.cells ad rfl (j/2) (by omega);have hp:=oO ps (j/2) (by rw[hS.len];omega);rcases(show j=j/2*2∨j=j/2*2+1 by omega)with e|e
   ·rw[<-e]at hc hp;rw[hc.1,<-hp.1,hj]
   ·rw[<-e]at hc hp;rw[hc.2,<-hp.2,hj]
  ·intro v' w' hown' hgrow _;obtain⟨iq,cap',rfl⟩:=qm hown';rw[Nat.zero_add]at hown' ⊢;have hM:Mo B w' iq n cap' ps:=⟨by simpa using hown',hS.big,hS.wf⟩;exact hK iq cap' w' hM.ml (hb.grown hgrow hB fun k hk=>(hO.row.lt k hk).1) hgrow
theorem Mo.empty (w:World):Mo w.heap.size (w.alloc (.cells #[] 56)) (some ⟨w.heap.size,0,none⟩) 0 0 []:=
 ⟨World.ownsRow_made w #[] 0 (Nat.le_refl _) (Nat.zero_le _) rfl,Nat.zero_le _,fun _ h=>by cases h⟩
theorem jd [Ol] {K:Nat} {bo:Option Addr} {l cb:Nat} {q:List Term} {w:World} (hq:Pz K w bo l cb q) (hn:l<=100000) (hK:K<=9000):
  Calls Tryz.prog 14 #[.slice bo l cb] w (vY K w q):=by
 obtain⟨i0,hi,hz0,hz1,hz2⟩:=info_parts Tryz.Jf;obtain⟨j0,hi2,hy0,hy1,hy2⟩:=info_parts Tryz.nD;obtain⟨aW,hG,hT⟩:=hq.ex;have hle:=hG.le;have hbig:=hG.big;have NY:=hq.len;have Rc:=hid hG;have QJ:=hid hT;have ni:=hid NY;clear hq hG hT NY;go_enter Tryz.func14,Tryz.ntmps14;go_wp2;go_loopw [3,4] (fun o i wr=>∃(k c2:Nat) (oo:Option Addr) (zs:List (List Value)),i= .int .i64 k/\ o= .slice oo k c2/\ k<=l/\ Hid (fM w.heap.size 54 3 wr oo k c2 zs/\ bG (fP K wr) zs (q.take k)/\ Below w.heap.size w wr)) (fun _ i _=>l-(intOf i).toNat)
 case atStart=>exact⟨0,0,none,[],rfl,rfl,Nat.zero_le _,fM.nil _ _ _ _,trivial,Below.refl _ _⟩
 case round=>
  obtain⟨k,c2,oo,zs,rfl,rfl,hk,HS⟩:=hrel;by_cases hkl:k<l
  ·obtain⟨b,off,rfl,_,hcl⟩:=Rc.out.at (by omega);obtain⟨xm,xa,xn,xc,xp,xq,xr,hv,tz,tb,mR⟩:=bG.get (0,[]) QJ.out k (by rw[ni.out];assumption)
   have hcells:∀V:World,Below w.heap.size w V->(V.cell? ⟨b,off+k*3,none⟩=some (.bool xm)/\ V.cell? ⟨b,off+k*3+1,none⟩=some (.slice xa xn xc)/\ V.cell? ⟨b,off+k*3+2,none⟩=some (.slice xp xq xr)):=by
    intro V hV;have h0:=hcl V hV k (by assumption) 0 (by omega);have h1:=hcl V hV k (by assumption) 1 (by omega);have h2:=hcl V hV k (by assumption) 2 (by omega);rw[hv]at h0 h1 h2;exact⟨h0,h1,h2⟩
   have sU:=hid hcells;clear hcl hv hcells;have oJ:k<q.length:=by rw[ni.out];assumption
   have DU:q.getD k (0,[])=q[k]:=by simp[List.getD,List.getElem?_eq_getElem oJ]
   rw[DU]at tz tb mR;have HZP:=hid tz;have V6:=hid tb;have KE:=hid mR;clear tz tb mR DU;have HQ:Hid (q.take (k+1)=q.take k++[q[k]]):=List.take_succ_eq_append_getElem oJ;go_upto_region 5 with(fail)
   refine wp_region_held_drew (S:=fun w'=>(w'.cell? ⟨b,off+k*3,none⟩=some (.bool xm)/\ w'.cell? ⟨b,off+k*3+1,none⟩=some (.slice xa xn xc)/\ w'.cell? ⟨b,off+k*3+2,none⟩=some (.slice xp xq xr))) (by kernel_rfl) (sU.out _ HS.out.2.2.drew) (fun hH=>?_);refine ak (fun w4 hW=>?_);have eU:Hid (fM w.heap.size 54 3 w4 oo k c2 zs/\ bG (fP K w4) zs (q.take k)/\ Below w.heap.size w w4):=by rw[hW];exact⟨HS.out.1.below (Below.refl _ _).drew,HS.out.2.1.imp (fun _ _ h=>h.below (Below.refl _ _).drew),HS.out.2.2.drew⟩
   rw[<-hW]at hH;clear hW HS;refine aB 0 hH ?_;try simp only[ai]
   refine aB 1 hH ?_;try simp only[ai]
   refine aB 2 hH ?_;try simp only[ai]
   refine aB 3 hH ?_;try simp only[ai]
   refine aB 4 hH ?_;try simp only[ai]
   refine aB 5 hH ?_;try simp only[ai]
   refine aB 8 hH ?_;try simp only[ai]
   refine aB 9 hH ?_;try simp only[ai]
   refine aB 10 hH ?_;try simp only[ai]
   refine aB 11 hH ?_;try simp only[ai]
   refine aB 12 hH ?_;try simp only[ai]
   refine wpAnyH_ready (rs:=[6,7]) (by kernel_rfl) (by simp) (dR rfl (fun KK hK=>?_) (dR rfl (fun KK hK=>?_) AllReadyH.nil))
   ·go_simp;refine(xU ((HZP.out.below eU.out.2.2).zx V6.out (by omega))).mono ?_;rintro e w5 ⟨rm,ra,rn,rc,rfl,hX,hB⟩;have Gw:=hid hX;have fT:Hid (fM w.heap.size 54 3 w5 oo k c2 zs/\ bG (fP K w5) zs (q.take k)/\ Below w.heap.size w w5):=⟨eU.out.1.below hB,eU.out.2.1.imp (fun _ _ h=>h.below hB),Below.steps eU.out.2.2 hB⟩;clear eU hX hB;go_wp2_with fail;clear hH;refine hK.out _ _ (sU.out _ fT.out.2.2) fun hH=>?_;clear hK KK
    try simp only[ai]
    refine aj 7 rfl (by kernel_rfl) (fun KK hK=>?_);go_simp;clear hH;refine hK.out _ _ (sU.out _ (fT.out.2.2.trans (Below.mono (af w5 _) fT.out.2.2.size))) fun hH=>?_;clear hK KK
    try simp only[ai]
    refine ak (fun w6 hW=>?_);obtain⟨g,hg⟩:∃g,g=w5.heap.size:=⟨_,rfl⟩;have jg:Hid (fM w.heap.size 54 3 w6 oo k c2 zs/\ bG (fP K w6) zs (q.take k)/\ Below w.heap.size w w6):=by rw[hW];exact⟨fT.out.1.below (af w5 _),fT.out.2.1.imp (fun _ _ h=>h.below (af w5 _)),fT.out.2.2.alloc fT.out.2.2.size _⟩
    have ZF:Hid (Cn w6 rm ra rn rc (q[k]).1):=by rw[hW];exact Gw.out.below (af w5 _)
    have ZG:Hid (Mo w.heap.size w6 (some ⟨g,0,none⟩) 0 0 []):=by rw[hW,hg];exact(Mo.empty w5).mono fT.out.2.2.size
    have tJ:Hid (aN w6 g [] 56):=by rw[hW,hg];exact aN.new w5 [] _
    rw[<-hW]at hH;rw[<-hg];clear hW hg fT Gw;refine aj 13 rfl (by kernel_rfl) (fun KK hK=>?_);refine Jg w6 w (.tmp 18) (.tmp 23) 52 rfl w.heap.size j0 (.agg #[.int .i64 0,.int .i64 0]) Tryz.underlying52 hi2 hy0 hy1 hy2 rfl g rfl ZG.out _ _ _ _ rfl (KE.out.below jg.out.2.2) jg.out.2.2 jg.out.2.2.size ?_;intro ma mc w7 ZH ZI Ri;have dG:Hid (fM w.heap.size 54 3 w7 oo k c2 zs/\ bG (fP K w7) zs (q.take k)/\ Below w.heap.size w w7):=⟨jg.out.1.other tJ.out (by decide) Ri,jg.out.2.1.imp (fun _ _ h=>fP.eY tJ.out.clean Ri h),ZI⟩;have Ao:Hid (fP K w7 [.bool rm,.slice ra rn rc,.slice ma xq mc] q[k]):=⟨_,_,_,_,_,_,_,rfl,ZF.out.eY tJ.out.clean Ri,V6.out,ZH⟩;clear jg ZF ZG tJ ZH ZI Ri;clear hH;refine hK.out _ _ (sU.out _ dG.out.2.2) fun hH=>?_;clear hK KK
    try simp only[ai]
    refine aB 14 hH ?_;try simp only[ai]
    refine aj 15 rfl (by kernel_rfl) (fun KK hK=>?_);go_simp;clear hH;refine hK.out _ _ (sU.out _ (dG.out.2.2.trans (Below.mono (af w7 _) dG.out.2.2.size))) fun hH=>?_;clear hK KK
    try simp only[ai]
    refine aj 16 rfl (by kernel_rfl) (fun KK hK=>?_);refine ql _ w (.tmp 11) (.tmp 26) 23 rfl w.heap.size 54 3 56 i0 (.agg #[.bool false,.slice none 0 0,.slice none 0 0]) Tryz.underlying23 hi hz0 hz1 hz2 rfl (by omega) oo k c2 zs rfl (dG.out.1.below (af w7 _)) _ 1 1 [[.bool rm,.slice ra rn rc,.slice ma xq mc]] rfl (Gl.lit 3 w7 _ _ rfl (by simp[Value.oneCell'])) (dG.out.2.2.alloc dG.out.2.2.size _) (by have:=dG.out.2.2.size;simp;omega) (by omega) (by omega) (by simp[Value.cells,aX]) (by simp[aX]) ?_;intro o8 c8 w8 hO mq sS;have tH:Hid (fM w.heap.size 54 3 w8 o8 (k+1) c8 (zs++[[.bool rm,.slice ra rn rc,.slice ma xq mc]])/\ bG (fP K w8) (zs++[[.bool rm,.slice ra rn rc,.slice ma xq mc]]) (q.take (k+1))/\ Below w.heap.size w w8):=⟨hO,by rw[HQ.out];exact bG.append (dG.out.2.1.imp (fun _ _ h=>(h.below (af w7 _)).stays (dG.out.1.below (af w7 _)) sS)) ⟨(Ao.out.below (af w7 _)).stays (dG.out.1.below (af w7 _)) sS,trivial⟩,mq⟩;clear dG hO mq sS Ao HQ;clear hH;refine hK.out _ _ (sU.out _ tH.out.2.2) fun hH=>?_;clear hK KK
    try simp only[ai]
    refine aB 17 hH ?_;try simp only[ai]
    refine wpAnyH_done (by kernel_rfl) ?_ _
    go_wp2_with fail;go_roundw
    case rel=>exact⟨k+1,c8,o8,_,by go_num,rfl,by omega,tH.out⟩
    case measure=>simp[intOf];omega
   ·go_simp;clear hH;refine hK.out _ _ (sU.out _ (eU.out.2.2.trans (Below.mono (af w4 _) eU.out.2.2.size))) fun hH=>?_;clear hK KK
    try simp only[ai]
    refine ak (fun w9 hW=>?_);obtain⟨g,hg⟩:∃g,g=w4.heap.size:=⟨_,rfl⟩;have vZ:Hid (fM w.heap.size 54 3 w9 oo k c2 zs/\ bG (fP K w9) zs (q.take k)/\ Below w.heap.size w w9):=by rw[hW];exact⟨eU.out.1.below (af w4 _),eU.out.2.1.imp (fun _ _ h=>h.below (af w4 _)),eU.out.2.2.alloc eU.out.2.2.size _⟩
    have HM9:Hid (Mo w.heap.size w9 (some ⟨g,0,none⟩) 0 0 []):=by rw[hW,hg];exact(Mo.empty w4).mono eU.out.2.2.size
    have Yf:Hid (aN w9 g [] 56):=by rw[hW,hg];exact aN.new w4 [] _
    rw[<-hW]at hH;rw[<-hg];clear hW hg eU;refine aj 6 rfl (by kernel_rfl) (fun KK hK=>?_);go_simp;refine(xU ((HZP.out.below vZ.out.2.2).zx V6.out (by omega))).mono ?_;rintro e w6 ⟨rm,ra,rn,rc,rfl,hX,hB⟩;have ZF:=hid hX;have jg:Hid (fM w.heap.size 54 3 w6 oo k c2 zs/\ bG (fP K w6) zs (q.take k)/\ Below w.heap.size w w6):=⟨vZ.out.1.below hB,vZ.out.2.1.imp (fun _ _ h=>h.below hB),Below.steps vZ.out.2.2 hB⟩;have ZG:=hid (HM9.out.below hB);have tJ:=hid (Yf.out.below hB);clear vZ HM9 Yf hX hB;go_wp2_with fail;clear hH;refine hK.out _ _ (sU.out _ jg.out.2.2) fun hH=>?_;clear hK KK
    try simp only[ai]
    refine aj 13 rfl (by kernel_rfl) (fun KK hK=>?_);refine Jg w6 w (.tmp 18) (.tmp 23) 52 rfl w.heap.size j0 (.agg #[.int .i64 0,.int .i64 0]) Tryz.underlying52 hi2 hy0 hy1 hy2 rfl g rfl ZG.out _ _ _ _ rfl (KE.out.below jg.out.2.2) jg.out.2.2 jg.out.2.2.size ?_;intro ma mc w7 ZH ZI Ri;have dG:Hid (fM w.heap.size 54 3 w7 oo k c2 zs/\ bG (fP K w7) zs (q.take k)/\ Below w.heap.size w w7):=⟨jg.out.1.other tJ.out (by decide) Ri,jg.out.2.1.imp (fun _ _ h=>fP.eY tJ.out.clean Ri h),ZI⟩;have Ao:Hid (fP K w7 [.bool rm,.slice ra rn rc,.slice ma xq mc] q[k]):=⟨_,_,_,_,_,_,_,rfl,ZF.out.eY tJ.out.clean Ri,V6.out,ZH⟩;clear jg ZF ZG tJ ZH ZI Ri;clear hH;refine hK.out _ _ (sU.out _ dG.out.2.2) fun hH=>?_;clear hK KK
    try simp only[ai]
    refine aB 14 hH ?_;try simp only[ai]
    refine aj 15 rfl (by kernel_rfl) (fun KK hK=>?_);go_simp;clear hH;refine hK.out _ _ (sU.out _ (dG.out.2.2.trans (Below.mono (af w7 _) dG.out.2.2.size))) fun hH=>?_;clear hK KK
    try simp only[ai]
    refine aj 16 rfl (by kernel_rfl) (fun KK hK=>?_);refine ql _ w (.tmp 11) (.tmp 26) 23 rfl w.heap.size 54 3 56 i0 (.agg #[.bool false,.slice none 0 0,.slice none 0 0]) Tryz.underlying23 hi hz0 hz1 hz2 rfl (by omega) oo k c2 zs rfl (dG.out.1.below (af w7 _)) _ 1 1 [[.bool rm,.slice ra rn rc,.slice ma xq mc]] rfl (Gl.lit 3 w7 _ _ rfl (by simp[Value.oneCell'])) (dG.out.2.2.alloc dG.out.2.2.size _) (by have:=dG.out.2.2.size;simp;omega) (by omega) (by omega) (by simp[Value.cells,aX]) (by simp[aX]) ?_;intro o8 c8 w8 hO mq sS;have tH:Hid (fM w.heap.size 54 3 w8 o8 (k+1) c8 (zs++[[.bool rm,.slice ra rn rc,.slice ma xq mc]])/\ bG (fP K w8) (zs++[[.bool rm,.slice ra rn rc,.slice ma xq mc]]) (q.take (k+1))/\ Below w.heap.size w w8):=⟨hO,by rw[HQ.out];exact bG.append (dG.out.2.1.imp (fun _ _ h=>(h.below (af w7 _)).stays (dG.out.1.below (af w7 _)) sS)) ⟨(Ao.out.below (af w7 _)).stays (dG.out.1.below (af w7 _)) sS,trivial⟩,mq⟩;clear dG hO mq sS Ao HQ;clear hH;refine hK.out _ _ (sU.out _ tH.out.2.2) fun hH=>?_;clear hK KK
    try simp only[ai]
    refine aB 17 hH ?_;try simp only[ai]
    refine wpAnyH_done (by kernel_rfl) ?_ _
    go_wp2_with fail;go_roundw
    case rel=>exact⟨k+1,c8,o8,_,by go_num,rfl,by omega,tH.out⟩
    case measure=>simp[intOf];omega
  ·obtain rfl:k=l:=by omega
   go_wp2_with fail;go_ret;refine⟨_,_,_,rfl,⟨_,HS.out.1.gl,?_⟩,HS.out.2.2⟩;have h:=HS.out.2.1;rw[List.take_of_length_le (by rw[ni.out];exact Nat.le_refl _)]at h;exact h
open Lib (hid)
def eu:(Bool×List Nat)×List (Int×Int):=((false,[]),[])
abbrev Raw:=(Bool×List Nat)×List (Int×Int)
def mQ (t:Raw):Term:=(dV t.1.1 (val t.1.2),t.2)
def iL (t:Term):Raw:=((decide (t.1<0),limbs t.1.natAbs),t.2)
def KD [Ol] (w:World) (vs:List Value) (t:Raw):Prop:=
 ∃ao n cap bo k cb,vs=[.bool t.1.1,.slice ao n cap,.slice bo k cb]/\ Sl w ao n cap t.1.2/\ Ml w bo k cb t.2
theorem KD.below [Ol] {w w':World} {vs:List Value} {t:Raw} (h:KD w vs t) (hb:Below w.heap.size w w'):KD w' vs t:=by
 obtain⟨ao,n,cap,bo,k,cb,h1,h2,h4⟩:=h;exact⟨ao,n,cap,bo,k,cb,h1,h2.below hb,h4.below hb⟩
theorem fP.raw [Ol] {K:Nat} {w:World} {vs:List Value} {t:Term} (h:fP K w vs t):KD w vs (iL t):=by
 obtain⟨m,ao,n,cap,bo,k,cb,h1,h2,h3,h4⟩:=h;exact⟨ao,n,cap,bo,k,cb,by rw[h1,h2.neg];rfl,h2.sl,h4⟩
theorem qY (t:Term):mQ (iL t)=t:=by
 unfold mQ iL;simp only[aC,qZ]
structure Pr [Ol] (w:World) (ao:Option Addr) (n cap:Nat) (ts:List Raw):Prop where
 ex:∃aW,Gl 3 w ao n cap aW/\ bG (KD w) aW ts
theorem Pr.len [Ol] {w:World} {ao:Option Addr} {n cap:Nat} {p:List Raw} (h:Pr w ao n cap p):p.length=n:=by
 obtain⟨aW,h1,h2⟩:=h.ex;rw[<-h2.len,h1.len]
theorem Pr.below [Ol] {w w':World} {ao:Option Addr} {n cap:Nat} {p:List Raw} (h:Pr w ao n cap p) (hb:Below w.heap.size w w'):Pr w' ao n cap p:=by
 obtain⟨aW,h1,h2⟩:=h.ex;exact⟨aW,h1.below hb,h2.imp fun v a h=>h.below hb⟩
theorem bG.map {α β:Type} {R:List Value->α->Prop} {S:List Value->β->Prop} (f:α->β):∀{vs:List (List Value)} {l:List α},(∀v a,a∈l->R v a->S v (f a))->bG R vs l->bG S vs (l.map f)
 |[],[],_,_=>trivial
 | _::_,_::_,hRS,h=>⟨hRS _ _ (by simp) h.1,bG.map f (fun v a ha=>hRS v a (by simp[ha])) h.2⟩
 |[],_::_,_,h=>h.elim
 | _::_,[],_,h=>h.elim
theorem Pc.raw [Ol] {K:Nat} {w:World} {ao:Option Addr} {n cap:Nat} {p:List Term} (h:Pc K w ao n cap p):Pr w ao n cap (p.map iL):=by
 obtain⟨aW,h1,h2⟩:=h.ex;exact⟨aW,h1,bG.map iL (fun v a _ h=>h.raw) h2⟩
theorem Pr.pi [Ol] {K:Nat} {w:World} {ao:Option Addr} {n cap:Nat} {p:List Raw} (h:Pr w ao n cap p) (hk:∀t∈p,t.1.2.length<=K):Pi K w ao n cap (p.map mQ):=by
 obtain⟨aW,h1,h2⟩:=h.ex;refine⟨aW,h1,bG.map mQ (fun v a ha h=>?_) h2⟩;obtain⟨ao,n,cap,bo,k,cb,e1,e2,e4⟩:=h;exact⟨_,ao,n,cap,bo,k,cb,e1,⟨_,e2,rfl⟩,by rw[<-e2.len];exact hk a ha,e4⟩
theorem Oh [Ol] (r:Bool) {m k:Bool} {ao bo:Option Addr} {n cap l cb:Nat} {xs ys:List Nat} {w:World} (hs:Sl w ao n cap xs) (ht:Sl w bo l cb ys) (h:decide ((m,xs)=(k,ys))=r):
  Calls Tryz.prog 37 #[.agg #[.bool m,.slice ao n cap],.agg #[.bool k,.slice bo l cb]] w (bN (.bool r) w):=by
 by_cases hmk:m=k
 ·subst hmk;exact xV r hs ht (by rw[<-h];unfold qp;simp)
 ·rw[show decide ((m,xs)=(k,ys))=false from decide_eq_false (fun e=>hmk (congrArg Prod.fst e))]at h;subst h;exact Aq hmk
theorem ny [Ol] (r:Bool) {ao bo:Option Addr} {n cap l cb:Nat} {ps qs:List Raw} {w:World} (hp:Pr w ao n cap ps) (hq:Pr w bo l cb qs) (h:decide (ps=qs)=r):
  Calls Tryz.prog 13 #[.slice ao n cap,.slice bo l cb] w (bN (.bool r) w):=by
 obtain⟨aW,hG,hT⟩:=hp.ex;obtain⟨uss,hG2,Zw⟩:=hq.ex;have hbig:=hG.big;have hbig2:=hG2.big;have ni:=hid hp.len;have uT:=hid hq.len;have Rc:=hid hG;have QJ:=hid hT;have Yd:=hid hG2;have Rf:=hid Zw;have HR:=hid h;clear hp hq hG hT hG2 Zw h;by_cases hnl:n=l
 ·subst hnl;have hd:((n:Int)==(n:Int))=true:=beq_self_eq_true _;have hd2:((n:Int) !=(n:Int))=false:=by simp
  go_enter Tryz.func13,Tryz.ntmps13;go_wp2;go_loopw [5] (fun i wr=>∃k:Nat,i= .int .i64 k/\ k<=n/\ Hid (ps.take k=qs.take k)/\ Hid (Below w.heap.size w wr)) (fun i _=>n-(intOf i).toNat)
  case atStart=>exact⟨0,rfl,Nat.zero_le _,by simp[Hid],Below.refl _ _⟩
  case round=>
   obtain⟨k,rfl,hk,HE,HB⟩:=hrel;by_cases hkn:k<n
   ·obtain⟨b,off,rfl,_,hcl⟩:=Rc.out.at (by omega);obtain⟨xa,xn,xc,xp,xq,xr,hv,tz,mR⟩:=bG.get eu QJ.out k (by rw[ni.out];omega);have oJ:k<ps.length:=by rw[ni.out];omega
    have DU:ps.getD k eu=ps[k]:=by simp[List.getD,List.getElem?_eq_getElem oJ]
    have hcells:∀V:World,Below w.heap.size w V->(V.cell? ⟨b,off+k*3,none⟩=some (.bool (ps.getD k eu).1.1)/\ V.cell? ⟨b,off+k*3+1,none⟩=some (.slice xa xn xc)/\ V.cell? ⟨b,off+k*3+2,none⟩=some (.slice xp xq xr)):=by
     intro V hV;have h0:=hcl V hV k (by omega) 0 (by omega);have h1:=hcl V hV k (by omega) 1 (by omega);have h2:=hcl V hV k (by omega) 2 (by omega);rw[hv]at h0 h1 h2;exact⟨h0,h1,h2⟩
    rw[DU]at tz mR;obtain⟨xm,hxm⟩:∃xm,xm=(ps.getD k eu).1.1:=⟨_,rfl⟩;rw[<-hxm]at hcells;rw[DU]at hxm;have sU:=hid hcells;have Ar:=hid tz;have KE:=hid mR;have HNP:=hid hxm;clear hcl hv hcells tz mR DU hxm;obtain⟨d,tF,rfl,_,hcl⟩:=Yd.out.at (by omega);obtain⟨ya,yn,yc,yp,yq,yr,hv,tz,mR⟩:=bG.get eu Rf.out k (by rw[uT.out];omega);have zJ:k<qs.length:=by rw[uT.out];omega
    have QK:qs.getD k eu=qs[k]:=by simp[List.getD,List.getElem?_eq_getElem zJ]
    have hcells:∀V:World,Below w.heap.size w V->(V.cell? ⟨d,tF+k*3,none⟩=some (.bool (qs.getD k eu).1.1)/\ V.cell? ⟨d,tF+k*3+1,none⟩=some (.slice ya yn yc)/\ V.cell? ⟨d,tF+k*3+2,none⟩=some (.slice yp yq yr)):=by
     intro V hV;have h0:=hcl V hV k (by omega) 0 (by omega);have h1:=hcl V hV k (by omega) 1 (by omega);have h2:=hcl V hV k (by omega) 2 (by omega);rw[hv]at h0 h1 h2;exact⟨h0,h1,h2⟩
    rw[QK]at tz mR;obtain⟨ym,hym⟩:∃ym,ym=(qs.getD k eu).1.1:=⟨_,rfl⟩;rw[<-hym]at hcells;rw[QK]at hym;have KF:=hid hcells;have HSQ:=hid tz;have VZ:=hid mR;have HNQ:=hid hym;clear hcl hv hcells tz mR QK hym;have HSM:Hid (∀V:World,Below w.heap.size w V->Calls Tryz.prog 37 #[.agg #[.bool xm,.slice xa xn xc],.agg #[.bool ym,.slice ya yn yc]] V (bN (.bool (decide ((ps[k]).1=(qs[k]).1))) V)):=fun V hV=>by rw[HNP.out,HNQ.out];exact Oh _ (Ar.out.below hV) (HSQ.out.below hV) rfl
    have NQ:Hid (∀V:World,Below w.heap.size w V->Calls Tryz.prog 38 #[.slice xp xq xr,.slice yp yq yr] V (bN (.bool (decide ((ps[k]).2=(qs[k]).2))) V)):=fun V hV=>KG _ (KE.out.below hV) (VZ.out.below hV) rfl
    obtain⟨A,hA⟩:∃A,A=decide ((ps[k]).1=(qs[k]).1):=⟨_,rfl⟩;obtain⟨C,hC⟩:∃C,C=decide ((ps[k]).2=(qs[k]).2):=⟨_,rfl⟩;rw[<-hA]at HSM;rw[<-hC]at NQ;have HA:=hid hA;have HC:=hid hC;clear hA hC;go_upto_region 6 with(fail)
    refine wp_region_held_drew (S:=fun w'=>(w'.cell? ⟨b,off+k*3,none⟩=some (.bool xm)/\ w'.cell? ⟨b,off+k*3+1,none⟩=some (.slice xa xn xc)/\ w'.cell? ⟨b,off+k*3+2,none⟩=some (.slice xp xq xr))/\ (w'.cell? ⟨d,tF+k*3,none⟩=some (.bool ym)/\ w'.cell? ⟨d,tF+k*3+1,none⟩=some (.slice ya yn yc)/\ w'.cell? ⟨d,tF+k*3+2,none⟩=some (.slice yp yq yr))) (by kernel_rfl) ⟨sU.out _ HB.out.drew,KF.out _ HB.out.drew⟩ (fun hH=>?_);refine ak (fun w4 hW=>?_);have mW:Hid (Below w.heap.size w w4):=by rw[hW];exact HB.out.drew
    rw[<-hW]at hH;clear hW HB;refine aB 0 hH ?_;try simp only[ai]
    refine aB 1 hH ?_;try simp only[ai]
    refine aB 2 hH ?_;try simp only[ai]
    refine aB 3 hH ?_;try simp only[ai]
    refine aB 4 hH ?_;try simp only[ai]
    refine aB 5 hH ?_;try simp only[ai]
    refine aB 6 hH ?_;try simp only[ai]
    refine aB 7 hH ?_;try simp only[ai]
    refine aB 8 hH ?_;try simp only[ai]
    refine aB 9 hH ?_;try simp only[ai]
    refine aj 10 rfl (by kernel_rfl) (fun KK hK=>?_);go_simp;refine(HSM.out _ mW.out).mono ?_;rintro e w5 ⟨rfl,hB⟩;have lY:=hid (Below.steps mW.out hB);clear hB mW;go_wp2_with fail;clear hH;refine hK.out _ _ ⟨sU.out _ lY.out,KF.out _ lY.out⟩ fun hH=>?_;clear hK KK
    try simp only[ai]
    cases A with
    |true=>
     refine aB 11 hH ?_;try simp only[ai]
     refine aB 12 hH ?_;try simp only[ai]
     refine aB 13 hH ?_;try simp only[ai]
     refine aB 14 hH ?_;try simp only[ai]
     refine aB 15 hH ?_;try simp only[ai]
     refine aB 16 hH ?_;try simp only[ai]
     refine aB 17 hH ?_;try simp only[ai]
     refine aB 18 hH ?_;try simp only[ai]
     refine aB 19 hH ?_;try simp only[ai]
     refine aB 20 hH ?_;try simp only[ai]
     refine aB 21 hH ?_;try simp only[ai]
     refine aB 22 hH ?_;try simp only[ai]
     refine aj 23 rfl (by kernel_rfl) (fun KK hK=>?_);go_simp;refine(NQ.out _ lY.out).mono ?_;rintro e w6 ⟨rfl,hB⟩;have q8:=hid (Below.steps lY.out hB);clear hB lY;go_wp2_with fail;clear hH;refine hK.out _ _ ⟨sU.out _ q8.out,KF.out _ q8.out⟩ fun hH=>?_;clear hK KK
     try simp only[ai]
     refine aB 24 hH ?_;try simp only[ai]
     refine aB 25 hH ?_;try simp only[ai]
     refine wpAnyH_done (by kernel_rfl) ?_ _
     cases C with
     |true=>
      have HE2:Hid (ps.take (k+1)=qs.take (k+1)):=by
       rw[Hid,List.take_succ_eq_append_getElem oJ,List.take_succ_eq_append_getElem zJ,HE.out,Prod.ext (of_decide_eq_true HA.out.symm) (of_decide_eq_true HC.out.symm)]
      go_wp2_with fail;go_roundw
      case rel=>exact⟨k+1,by go_num,by omega,HE2,q8⟩
      case measure=>simp[intOf];omega
     |false=>
      have HR2:Hid (r=false):=by
       rw[Hid,<-HR.out];exact decide_eq_false fun e=>of_decide_eq_false HC.out.symm (by subst e;rfl)
      go_wp2_with fail;go_ret;have hr:=HR2.out;subst hr;exact⟨rfl,q8.out⟩
    |false=>
     have HR2:Hid (r=false):=by
      rw[Hid,<-HR.out];exact decide_eq_false fun e=>of_decide_eq_false HA.out.symm (by subst e;rfl)
     refine aB 11 hH ?_;try simp only[ai]
     refine aB 12 hH ?_;try simp only[ai]
     refine jJ 13 hH ?_;try simp only[ai]
     refine jJ 14 hH ?_;try simp only[ai]
     refine jJ 15 hH ?_;try simp only[ai]
     refine jJ 16 hH ?_;try simp only[ai]
     refine jJ 17 hH ?_;try simp only[ai]
     refine jJ 18 hH ?_;try simp only[ai]
     refine jJ 19 hH ?_;try simp only[ai]
     refine jJ 20 hH ?_;try simp only[ai]
     refine jJ 21 hH ?_;try simp only[ai]
     refine jJ 22 hH ?_;try simp only[ai]
     refine jJ 23 hH ?_;try simp only[ai]
     refine jJ 24 hH ?_;try simp only[ai]
     refine aB 25 hH ?_;try simp only[ai]
     refine wpAnyH_done (by kernel_rfl) ?_ _
     go_wp2_with fail;go_ret;have hr:=HR2.out;subst hr;exact⟨rfl,lY.out⟩
   ·obtain rfl:k=n:=by omega
    have HR2:Hid (r=true):=by
     rw[Hid,<-HR.out];have h:=HE.out;rw[List.take_of_length_le (by rw[ni.out];exact Nat.le_refl _),List.take_of_length_le (by rw[uT.out];exact Nat.le_refl _)]at h;exact decide_eq_true h
    go_wp2_with fail;go_ret;have hr:=HR2.out;subst hr;exact⟨rfl,HB.out⟩
 ·have HR2:Hid (r=false):=by
   rw[Hid,<-HR.out];exact decide_eq_false fun e=>hnl (by rw[<-ni.out,<-uT.out,e])
  have hd:((n:Int)==(l:Int))=false:=by simpa using(by omega:¬(n:Int)=l)
  have hd2:((n:Int) !=(l:Int))=true:=by simpa using(by omega:¬(n:Int)=l)
  go_enter Tryz.func13,Tryz.ntmps13;go_wp2_with fail;go_ret;have hr:=HR2.out;subst hr;exact⟨rfl,Below.refl _ _⟩
end Go.Proofs.YthdhjckangekoaaGreat

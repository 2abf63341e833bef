/- Tms, Tm, Put, PAdd, PTimes, PNeg, PSub, POf, PPoly, PRaw -/
import Derived.Test.YtmenbpmciblnlaaGreatDoorGl
import Derived.Test.YtmenbpmciblnlaaGreatDoorEn
import Derived.Test.YtmenbpmciblnlaaGreatDoorGPp
import Derived.Test.YtmenbpmciblnlaaGreatDoorGWZ2
import Derived.Test.YtmenbpmciblnlaaGreatDoorGM3
set_option maxHeartbeats 40000000
set_option maxRecDepth 100000
namespace Go.Proofs.YtmenbpmciblnlaaGreatDoor
open Go.RowKit
def bY {α:Type} (R:List Value->α->Prop):List (List Value)->List α->Prop
 |[],[]=>True
 |v::vs,a::l=>R v a/\ bY R vs l
 | _,_=>False
theorem bY.len {α:Type} {R:List Value->α->Prop}:∀{vs:List (List Value)} {l:List α},bY R vs l->vs.length=l.length
 |[],[],_=>rfl
 | _::_,_::_,h=>by simp[bY.len h.2]
 |[],_::_,h=>h.elim
 | _::_,[],h=>h.elim
theorem bY.imp {α:Type} {R S:List Value->α->Prop} (hRS:∀v a,R v a->S v a):∀{vs:List (List Value)} {l:List α},bY R vs l->bY S vs l
 |[],[],_=>trivial
 | _::_,_::_,h=>⟨hRS _ _ h.1,bY.imp hRS h.2⟩
 |[],_::_,h=>h.elim
 | _::_,[],h=>h.elim
theorem bY.get {α:Type} {R:List Value->α->Prop} (d:α):∀{vs:List (List Value)} {l:List α},bY R vs l->∀t,t<l.length->R (vs.getD t []) (l.getD t d)
 | _::_,_::_,h,0,_=>h.1
 | _::_,_::_,h,t+1,ht=>by
  have:=bY.get d h.2 t (by simpa using ht);simpa using this
 |[],[],_,_,ht=>by simp at ht
 |[],_::_,h,_,_=>h.elim
 | _::_,[],h,_,_=>h.elim
theorem bY.append {α:Type} {R:List Value->α->Prop}:∀{vs us:List (List Value)} {l k:List α},bY R vs l->bY R us k->bY R (vs++us) (l++k)
 |[],_,[],_,_,hk=>hk
 | _::_,_,_::_,_,h,hk=>⟨h.1,bY.append h.2 hk⟩
 |[],_,_::_,_,h,_=>h.elim
 | _::_,_,[],_,h,_=>h.elim
theorem bY.take {α:Type} {R:List Value->α->Prop}:∀{vs:List (List Value)} {l:List α},bY R vs l->∀k,bY R (vs.take k) (l.take k)
 |[],[],_,k=>by simp[bY]
 | _::_,_::_,_,0=>by simp[bY]
 | _::_,_::_,h,k+1=>⟨h.1,bY.take h.2 k⟩
 |[],_::_,h,_=>h.elim
 | _::_,[],h,_=>h.elim
theorem bY.drop {α:Type} {R:List Value->α->Prop}:∀{vs:List (List Value)} {l:List α},bY R vs l->∀k,bY R (vs.drop k) (l.drop k)
 |[],[],_,k=>by simp[bY]
 | _::_,_::_,h,0=>h
 | _::_,_::_,h,k+1=>bY.drop h.2 k
 |[],_::_,h,_=>h.elim
 | _::_,[],h,_=>h.elim
theorem fZ {α:Type} {R:List Value->α->Prop} (hR:∀v a,R v a->∀u∈v,bB u=true):∀{vs:List (List Value)} {l:List α},bY R vs l->∀u∈vs.flatten,bB u=true
 |[],[],_,u,hu=>by simp at hu
 |v::vs,a::l,h,u,hu=>by
  rw[List.flatten_cons]at hu;rcases List.mem_append.1 hu with hu|hu
  ·exact hR v a h.1 u hu
  ·exact fZ hR h.2 u hu
 |[],_::_,h,_,_=>h.elim
 | _::_,[],h,_,_=>h.elim
def DK [Ol] (K:Nat) (w:World) (vs:List Value) (t:Term):Prop:=
 ∃m ao n cap bo k cb,vs=[.bool m,.slice ao n cap,.slice bo k cb]/\ Zd w m ao n cap t.1/\ Bd t.1 K/\ Ml w bo k cb t.2
theorem DK.below [Ol] {K:Nat} {w w':World} {vs:List Value} {t:Term} (h:DK K w vs t) (hb:Below w.heap.size w w'):DK K w' vs t:=by
 obtain⟨m,ao,n,cap,bo,k,cb,h1,h2,h3,h4⟩:=h;exact⟨m,ao,n,cap,bo,k,cb,h1,h2.below hb,h3,h4.below hb⟩
theorem DK.mono [Ol] {K L:Nat} {w:World} {vs:List Value} {t:Term} (h:DK K w vs t) (hk:K<=L):DK L w vs t:=by
 obtain⟨m,ao,n,cap,bo,k,cb,h1,h2,h3,h4⟩:=h;exact⟨m,ao,n,cap,bo,k,cb,h1,h2,h3.mono hk,h4⟩
theorem Ml.stays [Ol] {B:Nat} {e:TypeId} {sz:Nat} {w w':World} {ao:Option Addr} {n cap:Nat} {bM:List (List Value)} {bo:Option Addr} {k cb:Nat} {ps:List (Int×Int)} (h:Ml w bo k cb ps) (hO:iK B e sz w ao n cap bM) (hG:w.grownBy w' (Value.slice ao n cap).ownBlock):Ml w' bo k cb ps:=
 ⟨h.len,h.le,h.big,h.wf,h.nil,fun ad had t ht=>⟨hO.stays hG (h.cells ad had t ht).1,hO.stays hG (h.cells ad had t ht).2⟩,fun h0 ad had=>by
  obtain⟨x,hx⟩:=h.int h0 had;exact(h.kp h0 ad had).grown (h.blt h0 had) hG fun eq=>(hO.AJ _ eq.symm).far hx rfl⟩
theorem Zd.stays [Ol] {B:Nat} {e:TypeId} {sz:Nat} {w w':World} {ao:Option Addr} {n cap:Nat} {bM:List (List Value)} {m:Bool} {bo:Option Addr} {k cb:Nat} {z:Int} (h:Zd w m bo k cb z) (hO:iK B e sz w ao n cap bM) (hG:w.grownBy w' (Value.slice ao n cap).ownBlock):Zd w' m bo k cb z:=
 ⟨h.neg,h.sl.len,h.sl.le,h.sl.big,h.sl.wf,h.sl.nil,(fun ad had t ht=>hO.stays hG (h.sl.cells ad had t ht)),fun h0 ad had=>by
  obtain⟨x,hx⟩:=h.sl.int h0 had;exact(h.sl.kp h0 ad had).grown (h.sl.blt h0 had) hG fun eq=>(hO.AJ _ eq.symm).far hx rfl⟩
theorem DK.stays [Ol] {B:Nat} {e:TypeId} {sz:Nat} {w w':World} {ao:Option Addr} {n cap:Nat} {bM:List (List Value)} {K:Nat} {vs:List Value} {t:Term} (h:DK K w vs t) (hO:iK B e sz w ao n cap bM) (hG:w.grownBy w' (Value.slice ao n cap).ownBlock):DK K w' vs t:=by
 obtain⟨m,ao,n,cap,bo,k,cb,h1,h2,h3,h4⟩:=h;exact⟨m,ao,n,cap,bo,k,cb,h1,h2.stays hO hG,h3,h4.stays hO hG⟩
theorem gV [Ol] {K:Nat} {w:World} {vs:List Value} {t:Term} (h:DK K w vs t):∀u∈vs,bB u=true:=by
 obtain⟨m,ao,n,cap,bo,k,cb,rfl,_⟩:=h;intro u hu;simp at hu;rcases hu with rfl|rfl|rfl<;>rfl
structure Pz [Ol] (K:Nat) (w:World) (ao:Option Addr) (n cap:Nat) (p:List Term):Prop where
 ex:∃bM,Gl 3 w ao n cap bM/\ bY (DK K w) bM p
theorem Pz.len [Ol] {K:Nat} {w:World} {ao:Option Addr} {n cap:Nat} {p:List Term} (h:Pz K w ao n cap p):p.length=n:=by
 obtain⟨bM,h1,h2⟩:=h.ex;rw[<-h2.len,h1.len]
theorem Pz.le [Ol] {K:Nat} {w:World} {ao:Option Addr} {n cap:Nat} {p:List Term} (h:Pz K w ao n cap p):n<=cap:=by
 obtain⟨bM,h1,h2⟩:=h.ex;exact h1.le
theorem Pz.below [Ol] {K:Nat} {w w':World} {ao:Option Addr} {n cap:Nat} {p:List Term} (h:Pz K w ao n cap p) (hb:Below w.heap.size w w'):Pz K w' ao n cap p:=by
 obtain⟨bM,h1,h2⟩:=h.ex;exact⟨bM,h1.below hb,h2.imp fun v a h=>h.below hb⟩
theorem Pz.mono [Ol] {K L:Nat} {w:World} {ao:Option Addr} {n cap:Nat} {p:List Term} (h:Pz K w ao n cap p) (hk:K<=L):Pz L w ao n cap p:=by
 obtain⟨bM,h1,h2⟩:=h.ex;exact⟨bM,h1,h2.imp fun v a h=>h.mono hk⟩
theorem Pz.zero [Ol] (K:Nat) (w:World):Pz K w none 0 0 []:=⟨[],Gl.zero 3 w,trivial⟩
def uy [Ol] (K:Nat) (w:World) (p:List Term) (e:Ending) (w':World):Prop:=∃ao n cap,e= .returned (.slice ao n cap)/\ Pz K w' ao n cap p/\ Below w.heap.size w w'
theorem Tryz.NP:(Tryz.prog.info? 87).map (fun i=>(i.zero,i.size,i.bytes))=some (some (.agg #[.bool false,.slice none 0 0,.slice none 0 0]),3,56):=by kernel_rfl
theorem o7 (c:Int) (m:List (Int×Int)):∀(p:List Term) (k:Nat),k<=p.length->(∀t,t<k->0<lX (p.getD t (0,[])).2 m)->
  iP p c m=p.take k++iP (p.drop k) c m
 | _,0,_,_=>by simp
 |t::r,k+1,hk,h=>by
  have h0:0<lX t.2 m:=by simpa using h 0 (by omega)
  have ih:=o7 c m r k (by simpa using hk) (fun j hj=>by simpa using h (j+1) (by omega));rw[List.take_succ_cons,List.drop_succ_cons,List.cons_append,<-ih]
  conv=>lhs;unfold iP
  rw[if_pos h0]
 |[],k+1,hk,_=>by simp at hk
open Lib (hid)
theorem Rj [Ol] {w:World} {b:Nat} {vs:List Value} {T:TypeId} {m:Bool} {ao:Option Addr} {n cap:Nat} {z:Int} (hb:bD w b vs T) (h:Zd w m ao n cap z) (u v:Value) (hv:∀x∈vs,bB x=true):Zd ((w.setCell ⟨b,0,none⟩ u).setCell ⟨b,1,none⟩ v) m ao n cap z:=by
 have hcl:fe w b:=fun cur T fr hh=>by
  unfold bD at hb;rw[hb]at hh;cases hh;exact hv
 refine⟨h.neg,h.sl.len,h.sl.le,h.sl.big,h.sl.wf,h.sl.nil,fun ad had t ht=>?_,fun h0 ad had=>?_⟩
 rotate_left
 ·obtain⟨x,hx⟩:=h.sl.int h0 had;have hne:=hcl.far hx;exact(h.sl.kp h0 ad had).keep ((Below.heap_setCell _ _ _ _ hne).trans (Below.heap_setCell _ _ _ _ hne))
 have hc:=h.sl.cells ad had t ht;have hne:=hcl.far hc;exact(World.cell?_of_block ((Below.heap_setCell _ _ _ _ hne).trans (Below.heap_setCell _ _ _ _ hne))).trans hc
theorem CK [Ol] {K:Nat} {ao zo mo:Option Addr} {n cap zn zc mn mc:Nat} {mz:Bool} {p:List Term} {c:Int} {m:List (Int×Int)} {w:World} (hp:Pz K w ao n cap p) (hz:Zd w mz zo zn zc c) (hbz:Bd c K) (hm:Ml w mo mn mc m)
  (hf:fall p) (hmm:bA 0 m=true) (hn:n<=2000000) (hK:K<=9000):
  Calls Tryz.prog 46 #[.slice ao n cap,.agg #[.bool mz,.slice zo zn zc],.slice mo mn mc] w (uy (K+1) w (iP p c m)):=by
 obtain⟨i0,hi,hz0,hz1,hz2⟩:=info_parts Tryz.NP;obtain⟨bM,hG,hT⟩:=hp.ex;have hle:=hG.le;have hbig:=hG.big;have hpl:=hp.len;have HG:=hid hG;have HT:=hid hT;have HZ:=hid hz;have XW:=hid hbz;have HM:=hid hm;have HF:=hid hf;have MZ:=hid hmm;have vF:=hid hpl;clear hp hz hbz hm hf hmm hG hT hpl;go_enter Tryz.func46,Tryz.ntmps46;go_upto_region 1 with(fail)
 refine aj (fun W hW=>?_);have HB:Hid (Below w.heap.size w W):=by rw[hW];exact af _ _
 have HX:Hid (bD W w.heap.size [.bool mz,.slice zo zn zc] 45):=by rw[hW];exact bD.new w [.bool mz,.slice zo zn zc] _
 clear hW;go_wp2;go_loopw [7,8] (fun o i wr=>∃(k cp:Nat) (oo:Option Addr),i= .int .i64 k/\ o= .slice oo k cp/\ k<=n/\ Hid (∀t,t<k->0<lX (p.getD t (0,[])).2 m)/\ Hid (iK w.heap.size 87 3 wr oo k cp (bM.take k)/\ bD wr w.heap.size [.bool mz,.slice zo zn zc] 45/\ Below w.heap.size w wr)) (fun _ i _=>n-(intOf i).toNat)
 case atStart=>exact⟨0,0,none,rfl,rfl,Nat.zero_le _,fun t ht=>by omega,iK.nil _ _ _ _,HX.out,HB.out⟩
 case round=>
  clear HX HB;obtain⟨k,cp,oo,rfl,rfl,hk,HC,HS⟩:=hrel;by_cases hkn:k<n
  ·obtain⟨b,off,rfl,hb,hcl⟩:=HG.out.at (by omega);obtain⟨tm,ta,tn,tc,ba,bn,bc,hv,tz,tb,vC⟩:=bY.get (0,[]) HT.out k (by rw[vF.out];exact hkn);have hmay:bA 0 (p.getD k (0,[])).2=true:=jQ HF.out _ (by simp only[List.getD,List.getElem?_eq_getElem (show k<p.length by rw[vF.out];exact hkn),Option.getD_some];exact List.getElem_mem _)
   have hcells:∀V:World,Below w.heap.size w V->V.cell? ⟨b,off+k*3,none⟩=some (.bool tm)/\ V.cell? ⟨b,off+k*3+1,none⟩=some (.slice ta tn tc)/\ V.cell? ⟨b,off+k*3+2,none⟩=some (.slice ba bn bc):=by
    intro V hV;have h0:=hcl V hV k hkn 0 (by omega);have h1:=hcl V hV k hkn 1 (by omega);have h2:=hcl V hV k hkn 2 (by omega);rw[hv]at h0 h1 h2;exact⟨h0,h1,h2⟩
   have HV:Hid (bM.getD k []=[.bool tm,.slice ta tn tc,.slice ba bn bc]):=hv;have vD:=hid hcells;have Rk:=hid tz;have NQ:=hid tb;have Rl:=hid vC;have Rf:=hid hmay;clear hcl hv hcells tz tb vC hmay;obtain⟨z,hz⟩:∃z,z=lX (p.getD k (0,[])).2 m:=⟨_,rfl⟩;have HZC:Hid (qA z (si (p.getD k (0,[])).2) (si m)):=by rw[hz,uP Rf.out,uP MZ.out];exact rG Rf.out MZ.out
   have Tv:=hid hz;clear hz;obtain⟨c0,c1,c2⟩:=vD.out _ HS.out.2.2;go_wp2_with fail;refine(uQ (Rl.out.below HS.out.2.2) (HM.out.below HS.out.2.2) z HZC.out).mono ?_;rintro e w2 ⟨rfl,hB⟩;have HS2:Hid (iK w.heap.size 87 3 w2 oo k cp (bM.take k)/\ bD w2 w.heap.size [.bool mz,.slice zo zn zc] 45/\ Below w.heap.size w w2):=⟨HS.out.1.below hB,HS.out.2.1.below hB,Below.steps HS.out.2.2 hB⟩;clear hB HS c0 c1 c2;by_cases g:0<z
   ·have g1:decide (0<z)=true:=decide_eq_true g;have HGZ:=hid g;clear g;obtain⟨c0,c1,c2⟩:=vD.out _ HS2.out.2.2;have hk2:k+1<=2000001:=by omega
    go_wp2_with (at_builtin;refine fw w2 w rfl (.tmp 23) (.tmp 28) 39 rfl w.heap.size 87 3 56 i0 (.agg #[.bool false,.slice none 0 0,.slice none 0 0]) Tryz.underlying39 hi hz0 hz1 hz2 rfl (by omega) oo k cp (bM.take k) rfl HS2.out.1 [.bool tm,.slice ta tn tc,.slice ba bn bc] rfl (by simp[Value.oneCell']) (by simp[Value.cells,bB]) (by simp[bB]) _ rfl HS2.out.2.2 HS2.out.2.2.size (by omega) (by omega) ?_;intro o2 cp2 w3 hO hB3 hG3;have HO:=hid hO;have HB3:=hid hB3;have Gb:=hid ((HS2.out.2.1.below (af w2 _)).grown (HS2.out.1.below (af w2 _)) (by decide) hG3);clear hO hB3 hG3 c0 c1 c2);go_roundw
    case rel=>
     refine⟨k+1,cp2,o2,by go_num,rfl,by omega,fun t ht=>?_,?_,Gb.out,HB3.out⟩
     ·by_cases h:t<k
      ·exact HC.out t h
      ·obtain rfl:t=k:=by omega
       rw[<-Tv.out];exact HGZ.out
     ·have e:bM.take (k+1)=bM.take k++[[.bool tm,.slice ta tn tc,.slice ba bn bc]]:=by
       rw[List.take_succ_eq_append_getElem (by rw[HG.out.len];exact hkn)]
       congr 2
       rw[<-HV.out];simp[List.getD,List.getElem?_eq_getElem (show k<bM.length by rw[HG.out.len];exact hkn)]
      rw[e];exact HO.out
    case measure=>simp[intOf];omega
   ·have g1:decide (0<z)=false:=decide_eq_false g;have Tf:=hid g;clear g;obtain⟨c0,c1,c2⟩:=vD.out _ HS2.out.2.2;go_wp2_with fail;refine(uQ (Rl.out.below HS2.out.2.2) (HM.out.below HS2.out.2.2) z HZC.out).mono ?_;rintro e w3 ⟨rfl,hB⟩;have Ar:Hid (iK w.heap.size 87 3 w3 oo k cp (bM.take k)/\ bD w3 w.heap.size [.bool mz,.slice zo zn zc] 45/\ Below w.heap.size w w3):=⟨HS2.out.1.below hB,HS2.out.2.1.below hB,Below.steps HS2.out.2.2 hB⟩;clear hB HS2 c0 c1 c2;obtain⟨c0,c1,c2⟩:=vD.out _ Ar.out.2.2;by_cases gz:z=0
    ·have HZ0:=hid gz;have g2:(z==0)=true:=by simpa using gz
     clear gz
     have HR:Hid (iP p c m=p.take k++((if c+(p.getD k (0,[])).1=0 then[]else[(c+(p.getD k (0,[])).1,m)])++p.drop (k+1))):=by
      have hl:k<p.length:=by rw[vF.out];exact hkn
      rw[Hid,o7 c m p k (by omega) HC.out,List.drop_eq_getElem_cons hl];have e:p.getD k (0,[])=p[k]:=by simp[List.getD,List.getElem?_eq_getElem hl]
      have h1:=Tv.out;rw[e]at h1 ⊢;simp only[iP];rw[if_neg (by rw[<-h1];have:=Tf.out;omega),if_pos (by rw[<-h1];exact HZ0.out)];by_cases hc:c+(p[k]).1=0
      ·rw[if_pos hc,if_pos hc];rfl
      ·rw[if_neg hc,if_neg hc];rfl
     clear HC c0 c1 c2;go_upto_region 7 with(fail)
     have hcc:∀V:World,Below w.heap.size w V->V.cell? ⟨b,off+k*3,none⟩=some (.bool tm)/\ V.cell? ⟨b,off+k*3+1,none⟩=some (.slice ta tn tc):=fun V hV=>⟨(vD.out V hV).1,(vD.out V hV).2.1⟩
     have Ty:=hid hcc;clear hcc;refine wp_region_held_drew (S:=fun w'=>w'.cell? ⟨b,off+k*3,none⟩=some (.bool tm)/\ w'.cell? ⟨b,off+k*3+1,none⟩=some (.slice ta tn tc)) (by kernel_rfl) (Ty.out _ Ar.out.2.2.drew) (fun hH=>?_);refine ai (fun w4 hW=>?_);have kL:Hid (iK w.heap.size 87 3 w4 oo k cp (bM.take k)/\ bD w4 w.heap.size [.bool mz,.slice zo zn zc] 45/\ Below w.heap.size w w4):=by rw[hW];exact⟨Ar.out.1.below (Below.refl _ _).drew,Ar.out.2.1.below (Below.refl _ _).drew,Ar.out.2.2.drew⟩
     rw[<-hW]at hH;clear hW Ar;refine bC 1 hH ?_;try simp only[aI]
     refine bC 2 hH ?_;try simp only[aI]
     refine bC 3 hH ?_;try simp only[aI]
     refine bC 4 hH ?_;try simp only[aI]
     refine bC 5 hH ?_;try simp only[aI]
     refine ah 0 rfl (by kernel_rfl) (fun KK hK=>?_);have x0:=kL.out.2.1.cell 0;have x1:=kL.out.2.1.cell 1;simp only[List.getElem?_cons_zero,List.getElem?_cons_succ]at x0 x1;go_simp;clear x0 x1;clear hH;refine hK.out _ _ (Ty.out _ kL.out.2.2) fun hH=>?_;clear hK KK
     try simp only[aI]
     refine ah 6 rfl (by kernel_rfl) (fun KK hK=>?_);go_simp;refine(NN ((HZ.out.below kL.out.2.2).zx XW.out (by omega)) ((Rk.out.below kL.out.2.2).zx NQ.out (by omega))).mono ?_;rintro e w5 ⟨rm,ra,rn,rc,rfl,hX,hB⟩;have jA:Hid (iK w.heap.size 87 3 w5 oo k cp (bM.take k)/\ bD w5 w.heap.size [.bool mz,.slice zo zn zc] 45/\ Below w.heap.size w w5):=⟨kL.out.1.below hB,kL.out.2.1.below hB,Below.steps kL.out.2.2 hB⟩;have Qc:=hid hX;clear kL hX hB;go_wp2_with fail;clear hH;refine hK.out _ _ (Ty.out _ jA.out.2.2) fun hH=>?_;clear hK KK
     try simp only[aI]
     refine ah 7 rfl (by kernel_rfl) (fun KK hK=>?_);have x0:=jA.out.2.1.cell 0;have x1:=jA.out.2.1.cell 1;have y0:=jA.out.2.1.fz 0;have y1:=jA.out.2.1.fz 1;simp only[List.getElem?_cons_zero,List.getElem?_cons_succ]at x0 x1;go_simp;clear x0 x1 y0 y1;have oI:Hid (iK w.heap.size 87 3 _ oo k cp (bM.take k)/\ bD _ w.heap.size [.bool rm,.slice ra rn rc] 45/\ Below w.heap.size w _):=⟨(jA.out.1.far jA.out.2.1 (by decide) 0 (.bool rm)).far (jA.out.2.1.set 0 (.bool rm)) (by decide) 1 (.slice ra rn rc),(jA.out.2.1.set 0 (.bool rm)).set 1 (.slice ra rn rc),(jA.out.2.2.setCell (p:=⟨w.heap.size,0,none⟩) (Nat.le_refl _) (.bool rm)).setCell (p:=⟨w.heap.size,1,none⟩) (Nat.le_refl _) (.slice ra rn rc)⟩;have HZ2:=hid (Rj jA.out.2.1 Qc.out (.bool rm) (.slice ra rn rc) (by simp[bB]));clear jA Qc;refine hK.out _ _ (Ty.out _ oI.out.2.2) (fun h2=>?_);clear hK KK hH h2
     try simp only[aI]
     refine ai (fun w6 hW=>?_);rw[<-hW]at oI HZ2;clear hW;refine wpAnyH_done (by kernel_rfl) ?_ _
     have HB2:Hid (Bd (c+(p.getD k (0,[])).1) (K+1)):=Bd.add XW.out NQ.out (Nat.le_refl _);obtain⟨cc,hcc⟩:∃cc,cc=c+(p.getD k (0,[])).1:=⟨_,rfl⟩;rw[<-hcc]at HZ2 HR HB2;have hk1:k+1<=n:=by omega
     clear hcc Ty HZ XW NQ Rk HZC Tv;by_cases hck:cap=k+1
     ·obtain⟨s,hs⟩:∃s,(cc).sign=s:=⟨_,rfl⟩;have lq:=hid hs;clear hs;have x0:=oI.out.2.1.cell 0;have x1:=oI.out.2.1.cell 1;simp only[List.getElem?_cons_zero,List.getElem?_cons_succ]at x0 x1;go_wp2_with fail;refine(ol s (HZ2.out.zx HB2.out (by omega)) lq.out).mono ?_;rintro e w7 ⟨rfl,hB⟩;have eZ:Hid (iK w.heap.size 87 3 w7 oo k cp (bM.take k)/\ bD w7 w.heap.size [.bool rm,.slice ra rn rc] 45/\ Below w.heap.size w w7):=⟨oI.out.1.below hB,oI.out.2.1.below hB,Below.steps oI.out.2.2 hB⟩;have Bu:=hid (HZ2.out.below hB);clear hB oI HZ2 x0 x1;by_cases h0:cc=0
      ·obtain rfl:s=0:=by rw[<-lq.out,h0];rfl
       have HR2:Hid (iP p c m=p.take k++p.drop (k+1)):=HR.out.trans (by rw[if_pos h0];rfl);clear h0 HR lq;go_wp2_with (at_builtin;go_must (refine dL w7 w rfl (.tmp 64) (.tmp 67) 39 rfl w.heap.size 87 3 56 i0 (.agg #[.bool false,.slice none 0 0,.slice none 0 0]) Tryz.underlying39 hi hz0 hz1 hz2 rfl (by omega) oo k cp (bM.take k) rfl eZ.out.1 (some ⟨b,off,none⟩) _ _ (bM.drop (k+1)) rfl (((HG.out.CO (k+1) (by omega) hck).below eZ.out.2.2).cast (by omega) (by omega)) eZ.out.2.2 eZ.out.2.2.size (by omega) (by omega) (by simp[Value.cells,bB]) (fZ (fun _ _ h=>gV h) (bY.drop HT.out (k+1))) ?_);intro o8 NR w8 hO om _;have zk:=hid hO;have ji:=hid om;clear hO om);go_ret;exact⟨_,_,_,rfl,⟨_,zk.out.gl.cast (by omega) rfl,by rw[HR2.out];exact bY.append (bY.take (bY.imp (fun v a h=>(h.below ji.out).mono (Nat.le_succ K)) HT.out) _) (bY.drop (bY.imp (fun v a h=>(h.below ji.out).mono (Nat.le_succ K)) HT.out) _)⟩,ji.out⟩
      ·have hs0:(s==0)=false:=by rw[<-lq.out];simpa using h0
       have hs1:(s !=0)=true:=by rw[<-lq.out];simpa using h0
       have HR2:Hid (iP p c m=p.take k++([(cc,m)]++p.drop (k+1))):=HR.out.trans (by rw[if_neg h0]);have x0:=eZ.out.2.1.cell 0;have x1:=eZ.out.2.1.cell 1;simp only[List.getElem?_cons_zero,List.getElem?_cons_succ]at x0 x1;clear h0 HR lq
       go_wp2_with (first
        |(at_builtin;refine fw w7 w rfl (.tmp 58) (.tmp 62) 39 rfl w.heap.size 87 3 56 i0 (.agg #[.bool false,.slice none 0 0,.slice none 0 0]) Tryz.underlying39 hi hz0 hz1 hz2 rfl (by omega) oo k cp (bM.take k) rfl eZ.out.1 [.bool rm,.slice ra rn rc,.slice mo mn mc] rfl (by simp[Value.oneCell']) (by simp[Value.cells,bB]) (by simp[bB]) _ rfl eZ.out.2.2 eZ.out.2.2.size (by omega) (by omega) ?_;intro o9 NS w9 hO y8 EM;have EN:=hid hO;have nH:=hid y8;have G8:=hid ((Bu.out.below (af w7 _)).stays (eZ.out.1.below (af w7 _)) EM);clear hO y8 EM x0 x1)
        |(at_builtin;refine dL w9 w rfl (.tmp 64) (.tmp 67) 39 rfl w.heap.size 87 3 56 i0 (.agg #[.bool false,.slice none 0 0,.slice none 0 0]) Tryz.underlying39 hi hz0 hz1 hz2 rfl (by omega) o9 _ NS (bM.take k++[[.bool rm,.slice ra rn rc,.slice mo mn mc]]) rfl EN.out (some ⟨b,off,none⟩) _ _ (bM.drop (k+1)) rfl (((HG.out.CO (k+1) (by omega) hck).below nH.out).cast (by omega) (by omega)) nH.out nH.out.size (by omega) (by omega) (by simp[Value.cells,bB]) (fZ (fun _ _ h=>gV h) (bY.drop HT.out (k+1))) ?_;intro o8 NR w8 hO om xC;have zk:=hid hO;have ji:=hid om;have NT:=hid (G8.out.stays EN.out xC);clear hO om xC))
       go_ret;refine⟨_,_,_,rfl,⟨_,zk.out.gl.cast (by omega) rfl,?_⟩,ji.out⟩;rw[HR2.out,List.append_assoc];exact bY.append (bY.take (bY.imp (fun v a h=>(h.below ji.out).mono (Nat.le_succ K)) HT.out) _) (bY.append ⟨⟨_,_,_,_,_,_,_,rfl,NT.out,HB2.out,HM.out.below ji.out⟩,trivial⟩ (bY.drop (bY.imp (fun v a h=>(h.below ji.out).mono (Nat.le_succ K)) HT.out) _))
     ·obtain⟨s,hs⟩:∃s,(cc).sign=s:=⟨_,rfl⟩;have lq:=hid hs;clear hs;have x0:=oI.out.2.1.cell 0;have x1:=oI.out.2.1.cell 1;simp only[List.getElem?_cons_zero,List.getElem?_cons_succ]at x0 x1;go_wp2_with fail;refine(ol s (HZ2.out.zx HB2.out (by omega)) lq.out).mono ?_;rintro e w7 ⟨rfl,hB⟩;have eZ:Hid (iK w.heap.size 87 3 w7 oo k cp (bM.take k)/\ bD w7 w.heap.size [.bool rm,.slice ra rn rc] 45/\ Below w.heap.size w w7):=⟨oI.out.1.below hB,oI.out.2.1.below hB,Below.steps oI.out.2.2 hB⟩;have Bu:=hid (HZ2.out.below hB);clear hB oI HZ2 x0 x1;by_cases h0:cc=0
      ·obtain rfl:s=0:=by rw[<-lq.out,h0];rfl
       have HR2:Hid (iP p c m=p.take k++p.drop (k+1)):=HR.out.trans (by rw[if_pos h0];rfl);clear h0 HR lq;go_wp2_with (at_builtin;go_must (refine dL w7 w rfl (.tmp 64) (.tmp 67) 39 rfl w.heap.size 87 3 56 i0 (.agg #[.bool false,.slice none 0 0,.slice none 0 0]) Tryz.underlying39 hi hz0 hz1 hz2 rfl (by omega) oo k cp (bM.take k) rfl eZ.out.1 (some ⟨b,off+(k+1)*3,none⟩) _ _ (bM.drop (k+1)) rfl (((HG.out.vV (k+1) (by omega) hck).below eZ.out.2.2).cast (by omega) (by omega)) eZ.out.2.2 eZ.out.2.2.size (by omega) (by omega) (by simp[Value.cells,bB]) (fZ (fun _ _ h=>gV h) (bY.drop HT.out (k+1))) ?_);intro o8 NR w8 hO om _;have zk:=hid hO;have ji:=hid om;clear hO om);go_ret;exact⟨_,_,_,rfl,⟨_,zk.out.gl.cast (by omega) rfl,by rw[HR2.out];exact bY.append (bY.take (bY.imp (fun v a h=>(h.below ji.out).mono (Nat.le_succ K)) HT.out) _) (bY.drop (bY.imp (fun v a h=>(h.below ji.out).mono (Nat.le_succ K)) HT.out) _)⟩,ji.out⟩
      ·have hs0:(s==0)=false:=by rw[<-lq.out];simpa using h0
       have hs1:(s !=0)=true:=by rw[<-lq.out];simpa using h0
       have HR2:Hid (iP p c m=p.take k++([(cc,m)]++p.drop (k+1))):=HR.out.trans (by rw[if_neg h0]);have x0:=eZ.out.2.1.cell 0;have x1:=eZ.out.2.1.cell 1;simp only[List.getElem?_cons_zero,List.getElem?_cons_succ]at x0 x1;clear h0 HR lq
       go_wp2_with (first
        |(at_builtin;refine fw w7 w rfl (.tmp 58) (.tmp 62) 39 rfl w.heap.size 87 3 56 i0 (.agg #[.bool false,.slice none 0 0,.slice none 0 0]) Tryz.underlying39 hi hz0 hz1 hz2 rfl (by omega) oo k cp (bM.take k) rfl eZ.out.1 [.bool rm,.slice ra rn rc,.slice mo mn mc] rfl (by simp[Value.oneCell']) (by simp[Value.cells,bB]) (by simp[bB]) _ rfl eZ.out.2.2 eZ.out.2.2.size (by omega) (by omega) ?_;intro o9 NS w9 hO y8 EM;have EN:=hid hO;have nH:=hid y8;have G8:=hid ((Bu.out.below (af w7 _)).stays (eZ.out.1.below (af w7 _)) EM);clear hO y8 EM x0 x1)
        |(at_builtin;refine dL w9 w rfl (.tmp 64) (.tmp 67) 39 rfl w.heap.size 87 3 56 i0 (.agg #[.bool false,.slice none 0 0,.slice none 0 0]) Tryz.underlying39 hi hz0 hz1 hz2 rfl (by omega) o9 _ NS (bM.take k++[[.bool rm,.slice ra rn rc,.slice mo mn mc]]) rfl EN.out (some ⟨b,off+(k+1)*3,none⟩) _ _ (bM.drop (k+1)) rfl (((HG.out.vV (k+1) (by omega) hck).below nH.out).cast (by omega) (by omega)) nH.out nH.out.size (by omega) (by omega) (by simp[Value.cells,bB]) (fZ (fun _ _ h=>gV h) (bY.drop HT.out (k+1))) ?_;intro o8 NR w8 hO om xC;have zk:=hid hO;have ji:=hid om;have NT:=hid (G8.out.stays EN.out xC);clear hO om xC))
       go_ret;refine⟨_,_,_,rfl,⟨_,zk.out.gl.cast (by omega) rfl,?_⟩,ji.out⟩;rw[HR2.out,List.append_assoc];exact bY.append (bY.take (bY.imp (fun v a h=>(h.below ji.out).mono (Nat.le_succ K)) HT.out) _) (bY.append ⟨⟨_,_,_,_,_,_,_,rfl,NT.out,HB2.out,HM.out.below ji.out⟩,trivial⟩ (bY.drop (bY.imp (fun v a h=>(h.below ji.out).mono (Nat.le_succ K)) HT.out) _))
    ·have HN0:=hid gz;have g2:(z==0)=false:=by simpa using gz
     clear gz
     have HR:Hid (iP p c m=p.take k++((if c=0 then[]else[(c,m)])++p.drop k)):=by
      have hl:k<p.length:=by rw[vF.out];exact hkn
      rw[Hid,o7 c m p k (by omega) HC.out,List.drop_eq_getElem_cons hl];have e:p.getD k (0,[])=p[k]:=by simp[List.getD,List.getElem?_eq_getElem hl]
      have h1:=Tv.out;rw[e]at h1;simp only[iP];rw[if_neg (by rw[<-h1];have:=Tf.out;omega),if_neg (by rw[<-h1];exact HN0.out)];by_cases hc:c=0
      ·rw[if_pos hc,if_pos hc];rfl
      ·rw[if_neg hc,if_neg hc];rfl
     have oI:=Ar;have HZ2:=hid (HZ.out.below Ar.out.2.2);have HB2:=hid (XW.out.mono (Nat.le_succ K));clear HC Ar HZ c0 c1 c2;have hck:cap≠k:=by omega
     obtain⟨s,hs⟩:∃s,(c).sign=s:=⟨_,rfl⟩;have lq:=hid hs;clear hs;have x0:=oI.out.2.1.cell 0;have x1:=oI.out.2.1.cell 1;simp only[List.getElem?_cons_zero,List.getElem?_cons_succ]at x0 x1;go_wp2_with fail;refine(ol s (HZ2.out.zx HB2.out (by omega)) lq.out).mono ?_;rintro e w7 ⟨rfl,hB⟩;have eZ:Hid (iK w.heap.size 87 3 w7 oo k cp (bM.take k)/\ bD w7 w.heap.size [.bool mz,.slice zo zn zc] 45/\ Below w.heap.size w w7):=⟨oI.out.1.below hB,oI.out.2.1.below hB,Below.steps oI.out.2.2 hB⟩;have Bu:=hid (HZ2.out.below hB);clear hB oI HZ2 x0 x1;by_cases h0:c=0
     ·obtain rfl:s=0:=by rw[<-lq.out,h0];rfl
      have HR2:Hid (iP p c m=p.take k++p.drop k):=HR.out.trans (by rw[if_pos h0];rfl);clear h0 HR lq;go_wp2_with (at_builtin;go_must (refine dL w7 w rfl (.tmp 64) (.tmp 67) 39 rfl w.heap.size 87 3 56 i0 (.agg #[.bool false,.slice none 0 0,.slice none 0 0]) Tryz.underlying39 hi hz0 hz1 hz2 rfl (by omega) oo k cp (bM.take k) rfl eZ.out.1 (some ⟨b,off+k*3,none⟩) _ _ (bM.drop k) rfl (((HG.out.vV k (by omega) hck).below eZ.out.2.2).cast (by omega) (by omega)) eZ.out.2.2 eZ.out.2.2.size (by omega) (by omega) (by simp[Value.cells,bB]) (fZ (fun _ _ h=>gV h) (bY.drop HT.out k)) ?_);intro o8 NR w8 hO om _;have zk:=hid hO;have ji:=hid om;clear hO om);go_ret;exact⟨_,_,_,rfl,⟨_,zk.out.gl.cast (by omega) rfl,by rw[HR2.out];exact bY.append (bY.take (bY.imp (fun v a h=>(h.below ji.out).mono (Nat.le_succ K)) HT.out) _) (bY.drop (bY.imp (fun v a h=>(h.below ji.out).mono (Nat.le_succ K)) HT.out) _)⟩,ji.out⟩
     ·have hs0:(s==0)=false:=by rw[<-lq.out];simpa using h0
      have hs1:(s !=0)=true:=by rw[<-lq.out];simpa using h0
      have HR2:Hid (iP p c m=p.take k++([(c,m)]++p.drop k)):=HR.out.trans (by rw[if_neg h0]);have x0:=eZ.out.2.1.cell 0;have x1:=eZ.out.2.1.cell 1;simp only[List.getElem?_cons_zero,List.getElem?_cons_succ]at x0 x1;clear h0 HR lq
      go_wp2_with (first
       |(at_builtin;refine fw w7 w rfl (.tmp 58) (.tmp 62) 39 rfl w.heap.size 87 3 56 i0 (.agg #[.bool false,.slice none 0 0,.slice none 0 0]) Tryz.underlying39 hi hz0 hz1 hz2 rfl (by omega) oo k cp (bM.take k) rfl eZ.out.1 [.bool mz,.slice zo zn zc,.slice mo mn mc] rfl (by simp[Value.oneCell']) (by simp[Value.cells,bB]) (by simp[bB]) _ rfl eZ.out.2.2 eZ.out.2.2.size (by omega) (by omega) ?_;intro o9 NS w9 hO y8 EM;have EN:=hid hO;have nH:=hid y8;have G8:=hid ((Bu.out.below (af w7 _)).stays (eZ.out.1.below (af w7 _)) EM);clear hO y8 EM x0 x1)
       |(at_builtin;refine dL w9 w rfl (.tmp 64) (.tmp 67) 39 rfl w.heap.size 87 3 56 i0 (.agg #[.bool false,.slice none 0 0,.slice none 0 0]) Tryz.underlying39 hi hz0 hz1 hz2 rfl (by omega) o9 _ NS (bM.take k++[[.bool mz,.slice zo zn zc,.slice mo mn mc]]) rfl EN.out (some ⟨b,off+k*3,none⟩) _ _ (bM.drop k) rfl (((HG.out.vV k (by omega) hck).below nH.out).cast (by omega) (by omega)) nH.out nH.out.size (by omega) (by omega) (by simp[Value.cells,bB]) (fZ (fun _ _ h=>gV h) (bY.drop HT.out k)) ?_;intro o8 NR w8 hO om xC;have zk:=hid hO;have ji:=hid om;have NT:=hid (G8.out.stays EN.out xC);clear hO om xC))
      go_ret;refine⟨_,_,_,rfl,⟨_,zk.out.gl.cast (by omega) rfl,?_⟩,ji.out⟩;rw[HR2.out,List.append_assoc];exact bY.append (bY.take (bY.imp (fun v a h=>(h.below ji.out).mono (Nat.le_succ K)) HT.out) _) (bY.append ⟨⟨_,_,_,_,_,_,_,rfl,NT.out,HB2.out,HM.out.below ji.out⟩,trivial⟩ (bY.drop (bY.imp (fun v a h=>(h.below ji.out).mono (Nat.le_succ K)) HT.out) _))
  ·obtain rfl:k=n:=by omega
   have HR:Hid (iP p c m=p.take k++((if c=0 then[]else[(c,m)])++p.drop k)):=by
    rw[Hid,o7 c m p k (by rw[vF.out];exact Nat.le_refl _) HC.out,List.drop_eq_nil_of_le (by rw[vF.out];exact Nat.le_refl _)];simp[iP]
   have oI:=HS;have HZ2:=hid (HZ.out.below HS.out.2.2);have HB2:=hid (XW.out.mono (Nat.le_succ K));clear HC HS HZ;cases ao with
   |none=>
    obtain rfl:cap=0:=HG.out.nil rfl;obtain rfl:k=0:=by omega
    obtain⟨s,hs⟩:∃s,(c).sign=s:=⟨_,rfl⟩;have lq:=hid hs;clear hs;have x0:=oI.out.2.1.cell 0;have x1:=oI.out.2.1.cell 1;simp only[List.getElem?_cons_zero,List.getElem?_cons_succ]at x0 x1;go_wp2_with fail;refine(ol s (HZ2.out.zx HB2.out (by omega)) lq.out).mono ?_;rintro e w7 ⟨rfl,hB⟩;have eZ:Hid (iK w.heap.size 87 3 w7 oo 0 cp (bM.take 0)/\ bD w7 w.heap.size [.bool mz,.slice zo zn zc] 45/\ Below w.heap.size w w7):=⟨oI.out.1.below hB,oI.out.2.1.below hB,Below.steps oI.out.2.2 hB⟩;have Bu:=hid (HZ2.out.below hB);clear hB oI HZ2 x0 x1;by_cases h0:c=0
    ·obtain rfl:s=0:=by rw[<-lq.out,h0];rfl
     have HR2:Hid (iP p c m=p.take 0++p.drop 0):=HR.out.trans (by rw[if_pos h0];rfl);clear h0 HR lq;go_wp2_with (at_builtin;go_must (refine dL w7 w rfl (.tmp 64) (.tmp 67) 39 rfl w.heap.size 87 3 56 i0 (.agg #[.bool false,.slice none 0 0,.slice none 0 0]) Tryz.underlying39 hi hz0 hz1 hz2 rfl (by omega) oo 0 cp (bM.take 0) rfl eZ.out.1 none _ _ [] rfl ((Gl.zero 3 _).cast (by omega) (by omega)) eZ.out.2.2 eZ.out.2.2.size (by omega) (by omega) (by simp[Value.cells,bB]) (by simp) ?_);intro o8 NR w8 hO om _;have zk:=hid hO;have ji:=hid om;clear hO om);go_ret;exact⟨_,_,_,rfl,⟨_,zk.out.gl.cast (by omega) rfl,by rw[HR2.out];exact bY.append (bY.take (bY.imp (fun v a h=>(h.below ji.out).mono (Nat.le_succ K)) HT.out) _) (by simp[List.drop_eq_nil_of_le,vF.out,bY])⟩,ji.out⟩
    ·have hs0:(s==0)=false:=by rw[<-lq.out];simpa using h0
     have hs1:(s !=0)=true:=by rw[<-lq.out];simpa using h0
     have HR2:Hid (iP p c m=p.take 0++([(c,m)]++p.drop 0)):=HR.out.trans (by rw[if_neg h0]);have x0:=eZ.out.2.1.cell 0;have x1:=eZ.out.2.1.cell 1;simp only[List.getElem?_cons_zero,List.getElem?_cons_succ]at x0 x1;clear h0 HR lq
     go_wp2_with (first
      |(at_builtin;refine fw w7 w rfl (.tmp 58) (.tmp 62) 39 rfl w.heap.size 87 3 56 i0 (.agg #[.bool false,.slice none 0 0,.slice none 0 0]) Tryz.underlying39 hi hz0 hz1 hz2 rfl (by omega) oo 0 cp (bM.take 0) rfl eZ.out.1 [.bool mz,.slice zo zn zc,.slice mo mn mc] rfl (by simp[Value.oneCell']) (by simp[Value.cells,bB]) (by simp[bB]) _ rfl eZ.out.2.2 eZ.out.2.2.size (by omega) (by omega) ?_;intro o9 NS w9 hO y8 EM;have EN:=hid hO;have nH:=hid y8;have G8:=hid ((Bu.out.below (af w7 _)).stays (eZ.out.1.below (af w7 _)) EM);clear hO y8 EM x0 x1)
      |(at_builtin;refine dL w9 w rfl (.tmp 64) (.tmp 67) 39 rfl w.heap.size 87 3 56 i0 (.agg #[.bool false,.slice none 0 0,.slice none 0 0]) Tryz.underlying39 hi hz0 hz1 hz2 rfl (by omega) o9 _ NS (bM.take 0++[[.bool mz,.slice zo zn zc,.slice mo mn mc]]) rfl EN.out none _ _ [] rfl ((Gl.zero 3 _).cast (by omega) (by omega)) nH.out nH.out.size (by omega) (by omega) (by simp[Value.cells,bB]) (by simp) ?_;intro o8 NR w8 hO om xC;have zk:=hid hO;have ji:=hid om;have NT:=hid (G8.out.stays EN.out xC);clear hO om xC))
     go_ret;refine⟨_,_,_,rfl,⟨_,zk.out.gl.cast (by omega) rfl,?_⟩,ji.out⟩;rw[HR2.out,List.append_assoc];exact bY.append (bY.take (bY.imp (fun v a h=>(h.below ji.out).mono (Nat.le_succ K)) HT.out) _) (bY.append ⟨⟨_,_,_,_,_,_,_,rfl,NT.out,HB2.out,HM.out.below ji.out⟩,trivial⟩ (by simp[List.drop_eq_nil_of_le,vF.out,bY]))
   |some ad=>
    obtain⟨b,off,sp⟩:=ad;by_cases hck:cap=k
    ·obtain⟨s,hs⟩:∃s,(c).sign=s:=⟨_,rfl⟩;have lq:=hid hs;clear hs;have x0:=oI.out.2.1.cell 0;have x1:=oI.out.2.1.cell 1;simp only[List.getElem?_cons_zero,List.getElem?_cons_succ]at x0 x1;go_wp2_with fail;refine(ol s (HZ2.out.zx HB2.out (by omega)) lq.out).mono ?_;rintro e w7 ⟨rfl,hB⟩;have eZ:Hid (iK w.heap.size 87 3 w7 oo k cp (bM.take k)/\ bD w7 w.heap.size [.bool mz,.slice zo zn zc] 45/\ Below w.heap.size w w7):=⟨oI.out.1.below hB,oI.out.2.1.below hB,Below.steps oI.out.2.2 hB⟩;have Bu:=hid (HZ2.out.below hB);clear hB oI HZ2 x0 x1;by_cases h0:c=0
     ·obtain rfl:s=0:=by rw[<-lq.out,h0];rfl
      have HR2:Hid (iP p c m=p.take k++p.drop k):=HR.out.trans (by rw[if_pos h0];rfl);clear h0 HR lq;go_wp2_with (at_builtin;go_must (refine dL w7 w rfl (.tmp 64) (.tmp 67) 39 rfl w.heap.size 87 3 56 i0 (.agg #[.bool false,.slice none 0 0,.slice none 0 0]) Tryz.underlying39 hi hz0 hz1 hz2 rfl (by omega) oo k cp (bM.take k) rfl eZ.out.1 (some ⟨b,off,sp⟩) _ _ (bM.drop k) rfl (((HG.out.CO k (by omega) hck).below eZ.out.2.2).cast (by omega) (by omega)) eZ.out.2.2 eZ.out.2.2.size (by omega) (by omega) (by simp[Value.cells,bB]) (fZ (fun _ _ h=>gV h) (bY.drop HT.out k)) ?_);intro o8 NR w8 hO om _;have zk:=hid hO;have ji:=hid om;clear hO om);go_ret;exact⟨_,_,_,rfl,⟨_,zk.out.gl.cast (by omega) rfl,by rw[HR2.out];exact bY.append (bY.take (bY.imp (fun v a h=>(h.below ji.out).mono (Nat.le_succ K)) HT.out) _) (bY.drop (bY.imp (fun v a h=>(h.below ji.out).mono (Nat.le_succ K)) HT.out) _)⟩,ji.out⟩
     ·have hs0:(s==0)=false:=by rw[<-lq.out];simpa using h0
      have hs1:(s !=0)=true:=by rw[<-lq.out];simpa using h0
      have HR2:Hid (iP p c m=p.take k++([(c,m)]++p.drop k)):=HR.out.trans (by rw[if_neg h0]);have x0:=eZ.out.2.1.cell 0;have x1:=eZ.out.2.1.cell 1;simp only[List.getElem?_cons_zero,List.getElem?_cons_succ]at x0 x1;clear h0 HR lq
      go_wp2_with (first
       |(at_builtin;refine fw w7 w rfl (.tmp 58) (.tmp 62) 39 rfl w.heap.size 87 3 56 i0 (.agg #[.bool false,.slice none 0 0,.slice none 0 0]) Tryz.underlying39 hi hz0 hz1 hz2 rfl (by omega) oo k cp (bM.take k) rfl eZ.out.1 [.bool mz,.slice zo zn zc,.slice mo mn mc] rfl (by simp[Value.oneCell']) (by simp[Value.cells,bB]) (by simp[bB]) _ rfl eZ.out.2.2 eZ.out.2.2.size (by omega) (by omega) ?_;intro o9 NS w9 hO y8 EM;have EN:=hid hO;have nH:=hid y8;have G8:=hid ((Bu.out.below (af w7 _)).stays (eZ.out.1.below (af w7 _)) EM);clear hO y8 EM x0 x1)
       |(at_builtin;refine dL w9 w rfl (.tmp 64) (.tmp 67) 39 rfl w.heap.size 87 3 56 i0 (.agg #[.bool false,.slice none 0 0,.slice none 0 0]) Tryz.underlying39 hi hz0 hz1 hz2 rfl (by omega) o9 _ NS (bM.take k++[[.bool mz,.slice zo zn zc,.slice mo mn mc]]) rfl EN.out (some ⟨b,off,sp⟩) _ _ (bM.drop k) rfl (((HG.out.CO k (by omega) hck).below nH.out).cast (by omega) (by omega)) nH.out nH.out.size (by omega) (by omega) (by simp[Value.cells,bB]) (fZ (fun _ _ h=>gV h) (bY.drop HT.out k)) ?_;intro o8 NR w8 hO om xC;have zk:=hid hO;have ji:=hid om;have NT:=hid (G8.out.stays EN.out xC);clear hO om xC))
      go_ret;refine⟨_,_,_,rfl,⟨_,zk.out.gl.cast (by omega) rfl,?_⟩,ji.out⟩;rw[HR2.out,List.append_assoc];exact bY.append (bY.take (bY.imp (fun v a h=>(h.below ji.out).mono (Nat.le_succ K)) HT.out) _) (bY.append ⟨⟨_,_,_,_,_,_,_,rfl,NT.out,HB2.out,HM.out.below ji.out⟩,trivial⟩ (bY.drop (bY.imp (fun v a h=>(h.below ji.out).mono (Nat.le_succ K)) HT.out) _))
    ·obtain rfl:sp=none:=HG.out.spot _ rfl (by omega);obtain⟨s,hs⟩:∃s,(c).sign=s:=⟨_,rfl⟩;have lq:=hid hs;clear hs;have x0:=oI.out.2.1.cell 0;have x1:=oI.out.2.1.cell 1;simp only[List.getElem?_cons_zero,List.getElem?_cons_succ]at x0 x1;go_wp2_with fail;refine(ol s (HZ2.out.zx HB2.out (by omega)) lq.out).mono ?_;rintro e w7 ⟨rfl,hB⟩;have eZ:Hid (iK w.heap.size 87 3 w7 oo k cp (bM.take k)/\ bD w7 w.heap.size [.bool mz,.slice zo zn zc] 45/\ Below w.heap.size w w7):=⟨oI.out.1.below hB,oI.out.2.1.below hB,Below.steps oI.out.2.2 hB⟩;have Bu:=hid (HZ2.out.below hB);clear hB oI HZ2 x0 x1;by_cases h0:c=0
     ·obtain rfl:s=0:=by rw[<-lq.out,h0];rfl
      have HR2:Hid (iP p c m=p.take k++p.drop k):=HR.out.trans (by rw[if_pos h0];rfl);clear h0 HR lq;go_wp2_with (at_builtin;go_must (refine dL w7 w rfl (.tmp 64) (.tmp 67) 39 rfl w.heap.size 87 3 56 i0 (.agg #[.bool false,.slice none 0 0,.slice none 0 0]) Tryz.underlying39 hi hz0 hz1 hz2 rfl (by omega) oo k cp (bM.take k) rfl eZ.out.1 (some ⟨b,off+k*3,none⟩) _ _ (bM.drop k) rfl (((HG.out.vV k (by omega) hck).below eZ.out.2.2).cast (by omega) (by omega)) eZ.out.2.2 eZ.out.2.2.size (by omega) (by omega) (by simp[Value.cells,bB]) (fZ (fun _ _ h=>gV h) (bY.drop HT.out k)) ?_);intro o8 NR w8 hO om _;have zk:=hid hO;have ji:=hid om;clear hO om);go_ret;exact⟨_,_,_,rfl,⟨_,zk.out.gl.cast (by omega) rfl,by rw[HR2.out];exact bY.append (bY.take (bY.imp (fun v a h=>(h.below ji.out).mono (Nat.le_succ K)) HT.out) _) (bY.drop (bY.imp (fun v a h=>(h.below ji.out).mono (Nat.le_succ K)) HT.out) _)⟩,ji.out⟩
     ·have hs0:(s==0)=false:=by rw[<-lq.out];simpa using h0
      have hs1:(s !=0)=true:=by rw[<-lq.out];simpa using h0
      have HR2:Hid (iP p c m=p.take k++([(c,m)]++p.drop k)):=HR.out.trans (by rw[if_neg h0]);have x0:=eZ.out.2.1.cell 0;have x1:=eZ.out.2.1.cell 1;simp only[List.getElem?_cons_zero,List.getElem?_cons_succ]at x0 x1;clear h0 HR lq
      go_wp2_with (first
       |(at_builtin;refine fw w7 w rfl (.tmp 58) (.tmp 62) 39 rfl w.heap.size 87 3 56 i0 (.agg #[.bool false,.slice none 0 0,.slice none 0 0]) Tryz.underlying39 hi hz0 hz1 hz2 rfl (by omega) oo k cp (bM.take k) rfl eZ.out.1 [.bool mz,.slice zo zn zc,.slice mo mn mc] rfl (by simp[Value.oneCell']) (by simp[Value.cells,bB]) (by simp[bB]) _ rfl eZ.out.2.2 eZ.out.2.2.size (by omega) (by omega) ?_;intro o9 NS w9 hO y8 EM;have EN:=hid hO;have nH:=hid y8;have G8:=hid ((Bu.out.below (af w7 _)).stays (eZ.out.1.below (af w7 _)) EM);clear hO y8 EM x0 x1)
       |(at_builtin;refine dL w9 w rfl (.tmp 64) (.tmp 67) 39 rfl w.heap.size 87 3 56 i0 (.agg #[.bool false,.slice none 0 0,.slice none 0 0]) Tryz.underlying39 hi hz0 hz1 hz2 rfl (by omega) o9 _ NS (bM.take k++[[.bool mz,.slice zo zn zc,.slice mo mn mc]]) rfl EN.out (some ⟨b,off+k*3,none⟩) _ _ (bM.drop k) rfl (((HG.out.vV k (by omega) hck).below nH.out).cast (by omega) (by omega)) nH.out nH.out.size (by omega) (by omega) (by simp[Value.cells,bB]) (fZ (fun _ _ h=>gV h) (bY.drop HT.out k)) ?_;intro o8 NR w8 hO om xC;have zk:=hid hO;have ji:=hid om;have NT:=hid (G8.out.stays EN.out xC);clear hO om xC))
      go_ret;refine⟨_,_,_,rfl,⟨_,zk.out.gl.cast (by omega) rfl,?_⟩,ji.out⟩;rw[HR2.out,List.append_assoc];exact bY.append (bY.take (bY.imp (fun v a h=>(h.below ji.out).mono (Nat.le_succ K)) HT.out) _) (bY.append ⟨⟨_,_,_,_,_,_,_,rfl,NT.out,HB2.out,HM.out.below ji.out⟩,trivial⟩ (bY.drop (bY.imp (fun v a h=>(h.below ji.out).mono (Nat.le_succ K)) HT.out) _))
open Lib (hid)
theorem wN (c:Int) (m:List (Int×Int)):∀p:List Term,(iP p c m).length<=p.length+1
 |[]=>by unfold iP;split<;>simp
 |t::r=>by
  have ih:=wN c m r;unfold iP;split
  ·simp;omega
  ·split
   ·split<;>simp<;>omega
   ·split<;>simp
theorem wO (p:List Term):∀q:List Term,(jK p q).length<=p.length+q.length:=by
 intro q;induction q generalizing p with
 |nil=>simp[jK]
 |cons t r ih=>
  have h:=ih (iP p t.1 t.2);have h2:=wN t.1 t.2 p;show(jK (iP p t.1 t.2) r).length<=_;simp only[List.length_cons];omega
theorem zl [Ol] {K K':Nat} {w:World}:∀{X:List (List Value)} {p:List Term},bY (DK K' w) X p->(∀t∈p,Bd t.1 K)->bY (DK K w) X p
 |[],[],_,_=>trivial
 | _::_,_::_,h,hb=>by
  obtain⟨m,ao,n,cap,bo,k,cb,h1,h2,_,h4⟩:=h.1;exact⟨⟨m,ao,n,cap,bo,k,cb,h1,h2,hb _ (by simp),h4⟩,zl h.2 fun t ht=>hb t (by simp[ht])⟩
 |[],_::_,h,_=>h.elim
 | _::_,[],h,_=>h.elim
theorem Pz.lower [Ol] {K K':Nat} {w:World} {ao:Option Addr} {n cap:Nat} {p:List Term} (h:Pz K' w ao n cap p) (hb:∀t∈p,Bd t.1 K):Pz K w ao n cap p:=by
 obtain⟨X,h1,h2⟩:=h.ex;exact⟨X,h1,zl h2 hb⟩
theorem Pz.next [Ol] {K K':Nat} {w:World} {ao:Option Addr} {n cap:Nat} {p:List Term} (h:Pz K' w ao n cap p) (hs:K'<=K∨ ∀t∈p,Bd t.1 K):Pz K w ao n cap p:=hs.elim h.mono h.lower
theorem EO [Ol] {K:Nat} {bd:Nat->Nat} {ao bo:Option Addr} {n cap l cb:Nat} {p q:List Term} {w:World} (hp:Pz (bd 0) w ao n cap p) (hq:Pz K w bo l cb q) (hf:fall p) (hm:mJ q) (hn:n+l<=2000000) (hK:∀k,k<=l->K<=bd k/\ bd k<=9000) (hs:∀k,k<l->bd k+1<=bd (k+1)∨ ∀t∈jK p (q.take (k+1)),Bd t.1 (bd (k+1))):
  Calls Tryz.prog 34 #[.slice ao n cap,.slice bo l cb] w (uy (bd l) w (jK p q)):=by
 have yP:=hid hK;have UR:=hid hs;clear hK hs;obtain⟨bM,hG,hT⟩:=hq.ex;have hle:=hG.le;have hbig:=hG.big;have hpl:=hp.len;have Kg:=hq.len;have HP:=hid hp;have HG:=hid hG;have HT:=hid hT;have HF:=hid hf;have MZ:=hid hm;have vF:=hid hpl;have UU:=hid Kg;clear hp hq hf hm hG hT hpl Kg;go_enter Tryz.func34,Tryz.ntmps34;go_wp2;go_loopw [5,6] (fun o i wr=>∃(k n2 c2:Nat) (oo:Option Addr),i= .int .i64 k/\ o= .slice oo n2 c2/\ k<=l/\ Hid (Pz (bd k) wr oo n2 c2 (jK p (q.take k))/\ Below w.heap.size w wr)) (fun _ i _=>l-(intOf i).toNat)
 case atStart=>exact⟨0,n,cap,ao,rfl,rfl,Nat.zero_le _,by simpa[jK]using HP.out,Below.refl _ _⟩
 case round=>
  clear HP;obtain⟨k,n2,c2,oo,rfl,rfl,hk,HS⟩:=hrel;by_cases hkl:k<l
  ·obtain⟨b,off,rfl,hb,hcl⟩:=HG.out.at (by omega);obtain⟨tm,ta,tn,tc,ba,bn,bc,hv,tz,tb,vC⟩:=bY.get (0,[]) HT.out k (by rw[UU.out];exact hkl)
   have hcells:∀V:World,Below w.heap.size w V->V.cell? ⟨b,off+k*3,none⟩=some (.bool tm)/\ V.cell? ⟨b,off+k*3+1,none⟩=some (.slice ta tn tc)/\ V.cell? ⟨b,off+k*3+2,none⟩=some (.slice ba bn bc):=by
    intro V hV;have h0:=hcl V hV k hkl 0 (by omega);have h1:=hcl V hV k hkl 1 (by omega);have h2:=hcl V hV k hkl 2 (by omega);rw[hv]at h0 h1 h2;exact⟨h0,h1,h2⟩
   have vD:=hid hcells;have Rk:=hid tz;have NQ:=hid tb;have Rl:=hid vC;obtain⟨t,ht⟩:∃t,t=q.getD k (0,[]):=⟨_,rfl⟩;have hlq:k<q.length:=by rw[UU.out];exact hkl
   have ht2:t=q[k]:=by rw[ht];simp[List.getD,List.getElem?_eq_getElem hlq]
   have Rf:Hid (bA 0 t.2=true):=MZ.out _ (by rw[ht2];exact List.getElem_mem _)
   have HQ:Hid (jK p (q.take (k+1))=iP (jK p (q.take k)) t.1 t.2):=by
    rw[Hid,List.take_succ_eq_append_getElem hlq,qB,<-ht2];simp[jK]
   have Ze:Hid (fall (jK p (q.take k))):=(vW HF.out (fun s hs=>MZ.out s (List.mem_of_mem_take hs))).1
   have HNL:Hid (n2<=2000000):=by
    have h1:=HS.out.1.len;have h2:=wO p (q.take k);rw[List.length_take,vF.out]at h2;rw[Hid];omega
   have HKK:Hid (K<=bd k/\ bd k<=9000):=yP.out k (by omega);have HSK:Hid (bd k+1<=bd (k+1)∨ ∀t∈jK p (q.take (k+1)),Bd t.1 (bd (k+1))):=UR.out k hkl;rw[<-ht]at Rk NQ Rl;clear hcl hv hcells tz tb vC ht ht2 hlq;go_upto_region 5 with(fail)
   refine wp_region_held_drew (S:=fun w'=>w'.cell? ⟨b,off+k*3,none⟩=some (.bool tm)/\ w'.cell? ⟨b,off+k*3+1,none⟩=some (.slice ta tn tc)/\ w'.cell? ⟨b,off+k*3+2,none⟩=some (.slice ba bn bc)) (by kernel_rfl) (vD.out _ HS.out.2.drew) (fun hH=>?_);refine ai (fun w4 hW=>?_);have kL:Hid (Pz (bd k) w4 oo n2 c2 (jK p (q.take k))/\ Below w.heap.size w w4):=by rw[hW];exact⟨HS.out.1.below (Below.refl _ _).drew,HS.out.2.drew⟩
   rw[<-hW]at hH;clear hW HS;refine bC 0 hH ?_;try simp only[aI]
   refine bC 1 hH ?_;try simp only[aI]
   refine bC 2 hH ?_;try simp only[aI]
   refine bC 3 hH ?_;try simp only[aI]
   refine bC 4 hH ?_;try simp only[aI]
   refine bC 5 hH ?_;try simp only[aI]
   refine bC 6 hH ?_;try simp only[aI]
   refine bC 7 hH ?_;try simp only[aI]
   refine bC 8 hH ?_;try simp only[aI]
   refine bC 9 hH ?_;try simp only[aI]
   refine bC 10 hH ?_;try simp only[aI]
   refine ah 11 rfl (by kernel_rfl) (fun KK hK=>?_);go_simp;refine(CK kL.out.1 (Rk.out.below kL.out.2) (NQ.out.mono HKK.out.1) (Rl.out.below kL.out.2) Ze.out Rf.out HNL.out HKK.out.2).mono ?_;rintro e w5 ⟨o3,n3,c3,rfl,hX,hB⟩;have jA:Hid (Pz (bd (k+1)) w5 o3 n3 c3 (jK p (q.take (k+1)))/\ Below w.heap.size w w5):=⟨by have h:=HSK.out;rw[HQ.out]at h ⊢;exact hX.next h,Below.steps kL.out.2 hB⟩;clear kL hX hB HQ;go_wp2_with fail;clear hH;refine hK.out _ _ (vD.out _ jA.out.2) fun hH=>?_;clear hK KK
   try simp only[aI]
   refine bC 12 hH ?_;try simp only[aI]
   refine wpAnyH_done (by kernel_rfl) ?_ _
   go_wp2_with fail;go_roundw
   case rel=>exact⟨k+1,n3,c3,o3,by go_num,rfl,by omega,jA.out⟩
   case measure=>simp[intOf];omega
  ·obtain rfl:k=l:=by omega
   go_wp2_with fail;go_ret;refine⟨_,_,_,rfl,?_,HS.out.2⟩;have h:=HS.out.1;rw[List.take_of_length_le (by rw[UU.out];exact Nat.le_refl _)]at h;exact h
theorem Mx [Ol] {K:Nat} {ao bo:Option Addr} {n cap l cb:Nat} {p q:List Term} {w:World} (hp:Pz K w ao n cap p) (hq:Pz K w bo l cb q) (hf:fall p) (hm:mJ q) (hn:n+l<=100000) (hK:K+l<=9000):
  Calls Tryz.prog 34 #[.slice ao n cap,.slice bo l cb] w (uy (K+l) w (jK p q)):=
 EO (bd:=fun k=>K+k) hp hq hf hm (by omega) (fun k hk=>⟨Nat.le_add_right _ _,by show K+k<=9000;omega⟩) fun k _=> .inl (Nat.le_refl _)
open Lib (hid)
theorem wP (t:Term) (q:List Term):(Hg t q).length=q.length:=by simp[Hg]
theorem wQ (q:List Term):∀p:List Term,(mulL p q).length=p.length*q.length
 |[]=>by simp[mulL]
 |t::r=>by simp only[mulL,List.length_append,wP,wQ q r,List.length_cons,Nat.add_mul];omega
theorem wR (q:List Term):∀a b:List Term,mulL (a++b) q=mulL a q++mulL b q
 |[],_=>rfl
 |t::a,b=>by simp[mulL,wR q a b]
def UW (p q:List Term):Bool:=p.all fun t=>q.all fun s=>bA 0 (mh t.2 s.2)
theorem EP {p q:List Term}:UW p q=true↔xD p q:=by
 unfold UW xD;simp only[List.all_eq_true]
def yg (p q:List Term):List Term×Bool:=if UW p q=true then(nA p q,true)else([],false)
theorem NU {p q:List Term} (h:xD p q):yg p q=(nA p q,true):=if_pos (EP.2 h)
theorem Rn {p q:List Term} (h:¬xD p q):yg p q=([],false):=if_neg (fun g=>h (EP.1 g))
def TG [Ol] (K:Nat) (w:World) (p:List Term) (b:Bool) (e:Ending) (w':World):Prop:=∃ao n cap,e= .returned (.tuple #[.slice ao n cap,.bool b])/\ Pz K w' ao n cap p/\ Below w.heap.size w w'
def Bw (p q:List Term) (t:Term) (k j:Nat):List Term:=Tm (mulL (p.take k) q++Hg t (q.take j))
theorem NV {p q:List Term} (t:Term) (k j:Nat) (hj:j<q.length):Bw p q t k (j+1)=iP (Bw p q t k j) (t.1*(q[j]).1) (mh t.2 (q[j]).2):=by
 unfold Bw Hg Tm;rw[List.take_succ_eq_append_getElem hj,List.map_append,<-List.append_assoc,qB];simp[jK]
theorem NW {p q:List Term} (t:Term) (k:Nat):Bw p q t k 0=nA (p.take k) q:=by simp[Bw,Hg,nA]
theorem Ro {p q:List Term} (k:Nat) (hk:k<p.length):Bw p q p[k] k q.length=nA (p.take (k+1)) q:=by
 unfold Bw nA;rw[List.take_succ_eq_append_getElem hk,wR,List.take_length];simp[mulL]
theorem Rp {p q:List Term} (t:Term) (k j:Nat) (hk:k<=p.length) (hj:j<=q.length):(Bw p q t k j).length<=k*q.length+j:=by
 unfold Bw Tm;have h:=wO [] (mulL (p.take k) q++Hg t (q.take j));rw[List.length_append,wQ,wP,List.length_take,List.length_take,Nat.min_eq_left hk,Nat.min_eq_left hj]at h;simpa using h
theorem NY {p q:List Term} (t:Term) (k j:Nat) (h1:xD (p.take k) q) (h2:∀s∈q.take j,bA 0 (mh t.2 s.2)=true):fall (Bw p q t k j):=by
 refine(Eh fun s hs=>?_).1;rcases List.mem_append.1 hs with hs|hs
 ·exact KP h1 s hs
 ·obtain⟨u,hu,rfl⟩:=List.mem_map.1 hs;exact h2 u hu
theorem NZ {p q:List Term} (k:Nat) (hk:k<p.length) (h1:xD (p.take k) q) (h2:∀s∈q,bA 0 (mh (p[k]).2 s.2)=true):xD (p.take (k+1)) q:=by
 intro t ht s hs;rw[List.take_succ_eq_append_getElem hk]at ht;rcases List.mem_append.1 ht with ht|ht
 ·exact h1 t ht s hs
 ·rw[List.mem_singleton]at ht;subst ht;exact h2 s hs
theorem UX {t:Term} {q:List Term} (j:Nat) (hj:j<q.length) (h:∀s∈q.take j,bA 0 (mh t.2 s.2)=true) (h2:bA 0 (mh t.2 (q[j]).2)=true):∀s∈q.take (j+1),bA 0 (mh t.2 s.2)=true:=by
 intro s hs;rw[List.take_succ_eq_append_getElem hj]at hs;rcases List.mem_append.1 hs with hs|hs
 ·exact h s hs
 ·rw[List.mem_singleton]at hs;subst hs;exact h2
theorem Hl [Ol] {Kp Kq:Nat} {bd:Nat->Nat} {ao bo:Option Addr} {n cap l cb:Nat} {p q:List Term} {w:World} (hp:Pz Kp w ao n cap p) (hq:Pz Kq w bo l cb q) (hmp:mJ p) (UY:mJ q) (hL:n*l<=2000000) (hB:∀i,i<=n*l->Kp+Kq<=bd i/\ bd i<=9000)
  (hs:∀k j (hk:k<p.length),j<q.length->bd (k*l+j)+1<=bd (k*l+(j+1))∨ ∀t∈Bw p q p[k] k (j+1),Bd t.1 (bd (k*l+(j+1)))):
  Calls Tryz.prog 93 #[.slice ao n cap,.slice bo l cb] w (TG (bd (n*l)) w (yg p q).1 (yg p q).2):=by
 obtain⟨A,hA⟩:∃A,A=n*l:=⟨_,rfl⟩;rw[<-hA]at hB hL;rw[<-hA];have yP:=hid hB;have UR:=hid hs;clear hB hs;obtain⟨bM,hG,hT⟩:=hp.ex;obtain⟨uss,hG2,XY⟩:=hq.ex;have hbig:=hG.big;have hbig2:=hG2.big;have F5:=hid hp.len;have Qg:=hid hq.len;have XZ:=hid hG;have X7:=hid hT;have HGQ:=hid hG2;have HTQ:=hid XY;have V9:=hid hmp;have HMQ:=hid UY;have HA:=hid hA;obtain⟨R,hR⟩:∃R,R=yg p q:=⟨_,rfl⟩;rw[<-hR];have HR:=hid hR;clear hp hq hmp UY hG hT hG2 XY hR hA;go_enter Tryz.func93,Tryz.ntmps93;go_wp2;go_loopw [6,7,8,9,10] (fun o i _ _ _ wr=>∃(k n2 c2:Nat) (oo:Option Addr),i= .int .i64 k/\ o= .slice oo n2 c2/\ k<=n/\ Hid (xD (p.take k) q)/\ Hid (Pz (bd (k*l)) wr oo n2 c2 (nA (p.take k) q)/\ Below w.heap.size w wr)) (fun _ i _ _ _ _=>n-(intOf i).toNat)
 case atStart=>exact⟨0,0,0,none,rfl,rfl,Nat.zero_le _,fun _ h=>by simp at h,Pz.zero _ _,Below.refl _ _⟩
 case round=>
  obtain⟨k,n2,c2,oo,rfl,rfl,hk,X8,HS⟩:=hrel;by_cases hkn:k<n
  ·obtain⟨N,hN⟩:∃N,N=k*l:=⟨_,rfl⟩
   have hNA:N+l<=A:=by
    rw[hN,HA.out];have h:=Nat.mul_le_mul_right l (show k+1<=n from hkn);rwa[Nat.add_mul,Nat.one_mul]at h
   obtain⟨b,off,rfl,_,hcl⟩:=XZ.out.at (by omega);obtain⟨xm,xa,xn,xc,xp,xq,xr,hv,tz,tb,vC⟩:=bY.get (0,[]) X7.out k (by rw[F5.out];assumption)
   have hcells:∀V:World,Below w.heap.size w V->(V.cell? ⟨b,off+k*3,none⟩=some (.bool xm)/\ V.cell? ⟨b,off+k*3+1,none⟩=some (.slice xa xn xc)/\ V.cell? ⟨b,off+k*3+2,none⟩=some (.slice xp xq xr)):=by
    intro V hV;have h0:=hcl V hV k (by assumption) 0 (by omega);have h1:=hcl V hV k (by assumption) 1 (by omega);have h2:=hcl V hV k (by assumption) 2 (by omega);rw[hv]at h0 h1 h2;exact⟨h0,h1,h2⟩
   have Ag:=hid hcells;clear hcl hv hcells;have F6:k<p.length:=by rw[F5.out];assumption
   have Rq:p.getD k (0,[])=p[k]:=by simp[List.getD,List.getElem?_eq_getElem F6]
   rw[Rq]at tz tb vC;have Zf:=hid tz;have Qf:=hid tb;have aa3:=hid vC;clear tz tb vC Rq;have HN:=hid hN;have DC:Hid (Pz (bd (N+0)) wr oo n2 c2 (Bw p q p[k] k 0)/\ Below w.heap.size w wr):=by rw[NW,hN];exact HS.out
   clear HS hN;go_wp2;go_loopw [6,8,9,10] (fun o i _ _ wi=>∃(j n3 c3:Nat) (o3:Option Addr),i= .int .i64 j/\ o= .slice o3 n3 c3/\ j<=l/\ Hid (∀s∈q.take j,bA 0 (mh (p[k]).2 s.2)=true)/\ Hid (Pz (bd (N+j)) wi o3 n3 c3 (Bw p q p[k] k j)/\ Below w.heap.size w wi)) (fun _ i _ _ _=>l-(intOf i).toNat)
   case atStart=>exact⟨0,n2,c2,oo,rfl,rfl,Nat.zero_le _,fun _ h=>by simp at h,DC.out⟩
   case round=>
    clear DC;obtain⟨j,n3,c3,o3,rfl,rfl,hj,Ya,HS⟩:=hrel;by_cases hjl:j<l
    ·obtain⟨d,F7,rfl,_,hcl⟩:=HGQ.out.at (by omega);obtain⟨ym,ya,yn,yc,yp,yq,yr,hv,tz,tb,vC⟩:=bY.get (0,[]) HTQ.out j (by rw[Qg.out];assumption)
     have hcells:∀V:World,Below w.heap.size w V->(V.cell? ⟨d,F7+j*3,none⟩=some (.bool ym)/\ V.cell? ⟨d,F7+j*3+1,none⟩=some (.slice ya yn yc)/\ V.cell? ⟨d,F7+j*3+2,none⟩=some (.slice yp yq yr)):=by
      intro V hV;have h0:=hcl V hV j (by assumption) 0 (by omega);have h1:=hcl V hV j (by assumption) 1 (by omega);have h2:=hcl V hV j (by assumption) 2 (by omega);rw[hv]at h0 h1 h2;exact⟨h0,h1,h2⟩
     have Qh:=hid hcells;clear hcl hv hcells;have TF:j<q.length:=by rw[Qg.out];assumption
     have Wd:q.getD j (0,[])=q[j]:=by simp[List.getD,List.getElem?_eq_getElem TF]
     rw[Wd]at tz tb vC;have HZQ:=hid tz;have Yb:=hid tb;have aa4:=hid vC;clear tz tb vC Wd;have HMX:Hid (bA 0 (p[k]).2=true):=V9.out _ (List.getElem_mem _);have Rf:Hid (bA 0 (q[j]).2=true):=HMQ.out _ (List.getElem_mem _);have Ze:Hid (fall (Bw p q p[k] k j)):=NY _ k j X8.out Ya.out
     have HNL:Hid (n3<=2000000):=by
      have h1:=HS.out.1.len;have h2:=Rp (p:=p) (q:=q) p[k] k j (by omega) (by omega);rw[Qg.out,<-HN.out]at h2;rw[Hid];omega
     have HKK:Hid (Kp+Kq<=bd (N+j)/\ bd (N+j)<=9000):=yP.out _ (by omega);have HSK:Hid (bd (N+j)+1<=bd (N+(j+1))∨ ∀t∈Bw p q p[k] k (j+1),Bd t.1 (bd (N+(j+1)))):=by have h:=UR.out k j F6 TF;rwa[<-HN.out]at h
     go_upto_region 8 with(fail)
     refine wp_region_held_drew (S:=fun w'=>(w'.cell? ⟨b,off+k*3,none⟩=some (.bool xm)/\ w'.cell? ⟨b,off+k*3+1,none⟩=some (.slice xa xn xc)/\ w'.cell? ⟨b,off+k*3+2,none⟩=some (.slice xp xq xr))/\ (w'.cell? ⟨d,F7+j*3,none⟩=some (.bool ym)/\ w'.cell? ⟨d,F7+j*3+1,none⟩=some (.slice ya yn yc)/\ w'.cell? ⟨d,F7+j*3+2,none⟩=some (.slice yp yq yr))) (by kernel_rfl) ⟨Ag.out _ (HS.out.2).drew,Qh.out _ (HS.out.2).drew⟩ (fun hH=>?_);refine ai (fun w4 hW=>?_);have kL:Hid (Pz (bd (N+j)) w4 o3 n3 c3 (Bw p q p[k] k j)/\ Below w.heap.size w w4):=by rw[hW];exact⟨HS.out.1.below (Below.refl _ _).drew,HS.out.2.drew⟩
     clear HS;rw[<-hW]at hH;clear hW;refine bC 0 hH ?_;try simp only[aI]
     refine bC 1 hH ?_;try simp only[aI]
     refine bC 2 hH ?_;try simp only[aI]
     refine bC 3 hH ?_;try simp only[aI]
     refine bC 4 hH ?_;try simp only[aI]
     refine bC 5 hH ?_;try simp only[aI]
     refine bC 6 hH ?_;try simp only[aI]
     refine bC 7 hH ?_;try simp only[aI]
     refine bC 8 hH ?_;try simp only[aI]
     refine bC 9 hH ?_;try simp only[aI]
     refine ah 10 rfl (by kernel_rfl) (fun KK hK=>?_);go_simp;have Wh:=Ho (aa3.out.below kL.out.2) (aa4.out.below kL.out.2);by_cases hfit:bA 0 (mh (p[k]).2 (q[j]).2)=true
     ·rw[show oq (fun x y=>x+y) 8 (p[k]).2 (q[j]).2=(mh (p[k]).2 (q[j]).2,0)from by unfold oq;rw[if_pos ⟨HMX.out,Rf.out⟩];exact if_pos hfit]at Wh;refine Wh.mono ?_;rintro e w5 ⟨mo,mn,mc,rfl,hX,hB⟩;clear Wh;have jA:Hid (Pz (bd (N+j)) w5 o3 n3 c3 (Bw p q p[k] k j)/\ Below w.heap.size w w5):=⟨kL.out.1.below hB,Below.steps kL.out.2 hB⟩;have Me:=hid hX;have HFJ:Hid (∀s∈q.take (j+1),bA 0 (mh (p[k]).2 s.2)=true):=UX j TF Ya.out hfit;have Yc:=hid hfit;clear hX hB kL Ya hfit;go_wp2_with fail;clear hH;refine hK.out _ _ ⟨Ag.out _ jA.out.2,Qh.out _ jA.out.2⟩ fun hH=>?_;clear hK KK
      try simp only[aI]
      refine bC 11 hH ?_;try simp only[aI]
      refine bC 12 hH ?_;try simp only[aI]
      refine bC 13 hH ?_;try simp only[aI]
      refine bC 14 hH ?_;try simp only[aI]
      refine bC 15 hH ?_;try simp only[aI]
      refine wpAnyH_done (by kernel_rfl) ?_ _
      go_upto_region 11 with(fail)
      refine wp_region_held_drew (S:=fun w'=>(w'.cell? ⟨b,off+k*3,none⟩=some (.bool xm)/\ w'.cell? ⟨b,off+k*3+1,none⟩=some (.slice xa xn xc)/\ w'.cell? ⟨b,off+k*3+2,none⟩=some (.slice xp xq xr))/\ (w'.cell? ⟨d,F7+j*3,none⟩=some (.bool ym)/\ w'.cell? ⟨d,F7+j*3+1,none⟩=some (.slice ya yn yc)/\ w'.cell? ⟨d,F7+j*3+2,none⟩=some (.slice yp yq yr))) (by kernel_rfl) ⟨Ag.out _ (jA.out.2).drew,Qh.out _ (jA.out.2).drew⟩ (fun hH=>?_);refine ai (fun w4 hW=>?_);have nO:Hid (Pz (bd (N+j)) w4 o3 n3 c3 (Bw p q p[k] k j)/\ Below w.heap.size w w4):=by rw[hW];exact⟨jA.out.1.below (Below.refl _ _).drew,jA.out.2.drew⟩
      have Yd:Hid (Ml w4 mo mn mc (mh (p[k]).2 (q[j]).2)):=by rw[hW];exact Me.out.below (Below.refl _ _).drew
      clear jA Me;rw[<-hW]at hH;clear hW;refine bC 0 hH ?_;try simp only[aI]
      refine bC 1 hH ?_;try simp only[aI]
      refine bC 2 hH ?_;try simp only[aI]
      refine bC 3 hH ?_;try simp only[aI]
      refine bC 4 hH ?_;try simp only[aI]
      refine bC 5 hH ?_;try simp only[aI]
      refine bC 6 hH ?_;try simp only[aI]
      refine bC 7 hH ?_;try simp only[aI]
      refine bC 8 hH ?_;try simp only[aI]
      refine bC 9 hH ?_;try simp only[aI]
      refine bC 10 hH ?_;try simp only[aI]
      refine bC 12 hH ?_;try simp only[aI]
      refine ah 11 rfl (by kernel_rfl) (fun KK hK=>?_);go_simp;refine(N7 ((Zf.out.below nO.out.2).zx Qf.out (by have:=HKK.out;omega)) ((HZQ.out.below nO.out.2).zx Yb.out (by have:=HKK.out;omega))).mono ?_;rintro e w6 ⟨rm,ra,rn,rc,rfl,hX,hB⟩;have eZ:Hid (Pz (bd (N+j)) w6 o3 n3 c3 (Bw p q p[k] k j)/\ Below w.heap.size w w6):=⟨nO.out.1.below hB,Below.steps nO.out.2 hB⟩;have Ye:=hid (Yd.out.below hB);have Bu:=hid hX;have Dx:Hid (Bd ((p[k]).1*(q[j]).1) (bd (N+j))):=(Qf.out.mul Yb.out).mono HKK.out.1;clear nO Yd hX hB;go_wp2_with fail;clear hH;refine hK.out _ _ ⟨Ag.out _ eZ.out.2,Qh.out _ eZ.out.2⟩ fun hH=>?_;clear hK KK
      try simp only[aI]
      refine ah 13 rfl (by kernel_rfl) (fun KK hK=>?_);go_simp;refine(CK eZ.out.1 Bu.out Dx.out Ye.out Ze.out Yc.out HNL.out HKK.out.2).mono ?_;rintro e w8 ⟨o8,n8,c8,rfl,hX,hB⟩;have Gh:Hid (Pz (bd (N+(j+1))) w8 o8 n8 c8 (Bw p q p[k] k (j+1))/\ Below w.heap.size w w8):=⟨by have h:=HSK.out;rw[NV _ k j TF]at h ⊢;exact hX.next h,Below.steps eZ.out.2 hB⟩;clear eZ Ye Bu Dx hX hB Ze Yc;go_wp2_with fail;clear hH;refine hK.out _ _ ⟨Ag.out _ Gh.out.2,Qh.out _ Gh.out.2⟩ fun hH=>?_;clear hK KK
      try simp only[aI]
      refine bC 14 hH ?_;try simp only[aI]
      refine wpAnyH_done (by kernel_rfl) ?_ _
      go_wp2_with fail;go_roundw
      case rel=>exact⟨j+1,n8,c8,o8,by go_num,rfl,by omega,HFJ,Gh.out⟩
      case measure=>simp[intOf];omega
     ·have HR2:Hid (R=([],false)):=HR.out.trans (Rn fun h=>hfit (h _ (List.getElem_mem _) _ (List.getElem_mem _)));rw[show oq (fun x y=>x+y) 8 (p[k]).2 (q[j]).2=([],8)from by unfold oq;rw[if_pos ⟨HMX.out,Rf.out⟩];exact if_neg hfit]at Wh;refine Wh.mono ?_;rintro e w5 ⟨mo,mn,mc,rfl,hX,hB⟩;clear Wh hfit;have pJ:Hid (Below w.heap.size w w5):=Below.steps kL.out.2 hB;clear hX hB kL;go_wp2_with fail;clear hH;refine hK.out _ _ ⟨Ag.out _ pJ.out,Qh.out _ pJ.out⟩ fun hH=>?_;clear hK KK
      try simp only[aI]
      refine bC 11 hH ?_;try simp only[aI]
      refine bC 12 hH ?_;try simp only[aI]
      refine bC 13 hH ?_;try simp only[aI]
      refine bC 14 hH ?_;try simp only[aI]
      refine bC 15 hH ?_;try simp only[aI]
      refine wpAnyH_done (by kernel_rfl) ?_ _
      go_wp2_with fail;refine bodyPost_ret (v:= .tuple #[.slice none 0 0,.bool false]) (by simp[results,Tryz.results93,go_sem]) rfl ?_;exact⟨none,0,0,by rw[HR2.out],by rw[HR2.out];exact Pz.zero _ _,pJ.out⟩
    ·obtain rfl:j=l:=by omega
     have HFN:Hid (xD (p.take (k+1)) q):=NZ k F6 X8.out (by have h:=Ya.out;rwa[List.take_of_length_le (by rw[Qg.out];exact Nat.le_refl _)]at h)
     have HS2:Hid (Pz (bd ((k+1)*j)) wr o3 n3 c3 (nA (p.take (k+1)) q)/\ Below w.heap.size w wr):=by
      rw[<-Ro k F6,Qg.out,Nat.add_mul,Nat.one_mul,<-HN.out];exact HS.out
     clear HS Ya X8;go_wp2_with fail;go_roundw
     case rel=>exact⟨k+1,n3,c3,o3,by go_num,rfl,by omega,HFN,HS2⟩
     case measure=>simp[intOf];omega
  ·obtain rfl:k=n:=by omega
   have HFN:Hid (xD p q):=by have h:=X8.out;rwa[List.take_of_length_le (by rw[F5.out];exact Nat.le_refl _)]at h
   have HR2:Hid (R=(nA p q,true)):=HR.out.trans (NU HFN.out);have HS2:Hid (Pz (bd A) wr oo n2 c2 (nA p q)/\ Below w.heap.size w wr):=by have h:=HS.out;rwa[List.take_of_length_le (by rw[F5.out];exact Nat.le_refl _),<-HA.out]at h
   clear HS X8;go_wp2_with fail;refine bodyPost_ret (v:= .tuple #[.slice oo n2 c2,.bool true]) (by simp[results,Tryz.results93,go_sem]) rfl ?_;exact⟨_,_,_,by rw[HR2.out],by rw[HR2.out];exact HS2.out.1,HS2.out.2⟩
theorem Hq [Ol] {Kp Kq:Nat} {ao bo:Option Addr} {n cap l cb:Nat} {p q:List Term} {w:World} (hp:Pz Kp w ao n cap p) (hq:Pz Kq w bo l cb q) (hmp:mJ p) (UY:mJ q) (hK:Kp+Kq+n*l<=9000):
  Calls Tryz.prog 93 #[.slice ao n cap,.slice bo l cb] w (TG (Kp+Kq+n*l) w (yg p q).1 (yg p q).2):=
 Hl (bd:=fun i=>Kp+Kq+i) hp hq hmp UY (by omega) (fun i hi=>⟨Nat.le_add_right _ _,by show Kp+Kq+i<=9000;omega⟩) fun k j _ _=> .inl (Nat.le_refl _)
open Lib (hid)
theorem N8 [Ol] {K:Nat} {bo:Option Addr} {l cb:Nat} {q:List Term} {w:World} (hq:Pz K w bo l cb q) (hn:l<=2000000) (hK:K<=9000):
  Calls Tryz.prog 92 #[.slice bo l cb] w (uy K w (uR q)):=by
 obtain⟨i0,hi,hz0,hz1,hz2⟩:=info_parts Tryz.NP;obtain⟨bM,hG,hT⟩:=hq.ex;have hle:=hG.le;have hbig:=hG.big;have Kg:=hq.len;have HG:=hid hG;have HT:=hid hT;have UU:=hid Kg;clear hq hG hT Kg;go_enter Tryz.func92,Tryz.ntmps92;go_wp2;go_loopw [3,4] (fun o i wr=>∃(k c2:Nat) (oo:Option Addr) (zs:List (List Value)),i= .int .i64 k/\ o= .slice oo k c2/\ k<=l/\ Hid (iK w.heap.size 87 3 wr oo k c2 zs/\ bY (DK K wr) zs (uR (q.take k))/\ Below w.heap.size w wr)) (fun _ i _=>l-(intOf i).toNat)
 case atStart=>exact⟨0,0,none,[],rfl,rfl,Nat.zero_le _,iK.nil _ _ _ _,trivial,Below.refl _ _⟩
 case round=>
  obtain⟨k,c2,oo,zs,rfl,rfl,hk,HS⟩:=hrel;by_cases hkl:k<l
  ·obtain⟨b,off,rfl,hb,hcl⟩:=HG.out.at (by omega);obtain⟨tm,ta,tn,tc,ba,bn,bc,hv,tz,tb,vC⟩:=bY.get (0,[]) HT.out k (by rw[UU.out];exact hkl)
   have hcells:∀V:World,Below w.heap.size w V->V.cell? ⟨b,off+k*3,none⟩=some (.bool tm)/\ V.cell? ⟨b,off+k*3+1,none⟩=some (.slice ta tn tc)/\ V.cell? ⟨b,off+k*3+2,none⟩=some (.slice ba bn bc):=by
    intro V hV;have h0:=hcl V hV k hkl 0 (by omega);have h1:=hcl V hV k hkl 1 (by omega);have h2:=hcl V hV k hkl 2 (by omega);rw[hv]at h0 h1 h2;exact⟨h0,h1,h2⟩
   have vD:=hid hcells;have Rk:=hid tz;have NQ:=hid tb;have Rl:=hid vC;obtain⟨t,ht⟩:∃t,t=q.getD k (0,[]):=⟨_,rfl⟩;have hlq:k<q.length:=by rw[UU.out];exact hkl
   have ht2:t=q[k]:=by rw[ht];simp[List.getD,List.getElem?_eq_getElem hlq]
   have HQ:Hid (uR (q.take (k+1))=uR (q.take k)++[(-t.1,t.2)]):=by
    unfold uR;rw[Hid,List.take_succ_eq_append_getElem hlq,List.map_append,<-ht2];rfl
   rw[<-ht]at Rk Rl NQ;clear hcl hv hcells tz tb vC ht ht2 hlq;go_upto_region 5 with(fail)
   refine wp_region_held_drew (S:=fun w'=>w'.cell? ⟨b,off+k*3,none⟩=some (.bool tm)/\ w'.cell? ⟨b,off+k*3+1,none⟩=some (.slice ta tn tc)/\ w'.cell? ⟨b,off+k*3+2,none⟩=some (.slice ba bn bc)) (by kernel_rfl) (vD.out _ HS.out.2.2.drew) (fun hH=>?_);refine ai (fun w4 hW=>?_);have kL:Hid (iK w.heap.size 87 3 w4 oo k c2 zs/\ bY (DK K w4) zs (uR (q.take k))/\ Below w.heap.size w w4):=by rw[hW];exact⟨HS.out.1.below (Below.refl _ _).drew,HS.out.2.1.imp (fun _ _ h=>h.below (Below.refl _ _).drew),HS.out.2.2.drew⟩
   rw[<-hW]at hH;clear hW HS;refine bC 0 hH ?_;try simp only[aI]
   refine bC 1 hH ?_;try simp only[aI]
   refine bC 2 hH ?_;try simp only[aI]
   refine bC 3 hH ?_;try simp only[aI]
   refine bC 4 hH ?_;try simp only[aI]
   refine bC 5 hH ?_;try simp only[aI]
   refine bC 7 hH ?_;try simp only[aI]
   refine bC 8 hH ?_;try simp only[aI]
   refine bC 9 hH ?_;try simp only[aI]
   refine bC 10 hH ?_;try simp only[aI]
   refine bC 11 hH ?_;try simp only[aI]
   refine ah 6 rfl (by kernel_rfl) (fun KK hK=>?_);go_simp;refine(lQ ((Rk.out.below kL.out.2.2).zx NQ.out (by omega))).mono ?_;rintro e w5 ⟨rm,ra,rn,rc,rfl,hX,hB⟩;have jA:Hid (iK w.heap.size 87 3 w5 oo k c2 zs/\ bY (DK K w5) zs (uR (q.take k))/\ Below w.heap.size w w5):=⟨kL.out.1.below hB,kL.out.2.1.imp (fun _ _ h=>h.below hB),Below.steps kL.out.2.2 hB⟩;have Qc:Hid (DK K w5 [.bool rm,.slice ra rn rc,.slice ba bn bc] (-t.1,t.2)):=⟨_,_,_,_,_,_,_,rfl,hX,NQ.out.neg,Rl.out.below jA.out.2.2⟩;clear kL hX hB Rk NQ Rl;go_wp2_with fail;clear hH;refine hK.out _ _ (vD.out _ jA.out.2.2) fun hH=>?_;clear hK KK
   try simp only[aI]
   refine bC 12 hH ?_;try simp only[aI]
   refine ah 13 rfl (by kernel_rfl) (fun KK hK=>?_);go_simp;clear hH;refine hK.out _ _ (vD.out _ (jA.out.2.2.trans (Below.mono (af w5 _) jA.out.2.2.size))) fun hH=>?_;clear hK KK
   try simp only[aI]
   refine ah 14 rfl (by kernel_rfl) (fun KK hK=>?_);refine uS _ w (.tmp 11) (.tmp 24) 39 rfl w.heap.size 87 3 56 i0 (.agg #[.bool false,.slice none 0 0,.slice none 0 0]) Tryz.underlying39 hi hz0 hz1 hz2 rfl (by omega) oo k c2 zs rfl (jA.out.1.below (af w5 _)) _ 1 1 [[.bool rm,.slice ra rn rc,.slice ba bn bc]] rfl (Gl.lit 3 w5 _ _ rfl (by simp[Value.oneCell'])) (jA.out.2.2.alloc jA.out.2.2.size _) (by have:=jA.out.2.2.size;simp;omega) (by omega) (by omega) (by simp[Value.cells,bB]) (by simp[bB]) ?_;intro o6 c6 w6 hO VW hG6;have nO:Hid (iK w.heap.size 87 3 w6 o6 (k+1) c6 (zs++[[.bool rm,.slice ra rn rc,.slice ba bn bc]])/\ bY (DK K w6) (zs++[[.bool rm,.slice ra rn rc,.slice ba bn bc]]) (uR (q.take (k+1)))/\ Below w.heap.size w w6):=⟨hO,by rw[HQ.out];exact bY.append (jA.out.2.1.imp (fun _ _ h=>(h.below (af w5 _)).stays (jA.out.1.below (af w5 _)) hG6)) ⟨(Qc.out.below (af w5 _)).stays (jA.out.1.below (af w5 _)) hG6,trivial⟩,VW⟩;clear jA hO VW hG6 Qc HQ;clear hH;refine hK.out _ _ (vD.out _ nO.out.2.2) fun hH=>?_;clear hK KK
   try simp only[aI]
   refine bC 15 hH ?_;try simp only[aI]
   refine wpAnyH_done (by kernel_rfl) ?_ _
   go_wp2_with fail;go_roundw
   case rel=>exact⟨k+1,c6,o6,_,by go_num,rfl,by omega,nO.out⟩
   case measure=>simp[intOf];omega
  ·obtain rfl:k=l:=by omega
   go_wp2_with fail;go_ret;refine⟨_,_,_,rfl,⟨_,HS.out.1.gl,?_⟩,HS.out.2.2⟩;have h:=HS.out.2.1;rw[List.take_of_length_le (by rw[UU.out];exact Nat.le_refl _)]at h;exact h
open Lib (hid)
def Ca (n:Int):List Term:=iP [] n []
theorem wD (n:Int):fall (Ca n):=(vX n (p:=[]) trivial rfl).1
theorem Ei {n:Int} (h: -9223372036854775808<=n/\ n<=9223372036854775807):Bd n 2:=by
 unfold Bd;have:(2:Nat)^(32*2)=18446744073709551616:=by decide
 omega
theorem N9 [Ol] {K:Nat} {bd:Nat->Nat} {ao bo:Option Addr} {n cap l cb:Nat} {p q:List Term} {w:World} (hp:Pz (bd 0) w ao n cap p) (hq:Pz K w bo l cb q) (hf:fall p) (hm:mJ q) (hn:n+l<=2000000) (hK:∀k,k<=l->K<=bd k/\ bd k<=9000) (hs:∀k,k<l->bd k+1<=bd (k+1)∨ ∀t∈jK p ((uR q).take (k+1)),Bd t.1 (bd (k+1))):
  Calls Tryz.prog 35 #[.slice ao n cap,.slice bo l cb] w (uy (bd l) w (TY p q)):=by
 have HP:=hid hp;have yP:=hid hK;have UR:=hid hs;clear hK hs;have HQ:=hid hq;have HF:=hid hf;have HM:=hid (Oa hm);have hl:=hq.len;have HL:Hid ((uR q).length=l):=by rw[Hid,<-hl];simp[uR]
 clear hp hq hf hm hl;go_enter Tryz.func35,Tryz.ntmps35;go_wp2_with fail;refine(N8 HQ.out (by omega) (by have:=yP.out 0 (Nat.zero_le _);omega)).mono ?_;rintro e w1 ⟨qo,qn,qc,rfl,hX,hB⟩;have hl:=hX.len;obtain rfl:qn=l:=by rw[<-hl,HL.out]
 have HP1:=hid (HP.out.below hB);have HQ1:=hid hX;have HB1:=hid hB;clear HP HQ hX hB hl;go_wp2_with fail;refine(EO HP1.out HQ1.out HF.out HM.out hn yP.out UR.out).mono ?_;rintro e w2 ⟨ro,rn,rc,rfl,hX,hB⟩;have HR:=hid hX;have HB2:=hid (Below.steps HB1.out hB);clear hX hB HB1;go_wp2_with fail;go_ret;exact⟨_,_,_,rfl,HR.out,HB2.out⟩
theorem Mw [Ol] {K:Nat} {ao bo:Option Addr} {n cap l cb:Nat} {p q:List Term} {w:World} (hp:Pz K w ao n cap p) (hq:Pz K w bo l cb q) (hf:fall p) (hm:mJ q) (hn:n+l<=100000) (hK:K+l<=9000):
  Calls Tryz.prog 35 #[.slice ao n cap,.slice bo l cb] w (uy (K+l) w (TY p q)):=
 N9 (bd:=fun k=>K+k) hp hq hf hm (by omega) (fun k hk=>⟨Nat.le_add_right _ _,by show K+k<=9000;omega⟩) fun k _=> .inl (Nat.le_refl _)
theorem yj [Ol] {Kp Kq:Nat} {ao bo:Option Addr} {n cap l cb:Nat} {p q:List Term} {w:World} (hp:Pz Kp w ao n cap p) (hq:Pz Kq w bo l cb q) (hmp:mJ p) (UY:mJ q) (hK:Kp+Kq+n*l<=9000):
  Calls Tryz.prog 36 #[.slice ao n cap,.slice bo l cb] w (uy (Kp+Kq+n*l) w (yg p q).1):=by
 have ht:=Hq hp hq hmp UY hK;have HT:=hid ht;clear hp hq hmp UY ht hK;go_enter Tryz.func36,Tryz.ntmps36;go_wp2_with fail;refine HT.out.mono ?_;rintro e w1 ⟨ro,rn,rc,rfl,hX,hB⟩;have HR:=hid hX;have HB:=hid hB;clear hX hB HT;go_wp2_with fail;go_ret;exact⟨_,_,_,rfl,HR.out,HB.out⟩
theorem yo [Ol] (n:Int) (w:World) (h: -9223372036854775808<=n/\ n<=9223372036854775807):
  Calls Tryz.prog 37 #[.int .i64 n] w (uy 3 w (Ca n)):=by
 have HN:=hid h;clear h;go_enter Tryz.func37,Tryz.ntmps37;go_wp2_with fail;refine(oQ n w HN.out).mono ?_;rintro e w1 ⟨m,ao,k,cap,rfl,hX,hB⟩;have HX:=hid hX;have HB:=hid hB;clear hX hB;go_wp2_with fail;refine(CK (K:=2) (p:=[]) (Pz.zero _ _) HX.out (Ei HN.out) (Ml.zero _) trivial rfl (by omega) (by omega)).mono ?_;rintro e w2 ⟨ro,rn,rc,rfl,hX,hB⟩;have HR:=hid hX;have HB2:=hid (Below.steps HB.out hB);clear hX hB HB;go_wp2_with fail;go_ret;exact⟨_,_,_,rfl,HR.out,HB2.out⟩
def Yf [Ol] (K:Nat) (w:World) (vs:List Value) (t:Term):Prop:=
 ∃m ao n cap bo k cb,vs=[.bool m,.slice ao n cap,.slice bo k cb]/\ In w m ao n cap t.1/\ n<=K/\ Ml w bo k cb t.2
theorem Yf.below [Ol] {K:Nat} {w w':World} {vs:List Value} {t:Term} (h:Yf K w vs t) (hb:Below w.heap.size w w'):Yf K w' vs t:=by
 obtain⟨m,ao,n,cap,bo,k,cb,h1,h2,h3,h4⟩:=h;exact⟨m,ao,n,cap,bo,k,cb,h1,h2.below hb,h3,h4.below hb⟩
structure Pi [Ol] (K:Nat) (w:World) (ao:Option Addr) (n cap:Nat) (p:List Term):Prop where
 ex:∃bM,Gl 3 w ao n cap bM/\ bY (Yf K w) bM p
theorem Pi.len [Ol] {K:Nat} {w:World} {ao:Option Addr} {n cap:Nat} {p:List Term} (h:Pi K w ao n cap p):p.length=n:=by
 obtain⟨bM,h1,h2⟩:=h.ex;rw[<-h2.len,h1.len]
theorem Pi.below [Ol] {K:Nat} {w w':World} {ao:Option Addr} {n cap:Nat} {p:List Term} (h:Pi K w ao n cap p) (hb:Below w.heap.size w w'):Pi K w' ao n cap p:=by
 obtain⟨bM,h1,h2⟩:=h.ex;exact⟨bM,h1.below hb,h2.imp fun v a h=>h.below hb⟩
open Lib (hid)
theorem qC {w w':World} {g:Nat} (hc:fe w g) (hG:w.grownBy w' (some g)) {k:IntKind} {x:Int} {ad:Addr} (h:w.cell? ad=some (.int k x)):w'.cell? ad=some (.int k x):=
 hG.cell h fun eq=>hc.far h (Option.some.inj eq)
theorem Ml.jk [Ol] {w w':World} {g:Nat} (hc:fe w g) (hG:w.grownBy w' (some g)) {bo:Option Addr} {k cb:Nat} {ps:List (Int×Int)} (h:Ml w bo k cb ps):Ml w' bo k cb ps:=
 ⟨h.len,h.le,h.big,h.wf,h.nil,fun ad had t ht=>⟨qC hc hG (h.cells ad had t ht).1,qC hc hG (h.cells ad had t ht).2⟩,fun h0 ad had=>by
  obtain⟨x,hx⟩:=h.int h0 had;exact(h.kp h0 ad had).grown (h.blt h0 had) hG fun eq=>hc.far hx (Option.some.inj eq)⟩
theorem Cn.jk {w w':World} {g:Nat} (hc:fe w g) (hG:w.grownBy w' (some g)) {m:Bool} {bo:Option Addr} {k cb:Nat} {z:Int} (h:Cn w m bo k cb z):Cn w' m bo k cb z:=
 ⟨h.neg,h.sl.len,h.sl.le,h.sl.big,h.sl.wf,h.sl.nil,fun ad had t ht=>qC hc hG (h.sl.cells ad had t ht)⟩
theorem Cn.stays {B:Nat} {e:TypeId} {sz:Nat} {w w':World} {ao:Option Addr} {n cap:Nat} {bM:List (List Value)} {m:Bool} {bo:Option Addr} {k cb:Nat} {z:Int} (h:Cn w m bo k cb z) (hO:iK B e sz w ao n cap bM) (hG:w.grownBy w' (Value.slice ao n cap).ownBlock):Cn w' m bo k cb z:=
 ⟨h.neg,h.sl.len,h.sl.le,h.sl.big,h.sl.wf,h.sl.nil,fun ad had t ht=>hO.stays hG (h.sl.cells ad had t ht)⟩
theorem bD.clean {w:World} {g:Nat} {T:TypeId} (h:bD w g [] T):fe w g:=fun cur T' fr hh u hu=>by
 unfold bD at h;rw[h]at hh;cases hh;simp at hu
theorem iK.other {B:Nat} {e:TypeId} {sz:Nat} {w w':World} {ao:Option Addr} {n cap:Nat} {bM:List (List Value)} (h:iK B e sz w ao n cap bM) {g:Nat} {us:List Value} {T:TypeId} (hg:bD w g us T) (hT:T≠e) (hG:w.grownBy w' (some g)):iK B e sz w' ao n cap bM:=by
 refine h.keep fun a ha=>?_
 rcases h.parts with⟨h1,_⟩|⟨g',cur,h1,_,hlt,_,hh⟩
 ·rw[h1]at ha;cases ha
 ·rw[h1]at ha;cases ha;refine hG.block g' hlt fun eq=>?_
  have e':g'=g:=Option.some.inj eq;subst e';unfold bD at hg;rw[hg]at hh;cases hh;exact hT rfl
def jV [Ol] (K:Nat) (w:World) (vs:List Value) (t:Term):Prop:=
 ∃m ao n cap bo k cb,vs=[.bool m,.slice ao n cap,.slice bo k cb]/\ Cn w m ao n cap t.1/\ Bd t.1 K/\ Ml w bo k cb t.2
theorem jV.below [Ol] {K:Nat} {w w':World} {vs:List Value} {t:Term} (h:jV K w vs t) (hb:Below w.heap.size w w'):jV K w' vs t:=by
 obtain⟨m,ao,n,cap,bo,k,cb,h1,h2,h3,h4⟩:=h;exact⟨m,ao,n,cap,bo,k,cb,h1,h2.below hb,h3,h4.below hb⟩
theorem jV.inn [Ol] {K:Nat} {w:World} {vs:List Value} {t:Term} (h:jV K w vs t):Yf K w vs t:=by
 obtain⟨m,ao,n,cap,bo,k,cb,h1,h2,h3,h4⟩:=h;exact⟨m,ao,n,cap,bo,k,cb,h1,h2.inn,h2.le h3,h4⟩
theorem jV.mono [Ol] {K L:Nat} {w:World} {vs:List Value} {t:Term} (h:jV K w vs t) (hk:K<=L):jV L w vs t:=by
 obtain⟨m,ao,n,cap,bo,k,cb,h1,h2,h3,h4⟩:=h;exact⟨m,ao,n,cap,bo,k,cb,h1,h2,h3.mono hk,h4⟩
theorem jV.stays [Ol] {B:Nat} {e:TypeId} {sz:Nat} {w w':World} {ao:Option Addr} {n cap:Nat} {bM:List (List Value)} {K:Nat} {vs:List Value} {t:Term} (h:jV K w vs t) (hO:iK B e sz w ao n cap bM) (hG:w.grownBy w' (Value.slice ao n cap).ownBlock):jV K w' vs t:=by
 obtain⟨m,ao,n,cap,bo,k,cb,h1,h2,h3,h4⟩:=h;exact⟨m,ao,n,cap,bo,k,cb,h1,h2.stays hO hG,h3,h4.stays hO hG⟩
theorem jV.jk [Ol] {w w':World} {g:Nat} (hc:fe w g) (hG:w.grownBy w' (some g)) {K:Nat} {vs:List Value} {t:Term} (h:jV K w vs t):jV K w' vs t:=by
 obtain⟨m,ao,n,cap,bo,k,cb,h1,h2,h3,h4⟩:=h;exact⟨m,ao,n,cap,bo,k,cb,h1,h2.jk hc hG,h3,h4.jk hc hG⟩
structure Pc [Ol] (K:Nat) (w:World) (ao:Option Addr) (n cap:Nat) (p:List Term):Prop where
 ex:∃bM,Gl 3 w ao n cap bM/\ bY (jV K w) bM p
theorem Pc.len [Ol] {K:Nat} {w:World} {ao:Option Addr} {n cap:Nat} {p:List Term} (h:Pc K w ao n cap p):p.length=n:=by
 obtain⟨bM,h1,h2⟩:=h.ex;rw[<-h2.len,h1.len]
theorem Pc.below [Ol] {K:Nat} {w w':World} {ao:Option Addr} {n cap:Nat} {p:List Term} (h:Pc K w ao n cap p) (hb:Below w.heap.size w w'):Pc K w' ao n cap p:=by
 obtain⟨bM,h1,h2⟩:=h.ex;exact⟨bM,h1.below hb,h2.imp fun v a h=>h.below hb⟩
theorem Pc.inn [Ol] {K:Nat} {w:World} {ao:Option Addr} {n cap:Nat} {p:List Term} (h:Pc K w ao n cap p):Pi K w ao n cap p:=by
 obtain⟨bM,h1,h2⟩:=h.ex;exact⟨bM,h1,h2.imp fun v a h=>h.inn⟩
theorem Pc.mono [Ol] {K L:Nat} {w:World} {ao:Option Addr} {n cap:Nat} {p:List Term} (h:Pc K w ao n cap p) (hk:K<=L):Pc L w ao n cap p:=by
 obtain⟨bM,h1,h2⟩:=h.ex;exact⟨bM,h1,h2.imp fun v a h=>h.mono hk⟩
theorem Pc.zero [Ol] (K:Nat) (w:World):Pc K w none 0 0 []:=⟨[],Gl.zero 3 w,trivial⟩
def Yg [Ol] (K:Nat) (w:World) (p:List Term) (e:Ending) (w':World):Prop:=∃ao n cap,e= .returned (.slice ao n cap)/\ Pc K w' ao n cap p/\ Below w.heap.size w w'
theorem Tryz.Rs:(Tryz.prog.info? 70).map (fun i=>(i.zero,i.size,i.bytes))=some (some (.agg #[.bool false,.slice none 0 0,.slice none 0 0]),3,56):=by kernel_rfl
theorem Je [Ol] {P:Program} (wa w0:World) {o:Oper} {a:Act} {K:Act->World->Prop} {Q:Exit->Act->World->Prop}
  (s x:Operand) (t:TypeId) (hop:o.op=Op.call { callee:=Callee.builtin Builtin.append,args:= #[s,x],argTypes:= #[t,t] })
  (B:Nat) (i:TypeInfo) (z:Value) (h1:P.underlying t=some (.slice 72)) (h2:P.info? 72=some i) (h3:i.zero=some z) (h4:i.size=2) (h5:i.bytes=16) (h6:z.cells.size=2)
  (g:Nat) (hs:a.eval s= .slice (some ⟨g,0,none⟩) 0 0) (hO:Mo B wa (some ⟨g,0,none⟩) 0 0 []) (ao:Option Addr) (n cap:Nat) (ps:List (Int×Int)) (hx:a.eval x= .slice ao n cap) (hS:Ml wa ao n cap ps)
  (hb:Below B w0 wa) (hB:B<=wa.heap.size)
  (hK:∀iB cap' w',Ml w' iB n cap' ps->Below B w0 w'->wa.grownBy w' (some g)->K (a.put o.dst (.slice iB n cap')) w'):
  Oper.wp P o a wa K Q:=by
 cases ao with
 |none=>
  have hn:n=0:=by have:=hS.nil rfl;have:=hS.le;omega
  have hc:cap=0:=hS.nil rfl;subst hn;subst hc;have hxs:ps=[]:=List.eq_nil_of_length_eq_zero hS.len;subst hxs;have hrun:=run_append_owned_none (P:=P) wa B t o.type 72 i 2 h1 h2 _ 0 [] hO.row;unfold Oper.wp;simp[execOp,hop,resolve,invoke,builtin,hs,hx,hrun,Result.andThen];exact hK _ _ wa hO.ml hb (World.grownBy.refl _ _)
 |some ad=>
  refine wp_append_own wa s x t hop B 72 i z 2 16 h1 h2 h3 h4 h5 h6 (by decide) _ 0 [] hs hO.row ad n cap (eP ps) hx (by rw[kD,hS.len]) ?_ (oM ps) (by have:=hS.big;unfold maxLen;omega) (by have:=hS.big;omega) hB ?_
  ·intro j u hj;have hjl:j<n*2:=by have:=(List.getElem?_eq_some_iff.1 hj).1;rwa[kD,hS.len]at this
   have hc:=hS.cells ad rfl (j/2) (by omega);have hp:=tK ps (j/2) (by rw[hS.len];omega);rcases(show j=j/2*2∨j=j/2*2+1 by omega)with e|e
   ·rw[<-e]at hc hp;rw[hc.1,<-hp.1,hj]
   ·rw[<-e]at hc hp;rw[hc.2,<-hp.2,hj]
  ·intro v' w' hown' hgrow _;obtain⟨iB,cap',rfl⟩:=pY hown';rw[Nat.zero_add]at hown' ⊢;have hM:Mo B w' iB n cap' ps:=⟨by simpa using hown',hS.big,hS.wf⟩;exact hK iB cap' w' hM.ml (hb.grown hgrow hB fun k hk=>(hO.row.lt k hk).1) hgrow
theorem Mo.empty (w:World):Mo w.heap.size (w.alloc (.cells #[] 72)) (some ⟨w.heap.size,0,none⟩) 0 0 []:=
 ⟨World.ownsRow_made w #[] 0 (Nat.le_refl _) (Nat.zero_le _) rfl,Nat.zero_le _,fun _ h=>by cases h⟩
theorem JH [Ol] {K:Nat} {bo:Option Addr} {l cb:Nat} {q:List Term} {w:World} (hq:Pz K w bo l cb q) (hn:l<=100000) (hK:K<=9000):
  Calls Tryz.prog 38 #[.slice bo l cb] w (Yg K w q):=by
 obtain⟨i0,hi,hz0,hz1,hz2⟩:=info_parts Tryz.Rs;obtain⟨j0,hi2,hy0,hy1,hy2⟩:=info_parts Tryz.yw;obtain⟨bM,hG,hT⟩:=hq.ex;have hle:=hG.le;have hbig:=hG.big;have Kg:=hq.len;have XZ:=hid hG;have X7:=hid hT;have F5:=hid Kg;clear hq hG hT Kg;go_enter Tryz.func38,Tryz.ntmps38;go_wp2;go_loopw [3,4] (fun o i wr=>∃(k c2:Nat) (oo:Option Addr) (zs:List (List Value)),i= .int .i64 k/\ o= .slice oo k c2/\ k<=l/\ Hid (iK w.heap.size 70 3 wr oo k c2 zs/\ bY (jV K wr) zs (q.take k)/\ Below w.heap.size w wr)) (fun _ i _=>l-(intOf i).toNat)
 case atStart=>exact⟨0,0,none,[],rfl,rfl,Nat.zero_le _,iK.nil _ _ _ _,trivial,Below.refl _ _⟩
 case round=>
  obtain⟨k,c2,oo,zs,rfl,rfl,hk,HS⟩:=hrel;by_cases hkl:k<l
  ·obtain⟨b,off,rfl,_,hcl⟩:=XZ.out.at (by omega);obtain⟨xm,xa,xn,xc,xp,xq,xr,hv,tz,tb,vC⟩:=bY.get (0,[]) X7.out k (by rw[F5.out];assumption)
   have hcells:∀V:World,Below w.heap.size w V->(V.cell? ⟨b,off+k*3,none⟩=some (.bool xm)/\ V.cell? ⟨b,off+k*3+1,none⟩=some (.slice xa xn xc)/\ V.cell? ⟨b,off+k*3+2,none⟩=some (.slice xp xq xr)):=by
    intro V hV;have h0:=hcl V hV k (by assumption) 0 (by omega);have h1:=hcl V hV k (by assumption) 1 (by omega);have h2:=hcl V hV k (by assumption) 2 (by omega);rw[hv]at h0 h1 h2;exact⟨h0,h1,h2⟩
   have Ag:=hid hcells;clear hcl hv hcells;have F6:k<q.length:=by rw[F5.out];assumption
   have Rq:q.getD k (0,[])=q[k]:=by simp[List.getD,List.getElem?_eq_getElem F6]
   rw[Rq]at tz tb vC;have Zf:=hid tz;have Qf:=hid tb;have V9:=hid vC;clear tz tb vC Rq;have HQ:Hid (q.take (k+1)=q.take k++[q[k]]):=List.take_succ_eq_append_getElem F6;go_upto_region 5 with(fail)
   refine wp_region_held_drew (S:=fun w'=>(w'.cell? ⟨b,off+k*3,none⟩=some (.bool xm)/\ w'.cell? ⟨b,off+k*3+1,none⟩=some (.slice xa xn xc)/\ w'.cell? ⟨b,off+k*3+2,none⟩=some (.slice xp xq xr))) (by kernel_rfl) (Ag.out _ HS.out.2.2.drew) (fun hH=>?_);refine ai (fun w4 hW=>?_);have kL:Hid (iK w.heap.size 70 3 w4 oo k c2 zs/\ bY (jV K w4) zs (q.take k)/\ Below w.heap.size w w4):=by rw[hW];exact⟨HS.out.1.below (Below.refl _ _).drew,HS.out.2.1.imp (fun _ _ h=>h.below (Below.refl _ _).drew),HS.out.2.2.drew⟩
   rw[<-hW]at hH;clear hW HS;refine bC 0 hH ?_;try simp only[aI]
   refine bC 1 hH ?_;try simp only[aI]
   refine bC 2 hH ?_;try simp only[aI]
   refine bC 3 hH ?_;try simp only[aI]
   refine bC 4 hH ?_;try simp only[aI]
   refine bC 5 hH ?_;try simp only[aI]
   refine bC 8 hH ?_;try simp only[aI]
   refine bC 9 hH ?_;try simp only[aI]
   refine bC 10 hH ?_;try simp only[aI]
   refine bC 11 hH ?_;try simp only[aI]
   refine bC 12 hH ?_;try simp only[aI]
   refine wpAnyH_ready (rs:=[6,7]) (by kernel_rfl) (by simp) (aO rfl (fun KK hK=>?_) (aO rfl (fun KK hK=>?_) AllReadyH.nil))
   ·go_simp;refine(nQ ((Zf.out.below kL.out.2.2).zx Qf.out (by omega))).mono ?_;rintro e w5 ⟨rm,ra,rn,rc,rfl,hX,hB⟩;have Qc:=hid hX;have jA:Hid (iK w.heap.size 70 3 w5 oo k c2 zs/\ bY (jV K w5) zs (q.take k)/\ Below w.heap.size w w5):=⟨kL.out.1.below hB,kL.out.2.1.imp (fun _ _ h=>h.below hB),Below.steps kL.out.2.2 hB⟩;clear kL hX hB;go_wp2_with fail;clear hH;refine hK.out _ _ (Ag.out _ jA.out.2.2) fun hH=>?_;clear hK KK
    try simp only[aI]
    refine ah 7 rfl (by kernel_rfl) (fun KK hK=>?_);go_simp;clear hH;refine hK.out _ _ (Ag.out _ (jA.out.2.2.trans (Below.mono (af w5 _) jA.out.2.2.size))) fun hH=>?_;clear hK KK
    try simp only[aI]
    refine ai (fun w6 hW=>?_);obtain⟨g,hg⟩:∃g,g=w5.heap.size:=⟨_,rfl⟩;have nO:Hid (iK w.heap.size 70 3 w6 oo k c2 zs/\ bY (jV K w6) zs (q.take k)/\ Below w.heap.size w w6):=by rw[hW];exact⟨jA.out.1.below (af w5 _),jA.out.2.1.imp (fun _ _ h=>h.below (af w5 _)),jA.out.2.2.alloc jA.out.2.2.size _⟩
    have Yh:Hid (Cn w6 rm ra rn rc (q[k]).1):=by rw[hW];exact Qc.out.below (af w5 _)
    have Yi:Hid (Mo w.heap.size w6 (some ⟨g,0,none⟩) 0 0 []):=by rw[hW,hg];exact(Mo.empty w5).mono jA.out.2.2.size
    have Rt:Hid (bD w6 g [] 72):=by rw[hW,hg];exact bD.new w5 [] _
    rw[<-hW]at hH;rw[<-hg];clear hW hg jA Qc;refine ah 13 rfl (by kernel_rfl) (fun KK hK=>?_);refine Je w6 w (.tmp 18) (.tmp 23) 68 rfl w.heap.size j0 (.agg #[.int .i64 0,.int .i64 0]) Tryz.underlying68 hi2 hy0 hy1 hy2 rfl g rfl Yi.out _ _ _ _ rfl (V9.out.below nO.out.2.2) nO.out.2.2 nO.out.2.2.size ?_;intro ma mc w7 Yj Yk Ru;have eZ:Hid (iK w.heap.size 70 3 w7 oo k c2 zs/\ bY (jV K w7) zs (q.take k)/\ Below w.heap.size w w7):=⟨nO.out.1.other Rt.out (by decide) Ru,nO.out.2.1.imp (fun _ _ h=>jV.jk Rt.out.clean Ru h),Yk⟩;have Bu:Hid (jV K w7 [.bool rm,.slice ra rn rc,.slice ma xq mc] q[k]):=⟨_,_,_,_,_,_,_,rfl,Yh.out.jk Rt.out.clean Ru,Qf.out,Yj⟩;clear nO Yh Yi Rt Yj Yk Ru;clear hH;refine hK.out _ _ (Ag.out _ eZ.out.2.2) fun hH=>?_;clear hK KK
    try simp only[aI]
    refine bC 14 hH ?_;try simp only[aI]
    refine ah 15 rfl (by kernel_rfl) (fun KK hK=>?_);go_simp;clear hH;refine hK.out _ _ (Ag.out _ (eZ.out.2.2.trans (Below.mono (af w7 _) eZ.out.2.2.size))) fun hH=>?_;clear hK KK
    try simp only[aI]
    refine ah 16 rfl (by kernel_rfl) (fun KK hK=>?_);refine uS _ w (.tmp 11) (.tmp 26) 23 rfl w.heap.size 70 3 56 i0 (.agg #[.bool false,.slice none 0 0,.slice none 0 0]) Tryz.underlying23 hi hz0 hz1 hz2 rfl (by omega) oo k c2 zs rfl (eZ.out.1.below (af w7 _)) _ 1 1 [[.bool rm,.slice ra rn rc,.slice ma xq mc]] rfl (Gl.lit 3 w7 _ _ rfl (by simp[Value.oneCell'])) (eZ.out.2.2.alloc eZ.out.2.2.size _) (by have:=eZ.out.2.2.size;simp;omega) (by omega) (by omega) (by simp[Value.cells,bB]) (by simp[bB]) ?_;intro o8 c8 w8 hO om xC;have Gh:Hid (iK w.heap.size 70 3 w8 o8 (k+1) c8 (zs++[[.bool rm,.slice ra rn rc,.slice ma xq mc]])/\ bY (jV K w8) (zs++[[.bool rm,.slice ra rn rc,.slice ma xq mc]]) (q.take (k+1))/\ Below w.heap.size w w8):=⟨hO,by rw[HQ.out];exact bY.append (eZ.out.2.1.imp (fun _ _ h=>(h.below (af w7 _)).stays (eZ.out.1.below (af w7 _)) xC)) ⟨(Bu.out.below (af w7 _)).stays (eZ.out.1.below (af w7 _)) xC,trivial⟩,om⟩;clear eZ hO om xC Bu HQ;clear hH;refine hK.out _ _ (Ag.out _ Gh.out.2.2) fun hH=>?_;clear hK KK
    try simp only[aI]
    refine bC 17 hH ?_;try simp only[aI]
    refine wpAnyH_done (by kernel_rfl) ?_ _
    go_wp2_with fail;go_roundw
    case rel=>exact⟨k+1,c8,o8,_,by go_num,rfl,by omega,Gh.out⟩
    case measure=>simp[intOf];omega
   ·go_simp;clear hH;refine hK.out _ _ (Ag.out _ (kL.out.2.2.trans (Below.mono (af w4 _) kL.out.2.2.size))) fun hH=>?_;clear hK KK
    try simp only[aI]
    refine ai (fun w9 hW=>?_);obtain⟨g,hg⟩:∃g,g=w4.heap.size:=⟨_,rfl⟩;have xH:Hid (iK w.heap.size 70 3 w9 oo k c2 zs/\ bY (jV K w9) zs (q.take k)/\ Below w.heap.size w w9):=by rw[hW];exact⟨kL.out.1.below (af w4 _),kL.out.2.1.imp (fun _ _ h=>h.below (af w4 _)),kL.out.2.2.alloc kL.out.2.2.size _⟩
    have XG:Hid (Mo w.heap.size w9 (some ⟨g,0,none⟩) 0 0 []):=by rw[hW,hg];exact(Mo.empty w4).mono kL.out.2.2.size
    have XM:Hid (bD w9 g [] 72):=by rw[hW,hg];exact bD.new w4 [] _
    rw[<-hW]at hH;rw[<-hg];clear hW hg kL;refine ah 6 rfl (by kernel_rfl) (fun KK hK=>?_);go_simp;refine(nQ ((Zf.out.below xH.out.2.2).zx Qf.out (by omega))).mono ?_;rintro e w6 ⟨rm,ra,rn,rc,rfl,hX,hB⟩;have Yh:=hid hX;have nO:Hid (iK w.heap.size 70 3 w6 oo k c2 zs/\ bY (jV K w6) zs (q.take k)/\ Below w.heap.size w w6):=⟨xH.out.1.below hB,xH.out.2.1.imp (fun _ _ h=>h.below hB),Below.steps xH.out.2.2 hB⟩;have Yi:=hid (XG.out.below hB);have Rt:=hid (XM.out.below hB);clear xH XG XM hX hB;go_wp2_with fail;clear hH;refine hK.out _ _ (Ag.out _ nO.out.2.2) fun hH=>?_;clear hK KK
    try simp only[aI]
    refine ah 13 rfl (by kernel_rfl) (fun KK hK=>?_);refine Je w6 w (.tmp 18) (.tmp 23) 68 rfl w.heap.size j0 (.agg #[.int .i64 0,.int .i64 0]) Tryz.underlying68 hi2 hy0 hy1 hy2 rfl g rfl Yi.out _ _ _ _ rfl (V9.out.below nO.out.2.2) nO.out.2.2 nO.out.2.2.size ?_;intro ma mc w7 Yj Yk Ru;have eZ:Hid (iK w.heap.size 70 3 w7 oo k c2 zs/\ bY (jV K w7) zs (q.take k)/\ Below w.heap.size w w7):=⟨nO.out.1.other Rt.out (by decide) Ru,nO.out.2.1.imp (fun _ _ h=>jV.jk Rt.out.clean Ru h),Yk⟩;have Bu:Hid (jV K w7 [.bool rm,.slice ra rn rc,.slice ma xq mc] q[k]):=⟨_,_,_,_,_,_,_,rfl,Yh.out.jk Rt.out.clean Ru,Qf.out,Yj⟩;clear nO Yh Yi Rt Yj Yk Ru;clear hH;refine hK.out _ _ (Ag.out _ eZ.out.2.2) fun hH=>?_;clear hK KK
    try simp only[aI]
    refine bC 14 hH ?_;try simp only[aI]
    refine ah 15 rfl (by kernel_rfl) (fun KK hK=>?_);go_simp;clear hH;refine hK.out _ _ (Ag.out _ (eZ.out.2.2.trans (Below.mono (af w7 _) eZ.out.2.2.size))) fun hH=>?_;clear hK KK
    try simp only[aI]
    refine ah 16 rfl (by kernel_rfl) (fun KK hK=>?_);refine uS _ w (.tmp 11) (.tmp 26) 23 rfl w.heap.size 70 3 56 i0 (.agg #[.bool false,.slice none 0 0,.slice none 0 0]) Tryz.underlying23 hi hz0 hz1 hz2 rfl (by omega) oo k c2 zs rfl (eZ.out.1.below (af w7 _)) _ 1 1 [[.bool rm,.slice ra rn rc,.slice ma xq mc]] rfl (Gl.lit 3 w7 _ _ rfl (by simp[Value.oneCell'])) (eZ.out.2.2.alloc eZ.out.2.2.size _) (by have:=eZ.out.2.2.size;simp;omega) (by omega) (by omega) (by simp[Value.cells,bB]) (by simp[bB]) ?_;intro o8 c8 w8 hO om xC;have Gh:Hid (iK w.heap.size 70 3 w8 o8 (k+1) c8 (zs++[[.bool rm,.slice ra rn rc,.slice ma xq mc]])/\ bY (jV K w8) (zs++[[.bool rm,.slice ra rn rc,.slice ma xq mc]]) (q.take (k+1))/\ Below w.heap.size w w8):=⟨hO,by rw[HQ.out];exact bY.append (eZ.out.2.1.imp (fun _ _ h=>(h.below (af w7 _)).stays (eZ.out.1.below (af w7 _)) xC)) ⟨(Bu.out.below (af w7 _)).stays (eZ.out.1.below (af w7 _)) xC,trivial⟩,om⟩;clear eZ hO om xC Bu HQ;clear hH;refine hK.out _ _ (Ag.out _ Gh.out.2.2) fun hH=>?_;clear hK KK
    try simp only[aI]
    refine bC 17 hH ?_;try simp only[aI]
    refine wpAnyH_done (by kernel_rfl) ?_ _
    go_wp2_with fail;go_roundw
    case rel=>exact⟨k+1,c8,o8,_,by go_num,rfl,by omega,Gh.out⟩
    case measure=>simp[intOf];omega
  ·obtain rfl:k=l:=by omega
   go_wp2_with fail;go_ret;refine⟨_,_,_,rfl,⟨_,HS.out.1.gl,?_⟩,HS.out.2.2⟩;have h:=HS.out.2.1;rw[List.take_of_length_le (by rw[F5.out];exact Nat.le_refl _)]at h;exact h
open Lib (hid)
def jW:(Bool×List Nat)×List (Int×Int):=((false,[]),[])
abbrev Raw:=(Bool×List Nat)×List (Int×Int)
def rU (t:Raw):Term:=(dM t.1.1 (val t.1.2),t.2)
def jr (t:Term):Raw:=((decide (t.1<0),limbs t.1.natAbs),t.2)
def Yl [Ol] (w:World) (vs:List Value) (t:Raw):Prop:=
 ∃ao n cap bo k cb,vs=[.bool t.1.1,.slice ao n cap,.slice bo k cb]/\ Sl w ao n cap t.1.2/\ Ml w bo k cb t.2
theorem Yl.below [Ol] {w w':World} {vs:List Value} {t:Raw} (h:Yl w vs t) (hb:Below w.heap.size w w'):Yl w' vs t:=by
 obtain⟨ao,n,cap,bo,k,cb,h1,h2,h4⟩:=h;exact⟨ao,n,cap,bo,k,cb,h1,h2.below hb,h4.below hb⟩
theorem jV.raw [Ol] {K:Nat} {w:World} {vs:List Value} {t:Term} (h:jV K w vs t):Yl w vs (jr t):=by
 obtain⟨m,ao,n,cap,bo,k,cb,h1,h2,h3,h4⟩:=h;exact⟨ao,n,cap,bo,k,cb,by rw[h1,h2.neg];rfl,h2.sl,h4⟩
theorem qW (t:Term):rU (jr t)=t:=by
 unfold rU jr;simp only[au,rD]
structure Pr [Ol] (w:World) (ao:Option Addr) (n cap:Nat) (ts:List Raw):Prop where
 ex:∃bM,Gl 3 w ao n cap bM/\ bY (Yl w) bM ts
theorem Pr.len [Ol] {w:World} {ao:Option Addr} {n cap:Nat} {p:List Raw} (h:Pr w ao n cap p):p.length=n:=by
 obtain⟨bM,h1,h2⟩:=h.ex;rw[<-h2.len,h1.len]
theorem Pr.below [Ol] {w w':World} {ao:Option Addr} {n cap:Nat} {p:List Raw} (h:Pr w ao n cap p) (hb:Below w.heap.size w w'):Pr w' ao n cap p:=by
 obtain⟨bM,h1,h2⟩:=h.ex;exact⟨bM,h1.below hb,h2.imp fun v a h=>h.below hb⟩
theorem bY.map {α β:Type} {R:List Value->α->Prop} {S:List Value->β->Prop} (f:α->β):∀{vs:List (List Value)} {l:List α},(∀v a,a∈l->R v a->S v (f a))->bY R vs l->bY S vs (l.map f)
 |[],[],_,_=>trivial
 | _::_,_::_,hRS,h=>⟨hRS _ _ (by simp) h.1,bY.map f (fun v a ha=>hRS v a (by simp[ha])) h.2⟩
 |[],_::_,_,h=>h.elim
 | _::_,[],_,h=>h.elim
theorem Pc.raw [Ol] {K:Nat} {w:World} {ao:Option Addr} {n cap:Nat} {p:List Term} (h:Pc K w ao n cap p):Pr w ao n cap (p.map jr):=by
 obtain⟨bM,h1,h2⟩:=h.ex;exact⟨bM,h1,bY.map jr (fun v a _ h=>h.raw) h2⟩
theorem Ob [Ol] (r:Bool) {m k:Bool} {ao bo:Option Addr} {n cap l cb:Nat} {xs ys:List Nat} {w:World} (hs:Sl w ao n cap xs) (ht:Sl w bo l cb ys) (h:decide ((m,xs)=(k,ys))=r):
  Calls Tryz.prog 53 #[.agg #[.bool m,.slice ao n cap],.agg #[.bool k,.slice bo l cb]] w (dI (.bool r) w):=by
 by_cases hmk:m=k
 ·subst hmk;exact yH r hs ht (by rw[<-h];unfold pV;simp)
 ·rw[show decide ((m,xs)=(k,ys))=false from decide_eq_false (fun e=>hmk (congrArg Prod.fst e))]at h;subst h;exact AX hmk
theorem JI [Ol] (r:Bool) {ao bo:Option Addr} {n cap l cb:Nat} {ps qs:List Raw} {w:World} (hp:Pr w ao n cap ps) (hq:Pr w bo l cb qs) (h:decide (ps=qs)=r):
  Calls Tryz.prog 23 #[.slice ao n cap,.slice bo l cb] w (dI (.bool r) w):=by
 obtain⟨bM,hG,hT⟩:=hp.ex;obtain⟨uss,hG2,XY⟩:=hq.ex;have hbig:=hG.big;have hbig2:=hG2.big;have F5:=hid hp.len;have Qg:=hid hq.len;have XZ:=hid hG;have X7:=hid hT;have HGQ:=hid hG2;have HTQ:=hid XY;have HR:=hid h;clear hp hq hG hT hG2 XY h;by_cases hnl:n=l
 ·subst hnl;have hd:((n:Int)==(n:Int))=true:=beq_self_eq_true _;have hd2:((n:Int) !=(n:Int))=false:=by simp
  go_enter Tryz.func23,Tryz.ntmps23;go_wp2;go_loopw [5] (fun i wr=>∃k:Nat,i= .int .i64 k/\ k<=n/\ Hid (ps.take k=qs.take k)/\ Hid (Below w.heap.size w wr)) (fun i _=>n-(intOf i).toNat)
  case atStart=>exact⟨0,rfl,Nat.zero_le _,by simp[Hid],Below.refl _ _⟩
  case round=>
   obtain⟨k,rfl,hk,HE,HB⟩:=hrel;by_cases hkn:k<n
   ·obtain⟨b,off,rfl,_,hcl⟩:=XZ.out.at (by omega);obtain⟨xa,xn,xc,xp,xq,xr,hv,tz,vC⟩:=bY.get jW X7.out k (by rw[F5.out];omega);have F6:k<ps.length:=by rw[F5.out];omega
    have Rq:ps.getD k jW=ps[k]:=by simp[List.getD,List.getElem?_eq_getElem F6]
    have hcells:∀V:World,Below w.heap.size w V->(V.cell? ⟨b,off+k*3,none⟩=some (.bool (ps.getD k jW).1.1)/\ V.cell? ⟨b,off+k*3+1,none⟩=some (.slice xa xn xc)/\ V.cell? ⟨b,off+k*3+2,none⟩=some (.slice xp xq xr)):=by
     intro V hV;have h0:=hcl V hV k (by omega) 0 (by omega);have h1:=hcl V hV k (by omega) 1 (by omega);have h2:=hcl V hV k (by omega) 2 (by omega);rw[hv]at h0 h1 h2;exact⟨h0,h1,h2⟩
    rw[Rq]at tz vC;obtain⟨xm,hxm⟩:∃xm,xm=(ps.getD k jW).1.1:=⟨_,rfl⟩;rw[<-hxm]at hcells;rw[Rq]at hxm;have Ag:=hid hcells;have UZ:=hid tz;have V9:=hid vC;have HNP:=hid hxm;clear hcl hv hcells tz vC Rq hxm;obtain⟨d,F7,rfl,_,hcl⟩:=HGQ.out.at (by omega);obtain⟨ya,yn,yc,yp,yq,yr,hv,tz,vC⟩:=bY.get jW HTQ.out k (by rw[Qg.out];omega);have TF:k<qs.length:=by rw[Qg.out];omega
    have Wd:qs.getD k jW=qs[k]:=by simp[List.getD,List.getElem?_eq_getElem TF]
    have hcells:∀V:World,Below w.heap.size w V->(V.cell? ⟨d,F7+k*3,none⟩=some (.bool (qs.getD k jW).1.1)/\ V.cell? ⟨d,F7+k*3+1,none⟩=some (.slice ya yn yc)/\ V.cell? ⟨d,F7+k*3+2,none⟩=some (.slice yp yq yr)):=by
     intro V hV;have h0:=hcl V hV k (by omega) 0 (by omega);have h1:=hcl V hV k (by omega) 1 (by omega);have h2:=hcl V hV k (by omega) 2 (by omega);rw[hv]at h0 h1 h2;exact⟨h0,h1,h2⟩
    rw[Wd]at tz vC;obtain⟨ym,hym⟩:∃ym,ym=(qs.getD k jW).1.1:=⟨_,rfl⟩;rw[<-hym]at hcells;rw[Wd]at hym;have Qh:=hid hcells;have HSQ:=hid tz;have HMQ:=hid vC;have HNQ:=hid hym;clear hcl hv hcells tz vC Wd hym;have HSM:Hid (∀V:World,Below w.heap.size w V->Calls Tryz.prog 53 #[.agg #[.bool xm,.slice xa xn xc],.agg #[.bool ym,.slice ya yn yc]] V (dI (.bool (decide ((ps[k]).1=(qs[k]).1))) V)):=fun V hV=>by rw[HNP.out,HNQ.out];exact Ob _ (UZ.out.below hV) (HSQ.out.below hV) rfl
    have MZ:Hid (∀V:World,Below w.heap.size w V->Calls Tryz.prog 67 #[.slice xp xq xr,.slice yp yq yr] V (dI (.bool (decide ((ps[k]).2=(qs[k]).2))) V)):=fun V hV=>KQ _ (V9.out.below hV) (HMQ.out.below hV) rfl
    obtain⟨A,hA⟩:∃A,A=decide ((ps[k]).1=(qs[k]).1):=⟨_,rfl⟩;obtain⟨C,hC⟩:∃C,C=decide ((ps[k]).2=(qs[k]).2):=⟨_,rfl⟩;rw[<-hA]at HSM;rw[<-hC]at MZ;have HA:=hid hA;have HC:=hid hC;clear hA hC;go_upto_region 6 with(fail)
    refine wp_region_held_drew (S:=fun w'=>(w'.cell? ⟨b,off+k*3,none⟩=some (.bool xm)/\ w'.cell? ⟨b,off+k*3+1,none⟩=some (.slice xa xn xc)/\ w'.cell? ⟨b,off+k*3+2,none⟩=some (.slice xp xq xr))/\ (w'.cell? ⟨d,F7+k*3,none⟩=some (.bool ym)/\ w'.cell? ⟨d,F7+k*3+1,none⟩=some (.slice ya yn yc)/\ w'.cell? ⟨d,F7+k*3+2,none⟩=some (.slice yp yq yr))) (by kernel_rfl) ⟨Ag.out _ HB.out.drew,Qh.out _ HB.out.drew⟩ (fun hH=>?_);refine ai (fun w4 hW=>?_);have oJ:Hid (Below w.heap.size w w4):=by rw[hW];exact HB.out.drew
    rw[<-hW]at hH;clear hW HB;refine bC 0 hH ?_;try simp only[aI]
    refine bC 1 hH ?_;try simp only[aI]
    refine bC 2 hH ?_;try simp only[aI]
    refine bC 3 hH ?_;try simp only[aI]
    refine bC 4 hH ?_;try simp only[aI]
    refine bC 5 hH ?_;try simp only[aI]
    refine bC 6 hH ?_;try simp only[aI]
    refine bC 7 hH ?_;try simp only[aI]
    refine bC 8 hH ?_;try simp only[aI]
    refine bC 9 hH ?_;try simp only[aI]
    refine ah 10 rfl (by kernel_rfl) (fun KK hK=>?_);go_simp;refine(HSM.out _ oJ.out).mono ?_;rintro e w5 ⟨rfl,hB⟩;have pJ:=hid (Below.steps oJ.out hB);clear hB oJ;go_wp2_with fail;clear hH;refine hK.out _ _ ⟨Ag.out _ pJ.out,Qh.out _ pJ.out⟩ fun hH=>?_;clear hK KK
    try simp only[aI]
    cases A with
    |true=>
     refine bC 11 hH ?_;try simp only[aI]
     refine bC 12 hH ?_;try simp only[aI]
     refine bC 13 hH ?_;try simp only[aI]
     refine bC 14 hH ?_;try simp only[aI]
     refine bC 15 hH ?_;try simp only[aI]
     refine bC 16 hH ?_;try simp only[aI]
     refine bC 17 hH ?_;try simp only[aI]
     refine bC 18 hH ?_;try simp only[aI]
     refine bC 19 hH ?_;try simp only[aI]
     refine bC 20 hH ?_;try simp only[aI]
     refine bC 21 hH ?_;try simp only[aI]
     refine bC 22 hH ?_;try simp only[aI]
     refine ah 23 rfl (by kernel_rfl) (fun KK hK=>?_);go_simp;refine(MZ.out _ pJ.out).mono ?_;rintro e w6 ⟨rfl,hB⟩;have x9:=hid (Below.steps pJ.out hB);clear hB pJ;go_wp2_with fail;clear hH;refine hK.out _ _ ⟨Ag.out _ x9.out,Qh.out _ x9.out⟩ fun hH=>?_;clear hK KK
     try simp only[aI]
     refine bC 24 hH ?_;try simp only[aI]
     refine bC 25 hH ?_;try simp only[aI]
     refine wpAnyH_done (by kernel_rfl) ?_ _
     cases C with
     |true=>
      have HE2:Hid (ps.take (k+1)=qs.take (k+1)):=by
       rw[Hid,List.take_succ_eq_append_getElem F6,List.take_succ_eq_append_getElem TF,HE.out,Prod.ext (of_decide_eq_true HA.out.symm) (of_decide_eq_true HC.out.symm)]
      go_wp2_with fail;go_roundw
      case rel=>exact⟨k+1,by go_num,by omega,HE2,x9⟩
      case measure=>simp[intOf];omega
     |false=>
      have HR2:Hid (r=false):=by
       rw[Hid,<-HR.out];exact decide_eq_false fun e=>of_decide_eq_false HC.out.symm (by subst e;rfl)
      go_wp2_with fail;go_ret;have hr:=HR2.out;subst hr;exact⟨rfl,x9.out⟩
    |false=>
     have HR2:Hid (r=false):=by
      rw[Hid,<-HR.out];exact decide_eq_false fun e=>of_decide_eq_false HA.out.symm (by subst e;rfl)
     refine bC 11 hH ?_;try simp only[aI]
     refine bC 12 hH ?_;try simp only[aI]
     refine Bp 13 hH ?_;try simp only[aI]
     refine Bp 14 hH ?_;try simp only[aI]
     refine Bp 15 hH ?_;try simp only[aI]
     refine Bp 16 hH ?_;try simp only[aI]
     refine Bp 17 hH ?_;try simp only[aI]
     refine Bp 18 hH ?_;try simp only[aI]
     refine Bp 19 hH ?_;try simp only[aI]
     refine Bp 20 hH ?_;try simp only[aI]
     refine Bp 21 hH ?_;try simp only[aI]
     refine Bp 22 hH ?_;try simp only[aI]
     refine Bp 23 hH ?_;try simp only[aI]
     refine Bp 24 hH ?_;try simp only[aI]
     refine bC 25 hH ?_;try simp only[aI]
     refine wpAnyH_done (by kernel_rfl) ?_ _
     go_wp2_with fail;go_ret;have hr:=HR2.out;subst hr;exact⟨rfl,pJ.out⟩
   ·obtain rfl:k=n:=by omega
    have HR2:Hid (r=true):=by
     rw[Hid,<-HR.out];have h:=HE.out;rw[List.take_of_length_le (by rw[F5.out];exact Nat.le_refl _),List.take_of_length_le (by rw[Qg.out];exact Nat.le_refl _)]at h;exact decide_eq_true h
    go_wp2_with fail;go_ret;have hr:=HR2.out;subst hr;exact⟨rfl,HB.out⟩
 ·have HR2:Hid (r=false):=by
   rw[Hid,<-HR.out];exact decide_eq_false fun e=>hnl (by rw[<-F5.out,<-Qg.out,e])
  have hd:((n:Int)==(l:Int))=false:=by simpa using(by omega:¬(n:Int)=l)
  have hd2:((n:Int) !=(l:Int))=true:=by simpa using(by omega:¬(n:Int)=l)
  go_enter Tryz.func23,Tryz.ntmps23;go_wp2_with fail;go_ret;have hr:=HR2.out;subst hr;exact⟨rfl,Below.refl _ _⟩
end Go.Proofs.YtmenbpmciblnlaaGreatDoor

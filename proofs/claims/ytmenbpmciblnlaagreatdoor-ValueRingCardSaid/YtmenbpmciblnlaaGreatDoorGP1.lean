import Derived.Test.YtmenbpmciblnlaaGreatDoorGl
import Derived.Test.YtmenbpmciblnlaaGreatDoorEn
import Derived.Test.YtmenbpmciblnlaaGreatDoorGPp
import Derived.Test.YtmenbpmciblnlaaGreatDoorGWZ2
import Derived.Test.YtmenbpmciblnlaaGreatDoorGM3
set_option maxHeartbeats 0
set_option maxRecDepth 100000
open Go renaming Value->ah6,World->ah5
open Go.RowKit renaming Below->ah7
open Go.RowKit.Below renaming heap_setCell->ah8,mono->ai0,refl->ah9
open Go.Value renaming bool->ai4,cells->ai3,oneCell'->ai2,slice->ai1
open List renaming append_assoc->aj3,drop_eq_getElem_cons->aj0,drop_eq_nil_of_le->aj4,getD->ai6,getElem?_cons_succ->aj2,getElem?_cons_zero->aj1,getElem?_eq_getElem->ai7,getElem_mem->ai8,length_append->aj8,length_cons->aj5,length_take->aj6,map_append->aj9,mem_append->ai5,mem_singleton->ak0,take_of_length_le->aj7,take_succ_eq_append_getElem->ai9
open Nat renaming add_mul->ak5,le_add_right->ak4,le_refl->ak2,le_succ->ak3,min_eq_left->ak6,one_mul->ak7,zero_le->ak1
open Option.some renaming inj->ak8
namespace Go.Proofs.YtmenbpmciblnlaaGreatDoor
open Go.RowKit
def bV {α:Type} (R:List ah6->α->Prop):List (List ah6)->List α->Prop
 |[],[]=>True
 |v::vs,a::l=>R v a/\ bV R vs l
 | _,_=>False
theorem bV.len {α:Type} {R:List ah6->α->Prop}:∀{vs:List (List ah6)} {l:List α},bV R vs l->vs.length=l.length
 |[],[],_=>rfl
 | _::_,_::_,h=>by simp[bV.len h.2]
 |[],_::_,h=>h.elim
 | _::_,[],h=>h.elim
theorem bV.imp {α:Type} {R S:List ah6->α->Prop} (hRS:∀v a,R v a->S v a):∀{vs:List (List ah6)} {l:List α},bV R vs l->bV S vs l
 |[],[],_=>trivial
 | _::_,_::_,h=>⟨hRS _ _ h.1,bV.imp hRS h.2⟩
 |[],_::_,h=>h.elim
 | _::_,[],h=>h.elim
theorem bV.get {α:Type} {R:List ah6->α->Prop} (d:α):∀{vs:List (List ah6)} {l:List α},bV R vs l->∀t,t<l.length->R (vs.getD t []) (l.getD t d)
 | _::_,_::_,h,0,_=>h.1
 | _::_,_::_,h,t+1,ht=>by
  have:=bV.get d h.2 t (by simpa using ht);simpa using this
 |[],[],_,_,ht=>by simp at ht
 |[],_::_,h,_,_=>h.elim
 | _::_,[],h,_,_=>h.elim
theorem bV.append {α:Type} {R:List ah6->α->Prop}:∀{vs us:List (List ah6)} {l k:List α},bV R vs l->bV R us k->bV R (vs++us) (l++k)
 |[],_,[],_,_,hk=>hk
 | _::_,_,_::_,_,h,hk=>⟨h.1,bV.append h.2 hk⟩
 |[],_,_::_,_,h,_=>h.elim
 | _::_,_,[],_,h,_=>h.elim
theorem bV.take {α:Type} {R:List ah6->α->Prop}:∀{vs:List (List ah6)} {l:List α},bV R vs l->∀k,bV R (vs.take k) (l.take k)
 |[],[],_,k=>by simp[bV]
 | _::_,_::_,_,0=>by simp[bV]
 | _::_,_::_,h,k+1=>⟨h.1,bV.take h.2 k⟩
 |[],_::_,h,_=>h.elim
 | _::_,[],h,_=>h.elim
theorem bV.drop {α:Type} {R:List ah6->α->Prop}:∀{vs:List (List ah6)} {l:List α},bV R vs l->∀k,bV R (vs.drop k) (l.drop k)
 |[],[],_,k=>by simp[bV]
 | _::_,_::_,h,0=>h
 | _::_,_::_,h,k+1=>bV.drop h.2 k
 |[],_::_,h,_=>h.elim
 | _::_,[],h,_=>h.elim
theorem eC {α:Type} {R:List ah6->α->Prop} (hR:∀v a,R v a->∀u∈v,bB u=true):∀{vs:List (List ah6)} {l:List α},bV R vs l->∀u∈vs.flatten,bB u=true
 |[],[],_,u,hu=>by simp at hu
 |v::vs,a::l,h,u,hu=>by
  rw[List.flatten_cons]at hu;rcases ai5.1 hu with hu|hu
  ·exact hR v a h.1 u hu
  ·exact eC hR h.2 u hu
 |[],_::_,h,_,_=>h.elim
 | _::_,[],h,_,_=>h.elim
def Cj [Ol] (K:Nat) (w:ah5) (vs:List ah6) (t:ai):Prop:=
 ∃m ao n ae bo k cb,vs=[ai4 m,ai1 ao n ae,ai1 bo k cb]/\ Zd w m ao n ae t.1/\ Bd t.1 K/\ Ml w bo k cb t.2
theorem Cj.below [Ol] {K:Nat} {w w':ah5} {vs:List ah6} {t:ai} (h:Cj K w vs t) (hb:ah7 w.heap.size w w'):Cj K w' vs t:=by
 obtain⟨m,ao,n,ae,bo,k,cb,h1,h2,h3,h4⟩:=h;exact⟨m,ao,n,ae,bo,k,cb,h1,h2.below hb,h3,h4.below hb⟩
theorem Cj.mono [Ol] {K L:Nat} {w:ah5} {vs:List ah6} {t:ai} (h:Cj K w vs t) (hk:K<=L):Cj L w vs t:=by
 obtain⟨m,ao,n,ae,bo,k,cb,h1,h2,h3,h4⟩:=h;exact⟨m,ao,n,ae,bo,k,cb,h1,h2,h3.mono hk,h4⟩
theorem Ml.eZ [Ol] {B:Nat} {e:TypeId} {sz:Nat} {w w':ah5} {ao:Z'} {n ae:Nat} {bF:List (List ah6)} {bo:Z'} {k cb:Nat} {ps:List (Int×Int)} (h:Ml w bo k cb ps) (hO:gM B e sz w ao n ae bF) (hG:w.grownBy w' (ai1 ao n ae).ownBlock):Ml w' bo k cb ps:=
 ⟨h.len,h.le,h.big,h.wf,h.nil,λad had t ht=>⟨hO.eZ hG (h.cells ad had t ht).1,hO.eZ hG (h.cells ad had t ht).2⟩,λh0 ad had=>by
  obtain⟨x,hx⟩:=h.int h0 had;exact(h.kp h0 ad had).grown (h.Hh h0 had) hG λeq=>(hO.vk _ eq.symm).dy hx rfl⟩
theorem Zd.eZ [Ol] {B:Nat} {e:TypeId} {sz:Nat} {w w':ah5} {ao:Z'} {n ae:Nat} {bF:List (List ah6)} {m:Bool} {bo:Z'} {k cb:Nat} {z:Int} (h:Zd w m bo k cb z) (hO:gM B e sz w ao n ae bF) (hG:w.grownBy w' (ai1 ao n ae).ownBlock):Zd w' m bo k cb z:=
 ⟨h.neg,h.sl.len,h.sl.le,h.sl.big,h.sl.wf,h.sl.nil,(λad had t ht=>hO.eZ hG (h.sl.cells ad had t ht)),λh0 ad had=>by
  obtain⟨x,hx⟩:=h.sl.int h0 had;exact(h.sl.kp h0 ad had).grown (h.sl.Hh h0 had) hG λeq=>(hO.vk _ eq.symm).dy hx rfl⟩
theorem Cj.eZ [Ol] {B:Nat} {e:TypeId} {sz:Nat} {w w':ah5} {ao:Z'} {n ae:Nat} {bF:List (List ah6)} {K:Nat} {vs:List ah6} {t:ai} (h:Cj K w vs t) (hO:gM B e sz w ao n ae bF) (hG:w.grownBy w' (ai1 ao n ae).ownBlock):Cj K w' vs t:=by
 obtain⟨m,ao,n,ae,bo,k,cb,h1,h2,h3,h4⟩:=h;exact⟨m,ao,n,ae,bo,k,cb,h1,h2.eZ hO hG,h3,h4.eZ hO hG⟩
theorem fD [Ol] {K:Nat} {w:ah5} {vs:List ah6} {t:ai} (h:Cj K w vs t):∀u∈vs,bB u=true:=by
 obtain⟨m,ao,n,ae,bo,k,cb,rfl,_⟩:=h;intro u hu;simp at hu;rcases hu with rfl|rfl|rfl<;>rfl
structure Pz [Ol] (K:Nat) (w:ah5) (ao:Option Addr) (n ae:Nat) (p:List ai):Prop where
 ex:∃bF,Gl 3 w ao n ae bF/\ bV (Cj K w) bF p
theorem Pz.len [Ol] {K:Nat} {w:ah5} {ao:Z'} {n ae:Nat} {p:List ai} (h:Pz K w ao n ae p):p.length=n:=by
 obtain⟨bF,h1,h2⟩:=h.ex;rw[<-h2.len,h1.len]
theorem Pz.below [Ol] {K:Nat} {w w':ah5} {ao:Z'} {n ae:Nat} {p:List ai} (h:Pz K w ao n ae p) (hb:ah7 w.heap.size w w'):Pz K w' ao n ae p:=by
 obtain⟨bF,h1,h2⟩:=h.ex;exact⟨bF,h1.below hb,h2.imp λv a h=>h.below hb⟩
theorem Pz.mono [Ol] {K L:Nat} {w:ah5} {ao:Z'} {n ae:Nat} {p:List ai} (h:Pz K w ao n ae p) (hk:K<=L):Pz L w ao n ae p:=by
 obtain⟨bF,h1,h2⟩:=h.ex;exact⟨bF,h1,h2.imp λv a h=>h.mono hk⟩
theorem Pz.zero [Ol] (K:Nat) (w:ah5):Pz K w none 0 0 []:=⟨[],Gl.zero 3 w,trivial⟩
def rS [Ol] (K:Nat) (w:ah5) (p:List ai) (e:Ending) (w':ah5):Prop:=∃ao n ae,e= .returned (ai1 ao n ae)/\ Pz K w' ao n ae p/\ ah7 w.heap.size w w'
theorem Tryz.Mg:(Tryz.prog.info? 87).map (λi=>(i.zero,i.size,i.bytes))=some (some (.agg #[ai4 false,ai1 none 0 0,ai1 none 0 0]),3,56):=by kernel_rfl
theorem nr (c:Int) (m:List (Int×Int)):∀(p:List ai) (k:Nat),k<=p.length->(∀t,t<k->0<iq (p.getD t (0,[])).2 m)->
  eR p c m=p.take k++eR (p.drop k) c m
 | _,0,_,_=>by simp
 |t::r,k+1,hk,h=>by
  have h0:0<iq t.2 m:=by simpa using h 0 (by omega)
  have ih:=nr c m r k (by simpa using hk) (λj hj=>by simpa using h (j+1) (by omega));rw[List.take_succ_cons,List.drop_succ_cons,List.cons_append,<-ih]
  conv=>lhs;unfold eR
  rw[if_pos h0]
 |[],k+1,hk,_=>by simp at hk
open Lib (hid)
theorem Qk [Ol] {w:ah5} {b:Nat} {vs:List ah6} {T:TypeId} {m:Bool} {ao:Z'} {n ae:Nat} {z:Int} (hb:aS w b vs T) (h:Zd w m ao n ae z) (u v:ah6) (hv:∀x∈vs,bB x=true):Zd ((w.setCell ⟨b,0,none⟩ u).setCell ⟨b,1,none⟩ v) m ao n ae z:=by
 have hcl:dV w b:=λcur T fr hh=>by
  unfold aS at hb;rw[hb]at hh;cases hh;exact hv
 refine⟨h.neg,h.sl.len,h.sl.le,h.sl.big,h.sl.wf,h.sl.nil,λad had t ht=>?_,λh0 ad had=>?_⟩
 rotate_left
 ·obtain⟨x,hx⟩:=h.sl.int h0 had;have hne:=hcl.dy hx;exact(h.sl.kp h0 ad had).ct ((ah8 _ _ _ _ hne).trans (ah8 _ _ _ _ hne))
 have hc:=h.sl.cells ad had t ht;have hne:=hcl.dy hc;exact(World.cell?_of_block ((ah8 _ _ _ _ hne).trans (ah8 _ _ _ _ hne))).trans hc
theorem AJ [Ol] {K:Nat} {ao zo mo:Z'} {n ae zn zc mn mc:Nat} {mz:Bool} {p:List ai} {c:Int} {m:List (Int×Int)} {w:ah5} (hp:Pz K w ao n ae p) (hz:Zd w mz zo zn zc c) (hbz:Bd c K) (hm:Ml w mo mn mc m)
  (hf:bD p) (hmm:aQ 0 m=true) (hn:n<=2000000) (hK:K<=9000):
  Calls Tryz.prog 46 #[ai1 ao n ae,.agg #[ai4 mz,ai1 zo zn zc],ai1 mo mn mc] w (rS (K+1) w (eR p c m)):=by
 obtain⟨i0,hi,hz0,hz1,hz2⟩:=info_parts Tryz.Mg;obtain⟨bF,hG,hT⟩:=hp.ex;have hle:=hG.le;have hbig:=hG.big;have hpl:=hp.len;have HG:=hid hG;have HT:=hid hT;have HZ:=hid hz;have Yc:=hid hbz;have HM:=hid hm;have HF:=hid hf;have Mh:=hid hmm;have rK:=hid hpl;clear hp hz hbz hm hf hmm hG hT hpl;go_enter Tryz.func46,Tryz.ntmps46;go_upto_region 1 with(fail)
 refine aj (λW hW=>?_);have HB:Hid (ah7 w.heap.size w W):=by rw[hW];exact af _ _
 have HX:Hid (aS W w.heap.size [ai4 mz,ai1 zo zn zc] 45):=by rw[hW];exact aS.cS w [ai4 mz,ai1 zo zn zc] _
 clear hW;go_wp2;go_loopw [7,8] (λo i wr=>∃(k cp:Nat) (oo:Option Addr),i= .int .i64 k/\ o=ai1 oo k cp/\ k<=n/\ Hid (∀t,t<k->0<iq (p.getD t (0,[])).2 m)/\ Hid (gM w.heap.size 87 3 wr oo k cp (bF.take k)/\ aS wr w.heap.size [ai4 mz,ai1 zo zn zc] 45/\ ah7 w.heap.size w wr)) (λ_ i _=>n-(intOf i).toNat)
 case atStart=>exact⟨0,0,none,rfl,rfl,ak1 _,λt ht=>by omega,gM.nil _ _ _ _,HX.o,HB.o⟩
 case round=>
  clear HX HB;obtain⟨k,cp,oo,rfl,rfl,hk,HC,HS⟩:=hrel;by_cases hkn:k<n
  ·obtain⟨b,off,rfl,hb,hcl⟩:=HG.o.at (by omega);obtain⟨tm,ta,tn,tc,ba,bn,bc,hv,tz,tb,qE⟩:=bV.get (0,[]) HT.o k (by rw[rK.o];exact hkn);have hmay:aQ 0 (p.getD k (0,[])).2=true:=cC HF.o _ (by simp only[ai6,ai7 (show k<p.length by rw[rK.o];exact hkn),Option.getD_some];exact ai8 _)
   have hcells:∀V:ah5,ah7 w.heap.size w V->V.cell? ⟨b,off+k*3,none⟩=some (ai4 tm)/\ V.cell? ⟨b,off+k*3+1,none⟩=some (ai1 ta tn tc)/\ V.cell? ⟨b,off+k*3+2,none⟩=some (ai1 ba bn bc):=by
    intro V hV;have h0:=hcl V hV k hkn 0 (by omega);have h1:=hcl V hV k hkn 1 (by omega);have h2:=hcl V hV k hkn 2 (by omega);rw[hv]at h0 h1 h2;exact⟨h0,h1,h2⟩
   have HV:Hid (bF.getD k []=[ai4 tm,ai1 ta tn tc,ai1 ba bn bc]):=hv;have sY:=hid hcells;have Ql:=hid tz;have Mi:=hid tb;have Mj:=hid qE;have Qm:=hid hmay;clear hcl hv hcells tz tb qE hmay;obtain⟨z,hz⟩:∃z,z=iq (p.getD k (0,[])).2 m:=⟨_,rfl⟩;have HZC:Hid (oC z (qF (p.getD k (0,[])).2) (qF m)):=by rw[hz,rT Qm.o,rT Mh.o];exact nt Qm.o Mh.o
   have SZ:=hid hz;clear hz;obtain⟨c0,c1,c2⟩:=sY.o _ HS.o.2.2;go_wp2_with fail;refine(rU (Mj.o.below HS.o.2.2) (HM.o.below HS.o.2.2) z HZC.o).mono ?_;rintro e w2 ⟨rfl,hB⟩;have HS2:Hid (gM w.heap.size 87 3 w2 oo k cp (bF.take k)/\ aS w2 w.heap.size [ai4 mz,ai1 zo zn zc] 45/\ ah7 w.heap.size w w2):=⟨HS.o.1.below hB,HS.o.2.1.below hB,Below.ar HS.o.2.2 hB⟩;clear hB HS c0 c1 c2;by_cases g:0<z
   ·have g1:decide (0<z)=true:=decide_eq_true g;have HGZ:=hid g;clear g;obtain⟨c0,c1,c2⟩:=sY.o _ HS2.o.2.2;have hk2:k+1<=2000001:=by omega
    go_wp2_with (at_builtin;refine dz w2 w rfl (.tmp 23) (.tmp 28) 39 rfl w.heap.size 87 3 56 i0 (.agg #[ai4 false,ai1 none 0 0,ai1 none 0 0]) Tryz.underlying39 hi hz0 hz1 hz2 rfl (by omega) oo k cp (bF.take k) rfl HS2.o.1 [ai4 tm,ai1 ta tn tc,ai1 ba bn bc] rfl (by simp[ai2]) (by simp[ai3,bB]) (by simp[bB]) _ rfl HS2.o.2.2 HS2.o.2.2.size (by omega) (by omega) ?_;intro o2 cp2 w3 hO hB3 hG3;have HO:=hid hO;have HB3:=hid hB3;have Fb:=hid ((HS2.o.2.1.below (af w2 _)).grown (HS2.o.1.below (af w2 _)) (by decide) hG3);clear hO hB3 hG3 c0 c1 c2);go_roundw
    case rel=>
     refine⟨k+1,cp2,o2,by go_num,rfl,by omega,λt ht=>?_,?_,Fb.o,HB3.o⟩
     ·by_cases h:t<k
      ·exact HC.o t h
      ·obtain rfl:t=k:=by omega
       rw[<-SZ.o];exact HGZ.o
     ·have e:bF.take (k+1)=bF.take k++[[ai4 tm,ai1 ta tn tc,ai1 ba bn bc]]:=by
       rw[ai9 (by rw[HG.o.len];exact hkn)]
       congr 2
       rw[<-HV.o];simp[ai6,ai7 (show k<bF.length by rw[HG.o.len];exact hkn)]
      rw[e];exact HO.o
    case measure=>simp[intOf];omega
   ·have g1:decide (0<z)=false:=decide_eq_false g;have Ta:=hid g;clear g;obtain⟨c0,c1,c2⟩:=sY.o _ HS2.o.2.2;go_wp2_with fail;refine(rU (Mj.o.below HS2.o.2.2) (HM.o.below HS2.o.2.2) z HZC.o).mono ?_;rintro e w3 ⟨rfl,hB⟩;have uS:Hid (gM w.heap.size 87 3 w3 oo k cp (bF.take k)/\ aS w3 w.heap.size [ai4 mz,ai1 zo zn zc] 45/\ ah7 w.heap.size w w3):=⟨HS2.o.1.below hB,HS2.o.2.1.below hB,Below.ar HS2.o.2.2 hB⟩;clear hB HS2 c0 c1 c2;obtain⟨c0,c1,c2⟩:=sY.o _ uS.o.2.2;by_cases gz:z=0
    ·have HZ0:=hid gz;have g2:(z==0)=true:=by simpa using gz
     clear gz
     have HR:Hid (eR p c m=p.take k++((if c+(p.getD k (0,[])).1=0 then[]else[(c+(p.getD k (0,[])).1,m)])++p.drop (k+1))):=by
      have hl:k<p.length:=by rw[rK.o];exact hkn
      rw[Hid,nr c m p k (by omega) HC.o,aj0 hl];have e:p.getD k (0,[])=p[k]:=by simp[ai6,ai7 hl]
      have h1:=SZ.o;rw[e]at h1 ⊢;simp only[eR];rw[if_neg (by rw[<-h1];have:=Ta.o;omega),if_pos (by rw[<-h1];exact HZ0.o)];by_cases hc:c+(p[k]).1=0
      ·rw[if_pos hc,if_pos hc];rfl
      ·rw[if_neg hc,if_neg hc];rfl
     clear HC c0 c1 c2;go_upto_region 7 with(fail)
     have hcc:∀V:ah5,ah7 w.heap.size w V->V.cell? ⟨b,off+k*3,none⟩=some (ai4 tm)/\ V.cell? ⟨b,off+k*3+1,none⟩=some (ai1 ta tn tc):=λV hV=>⟨(sY.o V hV).1,(sY.o V hV).2.1⟩
     have Tb:=hid hcc;clear hcc;refine wp_region_held_drew (S:=λw'=>w'.cell? ⟨b,off+k*3,none⟩=some (ai4 tm)/\ w'.cell? ⟨b,off+k*3+1,none⟩=some (ai1 ta tn tc)) (by kernel_rfl) (Tb.o _ uS.o.2.2.drew) (λhH=>?_);refine ah (λw4 hW=>?_);have jR:Hid (gM w.heap.size 87 3 w4 oo k cp (bF.take k)/\ aS w4 w.heap.size [ai4 mz,ai1 zo zn zc] 45/\ ah7 w.heap.size w w4):=by rw[hW];exact⟨uS.o.1.below (ah9 _ _).drew,uS.o.2.1.below (ah9 _ _).drew,uS.o.2.2.drew⟩
     rw[<-hW]at hH;clear hW uS;refine aT 1 hH ?_;try simp only[ax]
     refine aT 2 hH ?_;try simp only[ax]
     refine aT 3 hH ?_;try simp only[ax]
     refine aT 4 hH ?_;try simp only[ax]
     refine aT 5 hH ?_;try simp only[ax]
     refine ag 0 rfl (by kernel_rfl) (λKK hK=>?_);have x0:=jR.o.2.1.cell 0;have x1:=jR.o.2.1.cell 1;simp only[aj1,aj2]at x0 x1;go_simp;clear x0 x1;clear hH;refine hK.o _ _ (Tb.o _ jR.o.2.2) λhH=>?_;clear hK KK
     try simp only[ax]
     refine ag 6 rfl (by kernel_rfl) (λKK hK=>?_);go_simp;refine(Mk ((HZ.o.below jR.o.2.2).zx Yc.o (by omega)) ((Ql.o.below jR.o.2.2).zx Mi.o (by omega))).mono ?_;rintro e w5 ⟨rm,ra,rn,rc,rfl,hX,hB⟩;have iy:Hid (gM w.heap.size 87 3 w5 oo k cp (bF.take k)/\ aS w5 w.heap.size [ai4 mz,ai1 zo zn zc] 45/\ ah7 w.heap.size w w5):=⟨jR.o.1.below hB,jR.o.2.1.below hB,Below.ar jR.o.2.2 hB⟩;have PK:=hid hX;clear jR hX hB;go_wp2_with fail;clear hH;refine hK.o _ _ (Tb.o _ iy.o.2.2) λhH=>?_;clear hK KK
     try simp only[ax]
     refine ag 7 rfl (by kernel_rfl) (λKK hK=>?_);have x0:=iy.o.2.1.cell 0;have x1:=iy.o.2.1.cell 1;have y0:=iy.o.2.1.fz 0;have y1:=iy.o.2.1.fz 1;simp only[aj1,aj2]at x0 x1;go_simp;clear x0 x1 y0 y1;have mZ:Hid (gM w.heap.size 87 3 _ oo k cp (bF.take k)/\ aS _ w.heap.size [ai4 rm,ai1 ra rn rc] 45/\ ah7 w.heap.size w _):=⟨(iy.o.1.dy iy.o.2.1 (by decide) 0 (ai4 rm)).dy (iy.o.2.1.set 0 (ai4 rm)) (by decide) 1 (ai1 ra rn rc),(iy.o.2.1.set 0 (ai4 rm)).set 1 (ai1 ra rn rc),(iy.o.2.2.setCell (p:=⟨w.heap.size,0,none⟩) (ak2 _) (ai4 rm)).setCell (p:=⟨w.heap.size,1,none⟩) (ak2 _) (ai1 ra rn rc)⟩;have HZ2:=hid (Qk iy.o.2.1 PK.o (ai4 rm) (ai1 ra rn rc) (by simp[bB]));clear iy PK;refine hK.o _ _ (Tb.o _ mZ.o.2.2) (λh2=>?_);clear hK KK hH h2
     try simp only[ax]
     refine ah (λw6 hW=>?_);rw[<-hW]at mZ HZ2;clear hW;refine wpAnyH_done (by kernel_rfl) ?_ _
     have HB2:Hid (Bd (c+(p.getD k (0,[])).1) (K+1)):=Bd.add Yc.o Mi.o (ak2 _);obtain⟨cc,hcc⟩:∃cc,cc=c+(p.getD k (0,[])).1:=⟨_,rfl⟩;rw[<-hcc]at HZ2 HR HB2;have hk1:k+1<=n:=by omega
     clear hcc Tb HZ Yc Mi Ql HZC SZ;by_cases hck:ae=k+1
     ·obtain⟨s,hs⟩:∃s,(cc).sign=s:=⟨_,rfl⟩;have kt:=hid hs;clear hs;have x0:=mZ.o.2.1.cell 0;have x1:=mZ.o.2.1.cell 1;simp only[aj1,aj2]at x0 x1;go_wp2_with fail;refine(mh s (HZ2.o.zx HB2.o (by omega)) kt.o).mono ?_;rintro e w7 ⟨rfl,hB⟩;have dU:Hid (gM w.heap.size 87 3 w7 oo k cp (bF.take k)/\ aS w7 w.heap.size [ai4 rm,ai1 ra rn rc] 45/\ ah7 w.heap.size w w7):=⟨mZ.o.1.below hB,mZ.o.2.1.below hB,Below.ar mZ.o.2.2 hB⟩;have yU:=hid (HZ2.o.below hB);clear hB mZ HZ2 x0 x1;by_cases h0:cc=0
      ·obtain rfl:s=0:=by rw[<-kt.o,h0];rfl
       have HR2:Hid (eR p c m=p.take k++p.drop (k+1)):=HR.o.trans (by rw[if_pos h0];rfl);clear h0 HR kt;go_wp2_with (at_builtin;go_must (refine dh w7 w rfl (.tmp 64) (.tmp 67) 39 rfl w.heap.size 87 3 56 i0 (.agg #[ai4 false,ai1 none 0 0,ai1 none 0 0]) Tryz.underlying39 hi hz0 hz1 hz2 rfl (by omega) oo k cp (bF.take k) rfl dU.o.1 (some ⟨b,off,none⟩) _ _ (bF.drop (k+1)) rfl (((HG.o.AK (k+1) (by omega) hck).below dU.o.2.2).cast (by omega) (by omega)) dU.o.2.2 dU.o.2.2.size (by omega) (by omega) (by simp[ai3,bB]) (eC (λ_ _ h=>fD h) (bV.drop HT.o (k+1))) ?_);intro o8 Mm w8 hO mi _;have vX:=hid hO;have ik:=hid mi;clear hO mi);go_ret;exact⟨_,_,_,rfl,⟨_,vX.o.gl.cast (by omega) rfl,by rw[HR2.o];exact bV.append (bV.take (bV.imp (λv a h=>(h.below ik.o).mono (ak3 K)) HT.o) _) (bV.drop (bV.imp (λv a h=>(h.below ik.o).mono (ak3 K)) HT.o) _)⟩,ik.o⟩
      ·have hs0:(s==0)=false:=by rw[<-kt.o];simpa using h0
       have hs1:(s !=0)=true:=by rw[<-kt.o];simpa using h0
       have HR2:Hid (eR p c m=p.take k++([(cc,m)]++p.drop (k+1))):=HR.o.trans (by rw[if_neg h0]);have x0:=dU.o.2.1.cell 0;have x1:=dU.o.2.1.cell 1;simp only[aj1,aj2]at x0 x1;clear h0 HR kt
       go_wp2_with (first
        |(at_builtin;refine dz w7 w rfl (.tmp 58) (.tmp 62) 39 rfl w.heap.size 87 3 56 i0 (.agg #[ai4 false,ai1 none 0 0,ai1 none 0 0]) Tryz.underlying39 hi hz0 hz1 hz2 rfl (by omega) oo k cp (bF.take k) rfl dU.o.1 [ai4 rm,ai1 ra rn rc,ai1 mo mn mc] rfl (by simp[ai2]) (by simp[ai3,bB]) (by simp[bB]) _ rfl dU.o.2.2 dU.o.2.2.size (by omega) (by omega) ?_;intro o9 Mn w9 hO vY CD;have CE:=hid hO;have lY:=hid vY;have Fc:=hid ((yU.o.below (af w7 _)).eZ (dU.o.1.below (af w7 _)) CD);clear hO vY CD x0 x1)
        |(at_builtin;refine dh w9 w rfl (.tmp 64) (.tmp 67) 39 rfl w.heap.size 87 3 56 i0 (.agg #[ai4 false,ai1 none 0 0,ai1 none 0 0]) Tryz.underlying39 hi hz0 hz1 hz2 rfl (by omega) o9 _ Mn (bF.take k++[[ai4 rm,ai1 ra rn rc,ai1 mo mn mc]]) rfl CE.o (some ⟨b,off,none⟩) _ _ (bF.drop (k+1)) rfl (((HG.o.AK (k+1) (by omega) hck).below lY.o).cast (by omega) (by omega)) lY.o lY.o.size (by omega) (by omega) (by simp[ai3,bB]) (eC (λ_ _ h=>fD h) (bV.drop HT.o (k+1))) ?_;intro o8 Mm w8 hO mi uT;have vX:=hid hO;have ik:=hid mi;have Mq:=hid (Fc.o.eZ CE.o uT);clear hO mi uT))
       go_ret;refine⟨_,_,_,rfl,⟨_,vX.o.gl.cast (by omega) rfl,?_⟩,ik.o⟩;rw[HR2.o,aj3];exact bV.append (bV.take (bV.imp (λv a h=>(h.below ik.o).mono (ak3 K)) HT.o) _) (bV.append ⟨⟨_,_,_,_,_,_,_,rfl,Mq.o,HB2.o,HM.o.below ik.o⟩,trivial⟩ (bV.drop (bV.imp (λv a h=>(h.below ik.o).mono (ak3 K)) HT.o) _))
     ·obtain⟨s,hs⟩:∃s,(cc).sign=s:=⟨_,rfl⟩;have kt:=hid hs;clear hs;have x0:=mZ.o.2.1.cell 0;have x1:=mZ.o.2.1.cell 1;simp only[aj1,aj2]at x0 x1;go_wp2_with fail;refine(mh s (HZ2.o.zx HB2.o (by omega)) kt.o).mono ?_;rintro e w7 ⟨rfl,hB⟩;have dU:Hid (gM w.heap.size 87 3 w7 oo k cp (bF.take k)/\ aS w7 w.heap.size [ai4 rm,ai1 ra rn rc] 45/\ ah7 w.heap.size w w7):=⟨mZ.o.1.below hB,mZ.o.2.1.below hB,Below.ar mZ.o.2.2 hB⟩;have yU:=hid (HZ2.o.below hB);clear hB mZ HZ2 x0 x1;by_cases h0:cc=0
      ·obtain rfl:s=0:=by rw[<-kt.o,h0];rfl
       have HR2:Hid (eR p c m=p.take k++p.drop (k+1)):=HR.o.trans (by rw[if_pos h0];rfl);clear h0 HR kt;go_wp2_with (at_builtin;go_must (refine dh w7 w rfl (.tmp 64) (.tmp 67) 39 rfl w.heap.size 87 3 56 i0 (.agg #[ai4 false,ai1 none 0 0,ai1 none 0 0]) Tryz.underlying39 hi hz0 hz1 hz2 rfl (by omega) oo k cp (bF.take k) rfl dU.o.1 (some ⟨b,off+(k+1)*3,none⟩) _ _ (bF.drop (k+1)) rfl (((HG.o.tA (k+1) (by omega) hck).below dU.o.2.2).cast (by omega) (by omega)) dU.o.2.2 dU.o.2.2.size (by omega) (by omega) (by simp[ai3,bB]) (eC (λ_ _ h=>fD h) (bV.drop HT.o (k+1))) ?_);intro o8 Mm w8 hO mi _;have vX:=hid hO;have ik:=hid mi;clear hO mi);go_ret;exact⟨_,_,_,rfl,⟨_,vX.o.gl.cast (by omega) rfl,by rw[HR2.o];exact bV.append (bV.take (bV.imp (λv a h=>(h.below ik.o).mono (ak3 K)) HT.o) _) (bV.drop (bV.imp (λv a h=>(h.below ik.o).mono (ak3 K)) HT.o) _)⟩,ik.o⟩
      ·have hs0:(s==0)=false:=by rw[<-kt.o];simpa using h0
       have hs1:(s !=0)=true:=by rw[<-kt.o];simpa using h0
       have HR2:Hid (eR p c m=p.take k++([(cc,m)]++p.drop (k+1))):=HR.o.trans (by rw[if_neg h0]);have x0:=dU.o.2.1.cell 0;have x1:=dU.o.2.1.cell 1;simp only[aj1,aj2]at x0 x1;clear h0 HR kt
       go_wp2_with (first
        |(at_builtin;refine dz w7 w rfl (.tmp 58) (.tmp 62) 39 rfl w.heap.size 87 3 56 i0 (.agg #[ai4 false,ai1 none 0 0,ai1 none 0 0]) Tryz.underlying39 hi hz0 hz1 hz2 rfl (by omega) oo k cp (bF.take k) rfl dU.o.1 [ai4 rm,ai1 ra rn rc,ai1 mo mn mc] rfl (by simp[ai2]) (by simp[ai3,bB]) (by simp[bB]) _ rfl dU.o.2.2 dU.o.2.2.size (by omega) (by omega) ?_;intro o9 Mn w9 hO vY CD;have CE:=hid hO;have lY:=hid vY;have Fc:=hid ((yU.o.below (af w7 _)).eZ (dU.o.1.below (af w7 _)) CD);clear hO vY CD x0 x1)
        |(at_builtin;refine dh w9 w rfl (.tmp 64) (.tmp 67) 39 rfl w.heap.size 87 3 56 i0 (.agg #[ai4 false,ai1 none 0 0,ai1 none 0 0]) Tryz.underlying39 hi hz0 hz1 hz2 rfl (by omega) o9 _ Mn (bF.take k++[[ai4 rm,ai1 ra rn rc,ai1 mo mn mc]]) rfl CE.o (some ⟨b,off+(k+1)*3,none⟩) _ _ (bF.drop (k+1)) rfl (((HG.o.tA (k+1) (by omega) hck).below lY.o).cast (by omega) (by omega)) lY.o lY.o.size (by omega) (by omega) (by simp[ai3,bB]) (eC (λ_ _ h=>fD h) (bV.drop HT.o (k+1))) ?_;intro o8 Mm w8 hO mi uT;have vX:=hid hO;have ik:=hid mi;have Mq:=hid (Fc.o.eZ CE.o uT);clear hO mi uT))
       go_ret;refine⟨_,_,_,rfl,⟨_,vX.o.gl.cast (by omega) rfl,?_⟩,ik.o⟩;rw[HR2.o,aj3];exact bV.append (bV.take (bV.imp (λv a h=>(h.below ik.o).mono (ak3 K)) HT.o) _) (bV.append ⟨⟨_,_,_,_,_,_,_,rfl,Mq.o,HB2.o,HM.o.below ik.o⟩,trivial⟩ (bV.drop (bV.imp (λv a h=>(h.below ik.o).mono (ak3 K)) HT.o) _))
    ·have HN0:=hid gz;have g2:(z==0)=false:=by simpa using gz
     clear gz
     have HR:Hid (eR p c m=p.take k++((if c=0 then[]else[(c,m)])++p.drop k)):=by
      have hl:k<p.length:=by rw[rK.o];exact hkn
      rw[Hid,nr c m p k (by omega) HC.o,aj0 hl];have e:p.getD k (0,[])=p[k]:=by simp[ai6,ai7 hl]
      have h1:=SZ.o;rw[e]at h1;simp only[eR];rw[if_neg (by rw[<-h1];have:=Ta.o;omega),if_neg (by rw[<-h1];exact HN0.o)];by_cases hc:c=0
      ·rw[if_pos hc,if_pos hc];rfl
      ·rw[if_neg hc,if_neg hc];rfl
     have mZ:=uS;have HZ2:=hid (HZ.o.below uS.o.2.2);have HB2:=hid (Yc.o.mono (ak3 K));clear HC uS HZ c0 c1 c2;have hck:ae≠k:=by omega
     obtain⟨s,hs⟩:∃s,(c).sign=s:=⟨_,rfl⟩;have kt:=hid hs;clear hs;have x0:=mZ.o.2.1.cell 0;have x1:=mZ.o.2.1.cell 1;simp only[aj1,aj2]at x0 x1;go_wp2_with fail;refine(mh s (HZ2.o.zx HB2.o (by omega)) kt.o).mono ?_;rintro e w7 ⟨rfl,hB⟩;have dU:Hid (gM w.heap.size 87 3 w7 oo k cp (bF.take k)/\ aS w7 w.heap.size [ai4 mz,ai1 zo zn zc] 45/\ ah7 w.heap.size w w7):=⟨mZ.o.1.below hB,mZ.o.2.1.below hB,Below.ar mZ.o.2.2 hB⟩;have yU:=hid (HZ2.o.below hB);clear hB mZ HZ2 x0 x1;by_cases h0:c=0
     ·obtain rfl:s=0:=by rw[<-kt.o,h0];rfl
      have HR2:Hid (eR p c m=p.take k++p.drop k):=HR.o.trans (by rw[if_pos h0];rfl);clear h0 HR kt;go_wp2_with (at_builtin;go_must (refine dh w7 w rfl (.tmp 64) (.tmp 67) 39 rfl w.heap.size 87 3 56 i0 (.agg #[ai4 false,ai1 none 0 0,ai1 none 0 0]) Tryz.underlying39 hi hz0 hz1 hz2 rfl (by omega) oo k cp (bF.take k) rfl dU.o.1 (some ⟨b,off+k*3,none⟩) _ _ (bF.drop k) rfl (((HG.o.tA k (by omega) hck).below dU.o.2.2).cast (by omega) (by omega)) dU.o.2.2 dU.o.2.2.size (by omega) (by omega) (by simp[ai3,bB]) (eC (λ_ _ h=>fD h) (bV.drop HT.o k)) ?_);intro o8 Mm w8 hO mi _;have vX:=hid hO;have ik:=hid mi;clear hO mi);go_ret;exact⟨_,_,_,rfl,⟨_,vX.o.gl.cast (by omega) rfl,by rw[HR2.o];exact bV.append (bV.take (bV.imp (λv a h=>(h.below ik.o).mono (ak3 K)) HT.o) _) (bV.drop (bV.imp (λv a h=>(h.below ik.o).mono (ak3 K)) HT.o) _)⟩,ik.o⟩
     ·have hs0:(s==0)=false:=by rw[<-kt.o];simpa using h0
      have hs1:(s !=0)=true:=by rw[<-kt.o];simpa using h0
      have HR2:Hid (eR p c m=p.take k++([(c,m)]++p.drop k)):=HR.o.trans (by rw[if_neg h0]);have x0:=dU.o.2.1.cell 0;have x1:=dU.o.2.1.cell 1;simp only[aj1,aj2]at x0 x1;clear h0 HR kt
      go_wp2_with (first
       |(at_builtin;refine dz w7 w rfl (.tmp 58) (.tmp 62) 39 rfl w.heap.size 87 3 56 i0 (.agg #[ai4 false,ai1 none 0 0,ai1 none 0 0]) Tryz.underlying39 hi hz0 hz1 hz2 rfl (by omega) oo k cp (bF.take k) rfl dU.o.1 [ai4 mz,ai1 zo zn zc,ai1 mo mn mc] rfl (by simp[ai2]) (by simp[ai3,bB]) (by simp[bB]) _ rfl dU.o.2.2 dU.o.2.2.size (by omega) (by omega) ?_;intro o9 Mn w9 hO vY CD;have CE:=hid hO;have lY:=hid vY;have Fc:=hid ((yU.o.below (af w7 _)).eZ (dU.o.1.below (af w7 _)) CD);clear hO vY CD x0 x1)
       |(at_builtin;refine dh w9 w rfl (.tmp 64) (.tmp 67) 39 rfl w.heap.size 87 3 56 i0 (.agg #[ai4 false,ai1 none 0 0,ai1 none 0 0]) Tryz.underlying39 hi hz0 hz1 hz2 rfl (by omega) o9 _ Mn (bF.take k++[[ai4 mz,ai1 zo zn zc,ai1 mo mn mc]]) rfl CE.o (some ⟨b,off+k*3,none⟩) _ _ (bF.drop k) rfl (((HG.o.tA k (by omega) hck).below lY.o).cast (by omega) (by omega)) lY.o lY.o.size (by omega) (by omega) (by simp[ai3,bB]) (eC (λ_ _ h=>fD h) (bV.drop HT.o k)) ?_;intro o8 Mm w8 hO mi uT;have vX:=hid hO;have ik:=hid mi;have Mq:=hid (Fc.o.eZ CE.o uT);clear hO mi uT))
      go_ret;refine⟨_,_,_,rfl,⟨_,vX.o.gl.cast (by omega) rfl,?_⟩,ik.o⟩;rw[HR2.o,aj3];exact bV.append (bV.take (bV.imp (λv a h=>(h.below ik.o).mono (ak3 K)) HT.o) _) (bV.append ⟨⟨_,_,_,_,_,_,_,rfl,Mq.o,HB2.o,HM.o.below ik.o⟩,trivial⟩ (bV.drop (bV.imp (λv a h=>(h.below ik.o).mono (ak3 K)) HT.o) _))
  ·obtain rfl:k=n:=by omega
   have HR:Hid (eR p c m=p.take k++((if c=0 then[]else[(c,m)])++p.drop k)):=by
    rw[Hid,nr c m p k (by rw[rK.o];exact ak2 _) HC.o,aj4 (by rw[rK.o];exact ak2 _)];simp[eR]
   have mZ:=HS;have HZ2:=hid (HZ.o.below HS.o.2.2);have HB2:=hid (Yc.o.mono (ak3 K));clear HC HS HZ;cases ao with
   |none=>
    obtain rfl:ae=0:=HG.o.nil rfl;obtain rfl:k=0:=by omega
    obtain⟨s,hs⟩:∃s,(c).sign=s:=⟨_,rfl⟩;have kt:=hid hs;clear hs;have x0:=mZ.o.2.1.cell 0;have x1:=mZ.o.2.1.cell 1;simp only[aj1,aj2]at x0 x1;go_wp2_with fail;refine(mh s (HZ2.o.zx HB2.o (by omega)) kt.o).mono ?_;rintro e w7 ⟨rfl,hB⟩;have dU:Hid (gM w.heap.size 87 3 w7 oo 0 cp (bF.take 0)/\ aS w7 w.heap.size [ai4 mz,ai1 zo zn zc] 45/\ ah7 w.heap.size w w7):=⟨mZ.o.1.below hB,mZ.o.2.1.below hB,Below.ar mZ.o.2.2 hB⟩;have yU:=hid (HZ2.o.below hB);clear hB mZ HZ2 x0 x1;by_cases h0:c=0
    ·obtain rfl:s=0:=by rw[<-kt.o,h0];rfl
     have HR2:Hid (eR p c m=p.take 0++p.drop 0):=HR.o.trans (by rw[if_pos h0];rfl);clear h0 HR kt;go_wp2_with (at_builtin;go_must (refine dh w7 w rfl (.tmp 64) (.tmp 67) 39 rfl w.heap.size 87 3 56 i0 (.agg #[ai4 false,ai1 none 0 0,ai1 none 0 0]) Tryz.underlying39 hi hz0 hz1 hz2 rfl (by omega) oo 0 cp (bF.take 0) rfl dU.o.1 none _ _ [] rfl ((Gl.zero 3 _).cast (by omega) (by omega)) dU.o.2.2 dU.o.2.2.size (by omega) (by omega) (by simp[ai3,bB]) (by simp) ?_);intro o8 Mm w8 hO mi _;have vX:=hid hO;have ik:=hid mi;clear hO mi);go_ret;exact⟨_,_,_,rfl,⟨_,vX.o.gl.cast (by omega) rfl,by rw[HR2.o];exact bV.append (bV.take (bV.imp (λv a h=>(h.below ik.o).mono (ak3 K)) HT.o) _) (by simp[aj4,rK.o,bV])⟩,ik.o⟩
    ·have hs0:(s==0)=false:=by rw[<-kt.o];simpa using h0
     have hs1:(s !=0)=true:=by rw[<-kt.o];simpa using h0
     have HR2:Hid (eR p c m=p.take 0++([(c,m)]++p.drop 0)):=HR.o.trans (by rw[if_neg h0]);have x0:=dU.o.2.1.cell 0;have x1:=dU.o.2.1.cell 1;simp only[aj1,aj2]at x0 x1;clear h0 HR kt
     go_wp2_with (first
      |(at_builtin;refine dz w7 w rfl (.tmp 58) (.tmp 62) 39 rfl w.heap.size 87 3 56 i0 (.agg #[ai4 false,ai1 none 0 0,ai1 none 0 0]) Tryz.underlying39 hi hz0 hz1 hz2 rfl (by omega) oo 0 cp (bF.take 0) rfl dU.o.1 [ai4 mz,ai1 zo zn zc,ai1 mo mn mc] rfl (by simp[ai2]) (by simp[ai3,bB]) (by simp[bB]) _ rfl dU.o.2.2 dU.o.2.2.size (by omega) (by omega) ?_;intro o9 Mn w9 hO vY CD;have CE:=hid hO;have lY:=hid vY;have Fc:=hid ((yU.o.below (af w7 _)).eZ (dU.o.1.below (af w7 _)) CD);clear hO vY CD x0 x1)
      |(at_builtin;refine dh w9 w rfl (.tmp 64) (.tmp 67) 39 rfl w.heap.size 87 3 56 i0 (.agg #[ai4 false,ai1 none 0 0,ai1 none 0 0]) Tryz.underlying39 hi hz0 hz1 hz2 rfl (by omega) o9 _ Mn (bF.take 0++[[ai4 mz,ai1 zo zn zc,ai1 mo mn mc]]) rfl CE.o none _ _ [] rfl ((Gl.zero 3 _).cast (by omega) (by omega)) lY.o lY.o.size (by omega) (by omega) (by simp[ai3,bB]) (by simp) ?_;intro o8 Mm w8 hO mi uT;have vX:=hid hO;have ik:=hid mi;have Mq:=hid (Fc.o.eZ CE.o uT);clear hO mi uT))
     go_ret;refine⟨_,_,_,rfl,⟨_,vX.o.gl.cast (by omega) rfl,?_⟩,ik.o⟩;rw[HR2.o,aj3];exact bV.append (bV.take (bV.imp (λv a h=>(h.below ik.o).mono (ak3 K)) HT.o) _) (bV.append ⟨⟨_,_,_,_,_,_,_,rfl,Mq.o,HB2.o,HM.o.below ik.o⟩,trivial⟩ (by simp[aj4,rK.o,bV]))
   |some ad=>
    obtain⟨b,off,sp⟩:=ad;by_cases hck:ae=k
    ·obtain⟨s,hs⟩:∃s,(c).sign=s:=⟨_,rfl⟩;have kt:=hid hs;clear hs;have x0:=mZ.o.2.1.cell 0;have x1:=mZ.o.2.1.cell 1;simp only[aj1,aj2]at x0 x1;go_wp2_with fail;refine(mh s (HZ2.o.zx HB2.o (by omega)) kt.o).mono ?_;rintro e w7 ⟨rfl,hB⟩;have dU:Hid (gM w.heap.size 87 3 w7 oo k cp (bF.take k)/\ aS w7 w.heap.size [ai4 mz,ai1 zo zn zc] 45/\ ah7 w.heap.size w w7):=⟨mZ.o.1.below hB,mZ.o.2.1.below hB,Below.ar mZ.o.2.2 hB⟩;have yU:=hid (HZ2.o.below hB);clear hB mZ HZ2 x0 x1;by_cases h0:c=0
     ·obtain rfl:s=0:=by rw[<-kt.o,h0];rfl
      have HR2:Hid (eR p c m=p.take k++p.drop k):=HR.o.trans (by rw[if_pos h0];rfl);clear h0 HR kt;go_wp2_with (at_builtin;go_must (refine dh w7 w rfl (.tmp 64) (.tmp 67) 39 rfl w.heap.size 87 3 56 i0 (.agg #[ai4 false,ai1 none 0 0,ai1 none 0 0]) Tryz.underlying39 hi hz0 hz1 hz2 rfl (by omega) oo k cp (bF.take k) rfl dU.o.1 (some ⟨b,off,sp⟩) _ _ (bF.drop k) rfl (((HG.o.AK k (by omega) hck).below dU.o.2.2).cast (by omega) (by omega)) dU.o.2.2 dU.o.2.2.size (by omega) (by omega) (by simp[ai3,bB]) (eC (λ_ _ h=>fD h) (bV.drop HT.o k)) ?_);intro o8 Mm w8 hO mi _;have vX:=hid hO;have ik:=hid mi;clear hO mi);go_ret;exact⟨_,_,_,rfl,⟨_,vX.o.gl.cast (by omega) rfl,by rw[HR2.o];exact bV.append (bV.take (bV.imp (λv a h=>(h.below ik.o).mono (ak3 K)) HT.o) _) (bV.drop (bV.imp (λv a h=>(h.below ik.o).mono (ak3 K)) HT.o) _)⟩,ik.o⟩
     ·have hs0:(s==0)=false:=by rw[<-kt.o];simpa using h0
      have hs1:(s !=0)=true:=by rw[<-kt.o];simpa using h0
      have HR2:Hid (eR p c m=p.take k++([(c,m)]++p.drop k)):=HR.o.trans (by rw[if_neg h0]);have x0:=dU.o.2.1.cell 0;have x1:=dU.o.2.1.cell 1;simp only[aj1,aj2]at x0 x1;clear h0 HR kt
      go_wp2_with (first
       |(at_builtin;refine dz w7 w rfl (.tmp 58) (.tmp 62) 39 rfl w.heap.size 87 3 56 i0 (.agg #[ai4 false,ai1 none 0 0,ai1 none 0 0]) Tryz.underlying39 hi hz0 hz1 hz2 rfl (by omega) oo k cp (bF.take k) rfl dU.o.1 [ai4 mz,ai1 zo zn zc,ai1 mo mn mc] rfl (by simp[ai2]) (by simp[ai3,bB]) (by simp[bB]) _ rfl dU.o.2.2 dU.o.2.2.size (by omega) (by omega) ?_;intro o9 Mn w9 hO vY CD;have CE:=hid hO;have lY:=hid vY;have Fc:=hid ((yU.o.below (af w7 _)).eZ (dU.o.1.below (af w7 _)) CD);clear hO vY CD x0 x1)
       |(at_builtin;refine dh w9 w rfl (.tmp 64) (.tmp 67) 39 rfl w.heap.size 87 3 56 i0 (.agg #[ai4 false,ai1 none 0 0,ai1 none 0 0]) Tryz.underlying39 hi hz0 hz1 hz2 rfl (by omega) o9 _ Mn (bF.take k++[[ai4 mz,ai1 zo zn zc,ai1 mo mn mc]]) rfl CE.o (some ⟨b,off,sp⟩) _ _ (bF.drop k) rfl (((HG.o.AK k (by omega) hck).below lY.o).cast (by omega) (by omega)) lY.o lY.o.size (by omega) (by omega) (by simp[ai3,bB]) (eC (λ_ _ h=>fD h) (bV.drop HT.o k)) ?_;intro o8 Mm w8 hO mi uT;have vX:=hid hO;have ik:=hid mi;have Mq:=hid (Fc.o.eZ CE.o uT);clear hO mi uT))
      go_ret;refine⟨_,_,_,rfl,⟨_,vX.o.gl.cast (by omega) rfl,?_⟩,ik.o⟩;rw[HR2.o,aj3];exact bV.append (bV.take (bV.imp (λv a h=>(h.below ik.o).mono (ak3 K)) HT.o) _) (bV.append ⟨⟨_,_,_,_,_,_,_,rfl,Mq.o,HB2.o,HM.o.below ik.o⟩,trivial⟩ (bV.drop (bV.imp (λv a h=>(h.below ik.o).mono (ak3 K)) HT.o) _))
    ·obtain rfl:sp=none:=HG.o.spot _ rfl (by omega);obtain⟨s,hs⟩:∃s,(c).sign=s:=⟨_,rfl⟩;have kt:=hid hs;clear hs;have x0:=mZ.o.2.1.cell 0;have x1:=mZ.o.2.1.cell 1;simp only[aj1,aj2]at x0 x1;go_wp2_with fail;refine(mh s (HZ2.o.zx HB2.o (by omega)) kt.o).mono ?_;rintro e w7 ⟨rfl,hB⟩;have dU:Hid (gM w.heap.size 87 3 w7 oo k cp (bF.take k)/\ aS w7 w.heap.size [ai4 mz,ai1 zo zn zc] 45/\ ah7 w.heap.size w w7):=⟨mZ.o.1.below hB,mZ.o.2.1.below hB,Below.ar mZ.o.2.2 hB⟩;have yU:=hid (HZ2.o.below hB);clear hB mZ HZ2 x0 x1;by_cases h0:c=0
     ·obtain rfl:s=0:=by rw[<-kt.o,h0];rfl
      have HR2:Hid (eR p c m=p.take k++p.drop k):=HR.o.trans (by rw[if_pos h0];rfl);clear h0 HR kt;go_wp2_with (at_builtin;go_must (refine dh w7 w rfl (.tmp 64) (.tmp 67) 39 rfl w.heap.size 87 3 56 i0 (.agg #[ai4 false,ai1 none 0 0,ai1 none 0 0]) Tryz.underlying39 hi hz0 hz1 hz2 rfl (by omega) oo k cp (bF.take k) rfl dU.o.1 (some ⟨b,off+k*3,none⟩) _ _ (bF.drop k) rfl (((HG.o.tA k (by omega) hck).below dU.o.2.2).cast (by omega) (by omega)) dU.o.2.2 dU.o.2.2.size (by omega) (by omega) (by simp[ai3,bB]) (eC (λ_ _ h=>fD h) (bV.drop HT.o k)) ?_);intro o8 Mm w8 hO mi _;have vX:=hid hO;have ik:=hid mi;clear hO mi);go_ret;exact⟨_,_,_,rfl,⟨_,vX.o.gl.cast (by omega) rfl,by rw[HR2.o];exact bV.append (bV.take (bV.imp (λv a h=>(h.below ik.o).mono (ak3 K)) HT.o) _) (bV.drop (bV.imp (λv a h=>(h.below ik.o).mono (ak3 K)) HT.o) _)⟩,ik.o⟩
     ·have hs0:(s==0)=false:=by rw[<-kt.o];simpa using h0
      have hs1:(s !=0)=true:=by rw[<-kt.o];simpa using h0
      have HR2:Hid (eR p c m=p.take k++([(c,m)]++p.drop k)):=HR.o.trans (by rw[if_neg h0]);have x0:=dU.o.2.1.cell 0;have x1:=dU.o.2.1.cell 1;simp only[aj1,aj2]at x0 x1;clear h0 HR kt
      go_wp2_with (first
       |(at_builtin;refine dz w7 w rfl (.tmp 58) (.tmp 62) 39 rfl w.heap.size 87 3 56 i0 (.agg #[ai4 false,ai1 none 0 0,ai1 none 0 0]) Tryz.underlying39 hi hz0 hz1 hz2 rfl (by omega) oo k cp (bF.take k) rfl dU.o.1 [ai4 mz,ai1 zo zn zc,ai1 mo mn mc] rfl (by simp[ai2]) (by simp[ai3,bB]) (by simp[bB]) _ rfl dU.o.2.2 dU.o.2.2.size (by omega) (by omega) ?_;intro o9 Mn w9 hO vY CD;have CE:=hid hO;have lY:=hid vY;have Fc:=hid ((yU.o.below (af w7 _)).eZ (dU.o.1.below (af w7 _)) CD);clear hO vY CD x0 x1)
       |(at_builtin;refine dh w9 w rfl (.tmp 64) (.tmp 67) 39 rfl w.heap.size 87 3 56 i0 (.agg #[ai4 false,ai1 none 0 0,ai1 none 0 0]) Tryz.underlying39 hi hz0 hz1 hz2 rfl (by omega) o9 _ Mn (bF.take k++[[ai4 mz,ai1 zo zn zc,ai1 mo mn mc]]) rfl CE.o (some ⟨b,off+k*3,none⟩) _ _ (bF.drop k) rfl (((HG.o.tA k (by omega) hck).below lY.o).cast (by omega) (by omega)) lY.o lY.o.size (by omega) (by omega) (by simp[ai3,bB]) (eC (λ_ _ h=>fD h) (bV.drop HT.o k)) ?_;intro o8 Mm w8 hO mi uT;have vX:=hid hO;have ik:=hid mi;have Mq:=hid (Fc.o.eZ CE.o uT);clear hO mi uT))
      go_ret;refine⟨_,_,_,rfl,⟨_,vX.o.gl.cast (by omega) rfl,?_⟩,ik.o⟩;rw[HR2.o,aj3];exact bV.append (bV.take (bV.imp (λv a h=>(h.below ik.o).mono (ak3 K)) HT.o) _) (bV.append ⟨⟨_,_,_,_,_,_,_,rfl,Mq.o,HB2.o,HM.o.below ik.o⟩,trivial⟩ (bV.drop (bV.imp (λv a h=>(h.below ik.o).mono (ak3 K)) HT.o) _))
open Lib (hid)
theorem uj (c:Int) (m:List (Int×Int)):∀p:List ai,(eR p c m).length<=p.length+1
 |[]=>by unfold eR;split<;>simp
 |t::r=>by
  have ih:=uj c m r;unfold eR;split
  ·simp;omega
  ·split
   ·split<;>simp<;>omega
   ·split<;>simp
theorem lB (p:List ai):∀q:List ai,(eu p q).length<=p.length+q.length:=by
 intro q;induction q generalizing p with
 |nil=>simp[eu]
 |cons t r ih=>
  have h:=ih (eR p t.1 t.2);have h2:=uj t.1 t.2 p;show(eu (eR p t.1 t.2) r).length<=_;simp only[aj5];omega
theorem vZ [Ol] {K K':Nat} {w:ah5}:∀{X:List (List ah6)} {p:List ai},bV (Cj K' w) X p->(∀t∈p,Bd t.1 K)->bV (Cj K w) X p
 |[],[],_,_=>trivial
 | _::_,_::_,h,hb=>by
  obtain⟨m,ao,n,ae,bo,k,cb,h1,h2,_,h4⟩:=h.1;exact⟨⟨m,ao,n,ae,bo,k,cb,h1,h2,hb _ (by simp),h4⟩,vZ h.2 λt ht=>hb t (by simp[ht])⟩
 |[],_::_,h,_=>h.elim
 | _::_,[],h,_=>h.elim
theorem Pz.ZU [Ol] {K K':Nat} {w:ah5} {ao:Z'} {n ae:Nat} {p:List ai} (h:Pz K' w ao n ae p) (hb:∀t∈p,Bd t.1 K):Pz K w ao n ae p:=by
 obtain⟨X,h1,h2⟩:=h.ex;exact⟨X,h1,vZ h2 hb⟩
theorem Pz.next [Ol] {K K':Nat} {w:ah5} {ao:Z'} {n ae:Nat} {p:List ai} (h:Pz K' w ao n ae p) (hs:K'<=K∨ ∀t∈p,Bd t.1 K):Pz K w ao n ae p:=hs.elim h.mono h.ZU
theorem CF [Ol] {K:Nat} {bd:Nat->Nat} {ao bo:Z'} {n ae l cb:Nat} {p q:List ai} {w:ah5} (hp:Pz (bd 0) w ao n ae p) (hq:Pz K w bo l cb q) (hf:bD p) (hm:gG q) (hn:n+l<=2000000) (hK:∀k,k<=l->K<=bd k/\ bd k<=9000) (hs:∀k,k<l->bd k+1<=bd (k+1)∨ ∀t∈eu p (q.take (k+1)),Bd t.1 (bd (k+1))):
  Calls Tryz.prog 34 #[ai1 ao n ae,ai1 bo l cb] w (rS (bd l) w (eu p q)):=by
 have rV:=hid hK;have Ug:=hid hs;clear hK hs;obtain⟨bF,hG,hT⟩:=hq.ex;have hle:=hG.le;have hbig:=hG.big;have hpl:=hp.len;have Jo:=hq.len;have HP:=hid hp;have HG:=hid hG;have HT:=hid hT;have HF:=hid hf;have Mh:=hid hm;have rK:=hid hpl;have LH:=hid Jo;clear hp hq hf hm hG hT hpl Jo;go_enter Tryz.func34,Tryz.ntmps34;go_wp2;go_loopw [5,6] (λo i wr=>∃(k n2 c2:Nat) (oo:Option Addr),i= .int .i64 k/\ o=ai1 oo n2 c2/\ k<=l/\ Hid (Pz (bd k) wr oo n2 c2 (eu p (q.take k))/\ ah7 w.heap.size w wr)) (λ_ i _=>l-(intOf i).toNat)
 case atStart=>exact⟨0,n,ae,ao,rfl,rfl,ak1 _,by simpa[eu]using HP.o,ah9 _ _⟩
 case round=>
  clear HP;obtain⟨k,n2,c2,oo,rfl,rfl,hk,HS⟩:=hrel;by_cases hkl:k<l
  ·obtain⟨b,off,rfl,hb,hcl⟩:=HG.o.at (by omega);obtain⟨tm,ta,tn,tc,ba,bn,bc,hv,tz,tb,qE⟩:=bV.get (0,[]) HT.o k (by rw[LH.o];exact hkl)
   have hcells:∀V:ah5,ah7 w.heap.size w V->V.cell? ⟨b,off+k*3,none⟩=some (ai4 tm)/\ V.cell? ⟨b,off+k*3+1,none⟩=some (ai1 ta tn tc)/\ V.cell? ⟨b,off+k*3+2,none⟩=some (ai1 ba bn bc):=by
    intro V hV;have h0:=hcl V hV k hkl 0 (by omega);have h1:=hcl V hV k hkl 1 (by omega);have h2:=hcl V hV k hkl 2 (by omega);rw[hv]at h0 h1 h2;exact⟨h0,h1,h2⟩
   have sY:=hid hcells;have Ql:=hid tz;have Mi:=hid tb;have Mj:=hid qE;obtain⟨t,ht⟩:∃t,t=q.getD k (0,[]):=⟨_,rfl⟩;have hlq:k<q.length:=by rw[LH.o];exact hkl
   have ht2:t=q[k]:=by rw[ht];simp[ai6,ai7 hlq]
   have Qm:Hid (aQ 0 t.2=true):=Mh.o _ (by rw[ht2];exact ai8 _)
   have HQ:Hid (eu p (q.take (k+1))=eR (eu p (q.take k)) t.1 t.2):=by
    rw[Hid,ai9 hlq,oD,<-ht2];simp[eu]
   have Tc:Hid (bD (eu p (q.take k))):=(iG HF.o (λs hs=>Mh.o s (List.mem_of_mem_take hs))).1
   have HNL:Hid (n2<=2000000):=by
    have h1:=HS.o.1.len;have h2:=lB p (q.take k);rw[aj6,rK.o]at h2;rw[Hid];omega
   have HKK:Hid (K<=bd k/\ bd k<=9000):=rV.o k (by omega);have HSK:Hid (bd k+1<=bd (k+1)∨ ∀t∈eu p (q.take (k+1)),Bd t.1 (bd (k+1))):=Ug.o k hkl;rw[<-ht]at Ql Mi Mj;clear hcl hv hcells tz tb qE ht ht2 hlq;go_upto_region 5 with(fail)
   refine wp_region_held_drew (S:=λw'=>w'.cell? ⟨b,off+k*3,none⟩=some (ai4 tm)/\ w'.cell? ⟨b,off+k*3+1,none⟩=some (ai1 ta tn tc)/\ w'.cell? ⟨b,off+k*3+2,none⟩=some (ai1 ba bn bc)) (by kernel_rfl) (sY.o _ HS.o.2.drew) (λhH=>?_);refine ah (λw4 hW=>?_);have jR:Hid (Pz (bd k) w4 oo n2 c2 (eu p (q.take k))/\ ah7 w.heap.size w w4):=by rw[hW];exact⟨HS.o.1.below (ah9 _ _).drew,HS.o.2.drew⟩
   rw[<-hW]at hH;clear hW HS;refine aT 0 hH ?_;try simp only[ax]
   refine aT 1 hH ?_;try simp only[ax]
   refine aT 2 hH ?_;try simp only[ax]
   refine aT 3 hH ?_;try simp only[ax]
   refine aT 4 hH ?_;try simp only[ax]
   refine aT 5 hH ?_;try simp only[ax]
   refine aT 6 hH ?_;try simp only[ax]
   refine aT 7 hH ?_;try simp only[ax]
   refine aT 8 hH ?_;try simp only[ax]
   refine aT 9 hH ?_;try simp only[ax]
   refine aT 10 hH ?_;try simp only[ax]
   refine ag 11 rfl (by kernel_rfl) (λKK hK=>?_);go_simp;refine(AJ jR.o.1 (Ql.o.below jR.o.2) (Mi.o.mono HKK.o.1) (Mj.o.below jR.o.2) Tc.o Qm.o HNL.o HKK.o.2).mono ?_;rintro e w5 ⟨o3,n3,c3,rfl,hX,hB⟩;have iy:Hid (Pz (bd (k+1)) w5 o3 n3 c3 (eu p (q.take (k+1)))/\ ah7 w.heap.size w w5):=⟨by have h:=HSK.o;rw[HQ.o]at h ⊢;exact hX.next h,Below.ar jR.o.2 hB⟩;clear jR hX hB HQ;go_wp2_with fail;clear hH;refine hK.o _ _ (sY.o _ iy.o.2) λhH=>?_;clear hK KK
   try simp only[ax]
   refine aT 12 hH ?_;try simp only[ax]
   refine wpAnyH_done (by kernel_rfl) ?_ _
   go_wp2_with fail;go_roundw
   case rel=>exact⟨k+1,n3,c3,o3,by go_num,rfl,by omega,iy.o⟩
   case measure=>simp[intOf];omega
  ·obtain rfl:k=l:=by omega
   go_wp2_with fail;go_ret;refine⟨_,_,_,rfl,?_,HS.o.2⟩;have h:=HS.o.1;rw[aj7 (by rw[LH.o];exact ak2 _)]at h;exact h
theorem Md [Ol] {K:Nat} {ao bo:Z'} {n ae l cb:Nat} {p q:List ai} {w:ah5} (hp:Pz K w ao n ae p) (hq:Pz K w bo l cb q) (hf:bD p) (hm:gG q) (hn:n+l<=100000) (hK:K+l<=9000):
  Calls Tryz.prog 34 #[ai1 ao n ae,ai1 bo l cb] w (rS (K+l) w (eu p q)):=
 CF (bd:=λk=>K+k) hp hq hf hm (by omega) (λk hk=>⟨ak4 _ _,by show K+k<=9000;omega⟩) λk _=> .inl (ak2 _)
open Lib (hid)
theorem uo (t:ai) (q:List ai):(qM t q).length=q.length:=by simp[qM]
theorem oF (q:List ai):∀p:List ai,(jX p q).length=p.length*q.length
 |[]=>by simp[jX]
 |t::r=>by simp only[jX,aj8,uo,oF q r,aj5,ak5];omega
theorem uq (q:List ai):∀a b:List ai,jX (a++b) q=jX a q++jX b q
 |[],_=>rfl
 |t::a,b=>by simp[jX,uq q a b]
def AA (p q:List ai):Bool:=p.all λt=>q.all λs=>aQ 0 (fL t.2 s.2)
theorem oA {p q:List ai}:AA p q=true↔kC p q:=by
 unfold AA kC;simp only[List.all_eq_true]
def vR (p q:List ai):List ai×Bool:=if AA p q=true then(df p q,true)else([],false)
theorem Mr {p q:List ai} (h:kC p q):vR p q=(df p q,true):=if_pos (oA.2 h)
theorem Qn {p q:List ai} (h:¬kC p q):vR p q=([],false):=if_neg (λg=>h (oA.1 g))
def Td [Ol] (K:Nat) (w:ah5) (p:List ai) (b:Bool) (e:Ending) (w':ah5):Prop:=∃ao n ae,e= .returned (.tuple #[ai1 ao n ae,ai4 b])/\ Pz K w' ao n ae p/\ ah7 w.heap.size w w'
def yV (p q:List ai) (t:ai) (k j:Nat):List ai:=H7 (jX (p.take k) q++qM t (q.take j))
theorem Ms {p q:List ai} (t:ai) (k j:Nat) (hj:j<q.length):yV p q t k (j+1)=eR (yV p q t k j) (t.1*(q[j]).1) (fL t.2 (q[j]).2):=by
 unfold yV qM H7;rw[ai9 hj,aj9,<-aj3,oD];simp[eu]
theorem Mt {p q:List ai} (t:ai) (k:Nat):yV p q t k 0=df (p.take k) q:=by simp[yV,qM,df]
theorem Qo {p q:List ai} (k:Nat) (hk:k<p.length):yV p q p[k] k q.length=df (p.take (k+1)) q:=by
 unfold yV df;rw[ai9 hk,uq,List.take_length];simp[jX]
theorem Qq {p q:List ai} (t:ai) (k j:Nat) (hk:k<=p.length) (hj:j<=q.length):(yV p q t k j).length<=k*q.length+j:=by
 unfold yV H7;have h:=lB [] (jX (p.take k) q++qM t (q.take j));rw[aj8,oF,uo,aj6,aj6,ak6 hk,ak6 hj]at h;simpa using h
theorem Mu {p q:List ai} (t:ai) (k j:Nat) (h1:kC (p.take k) q) (h2:∀s∈q.take j,aQ 0 (fL t.2 s.2)=true):bD (yV p q t k j):=by
 refine(wb λs hs=>?_).1;rcases ai5.1 hs with hs|hs
 ·exact pS h1 s hs
 ·obtain⟨u,hu,rfl⟩:=List.mem_map.1 hs;exact h2 u hu
theorem Mv {p q:List ai} (k:Nat) (hk:k<p.length) (h1:kC (p.take k) q) (h2:∀s∈q,aQ 0 (fL (p[k]).2 s.2)=true):kC (p.take (k+1)) q:=by
 intro t ht s hs;rw[ai9 hk]at ht;rcases ai5.1 ht with ht|ht
 ·exact h1 t ht s hs
 ·rw[ak0]at ht;subst ht;exact h2 s hs
theorem Uh {t:ai} {q:List ai} (j:Nat) (hj:j<q.length) (h:∀s∈q.take j,aQ 0 (fL t.2 s.2)=true) (h2:aQ 0 (fL t.2 (q[j]).2)=true):∀s∈q.take (j+1),aQ 0 (fL t.2 s.2)=true:=by
 intro s hs;rw[ai9 hj]at hs;rcases ai5.1 hs with hs|hs
 ·exact h s hs
 ·rw[ak0]at hs;subst hs;exact h2
theorem Fe [Ol] {Kp Kq:Nat} {bd:Nat->Nat} {ao bo:Z'} {n ae l cb:Nat} {p q:List ai} {w:ah5} (hp:Pz Kp w ao n ae p) (hq:Pz Kq w bo l cb q) (hmp:gG p) (PL:gG q) (hL:n*l<=2000000) (hB:∀i,i<=n*l->Kp+Kq<=bd i/\ bd i<=9000)
  (hs:∀k j (hk:k<p.length),j<q.length->bd (k*l+j)+1<=bd (k*l+(j+1))∨ ∀t∈yV p q p[k] k (j+1),Bd t.1 (bd (k*l+(j+1)))):
  Calls Tryz.prog 93 #[ai1 ao n ae,ai1 bo l cb] w (Td (bd (n*l)) w (vR p q).1 (vR p q).2):=by
 obtain⟨A,hA⟩:∃A,A=n*l:=⟨_,rfl⟩;rw[<-hA]at hB hL;rw[<-hA];have rV:=hid hB;have Ug:=hid hs;clear hB hs;obtain⟨bF,hG,hT⟩:=hp.ex;obtain⟨uss,hG2,Yd⟩:=hq.ex;have hbig:=hG.big;have hbig2:=hG2.big;have yu:=hid hp.len;have Ff:=hid hq.len;have Ui:=hid hG;have Uj:=hid hT;have Wu:=hid hG2;have Qr:=hid Yd;have PM:=hid hmp;have Ye:=hid PL;have HA:=hid hA;obtain⟨R,hR⟩:∃R,R=vR p q:=⟨_,rfl⟩;rw[<-hR];have HR:=hid hR;clear hp hq hmp PL hG hT hG2 Yd hR hA;go_enter Tryz.func93,Tryz.ntmps93;go_wp2;go_loopw [6,7,8,9,10] (λo i _ _ _ wr=>∃(k n2 c2:Nat) (oo:Option Addr),i= .int .i64 k/\ o=ai1 oo n2 c2/\ k<=n/\ Hid (kC (p.take k) q)/\ Hid (Pz (bd (k*l)) wr oo n2 c2 (df (p.take k) q)/\ ah7 w.heap.size w wr)) (λ_ i _ _ _ _=>n-(intOf i).toNat)
 case atStart=>exact⟨0,0,0,none,rfl,rfl,ak1 _,λ_ h=>by simp at h,Pz.zero _ _,ah9 _ _⟩
 case round=>
  obtain⟨k,n2,c2,oo,rfl,rfl,hk,Yf,HS⟩:=hrel;by_cases hkn:k<n
  ·obtain⟨N,hN⟩:∃N,N=k*l:=⟨_,rfl⟩
   have hNA:N+l<=A:=by
    rw[hN,HA.o];have h:=Nat.mul_le_mul_right l (show k+1<=n from hkn);rwa[ak5,ak7]at h
   obtain⟨b,off,rfl,_,hcl⟩:=Ui.o.at (by omega);obtain⟨xm,xa,xn,xc,xp,xq,xr,hv,tz,tb,qE⟩:=bV.get (0,[]) Uj.o k (by rw[yu.o];assumption)
   have hcells:∀V:ah5,ah7 w.heap.size w V->(V.cell? ⟨b,off+k*3,none⟩=some (ai4 xm)/\ V.cell? ⟨b,off+k*3+1,none⟩=some (ai1 xa xn xc)/\ V.cell? ⟨b,off+k*3+2,none⟩=some (ai1 xp xq xr)):=by
    intro V hV;have h0:=hcl V hV k (by assumption) 0 (by omega);have h1:=hcl V hV k (by assumption) 1 (by omega);have h2:=hcl V hV k (by assumption) 2 (by omega);rw[hv]at h0 h1 h2;exact⟨h0,h1,h2⟩
   have vo:=hid hcells;clear hcl hv hcells;have AL:k<p.length:=by rw[yu.o];assumption
   have Jp:p.getD k (0,[])=p[k]:=by simp[ai6,ai7 AL]
   rw[Jp]at tz tb qE;have HZP:=hid tz;have PN:=hid tb;have aa7:=hid qE;clear tz tb qE Jp;have HN:=hid hN;have vp:Hid (Pz (bd (N+0)) wr oo n2 c2 (yV p q p[k] k 0)/\ ah7 w.heap.size w wr):=by rw[Mt,hN];exact HS.o
   clear HS hN;go_wp2;go_loopw [6,8,9,10] (λo i _ _ wi=>∃(j n3 c3:Nat) (o3:Option Addr),i= .int .i64 j/\ o=ai1 o3 n3 c3/\ j<=l/\ Hid (∀s∈q.take j,aQ 0 (fL (p[k]).2 s.2)=true)/\ Hid (Pz (bd (N+j)) wi o3 n3 c3 (yV p q p[k] k j)/\ ah7 w.heap.size w wi)) (λ_ i _ _ _=>l-(intOf i).toNat)
   case atStart=>exact⟨0,n2,c2,oo,rfl,rfl,ak1 _,λ_ h=>by simp at h,vp.o⟩
   case round=>
    clear vp;obtain⟨j,n3,c3,o3,rfl,rfl,hj,Qs,HS⟩:=hrel;by_cases hjl:j<l
    ·obtain⟨d,EK,rfl,_,hcl⟩:=Wu.o.at (by omega);obtain⟨ym,ya,yn,yc,yp,yq,yr,hv,tz,tb,qE⟩:=bV.get (0,[]) Qr.o j (by rw[Ff.o];assumption)
     have hcells:∀V:ah5,ah7 w.heap.size w V->(V.cell? ⟨d,EK+j*3,none⟩=some (ai4 ym)/\ V.cell? ⟨d,EK+j*3+1,none⟩=some (ai1 ya yn yc)/\ V.cell? ⟨d,EK+j*3+2,none⟩=some (ai1 yp yq yr)):=by
      intro V hV;have h0:=hcl V hV j (by assumption) 0 (by omega);have h1:=hcl V hV j (by assumption) 1 (by omega);have h2:=hcl V hV j (by assumption) 2 (by omega);rw[hv]at h0 h1 h2;exact⟨h0,h1,h2⟩
     have PO:=hid hcells;clear hcl hv hcells;have Te:j<q.length:=by rw[Ff.o];assumption
     have Wv:q.getD j (0,[])=q[j]:=by simp[ai6,ai7 Te]
     rw[Wv]at tz tb qE;have HZQ:=hid tz;have Yg:=hid tb;have aa8:=hid qE;clear tz tb qE Wv;have HMX:Hid (aQ 0 (p[k]).2=true):=PM.o _ (ai8 _);have Qm:Hid (aQ 0 (q[j]).2=true):=Ye.o _ (ai8 _);have Tc:Hid (bD (yV p q p[k] k j)):=Mu _ k j Yf.o Qs.o
     have HNL:Hid (n3<=2000000):=by
      have h1:=HS.o.1.len;have h2:=Qq (p:=p) (q:=q) p[k] k j (by omega) (by omega);rw[Ff.o,<-HN.o]at h2;rw[Hid];omega
     have HKK:Hid (Kp+Kq<=bd (N+j)/\ bd (N+j)<=9000):=rV.o _ (by omega);have HSK:Hid (bd (N+j)+1<=bd (N+(j+1))∨ ∀t∈yV p q p[k] k (j+1),Bd t.1 (bd (N+(j+1)))):=by have h:=Ug.o k j AL Te;rwa[<-HN.o]at h
     go_upto_region 8 with(fail)
     refine wp_region_held_drew (S:=λw'=>(w'.cell? ⟨b,off+k*3,none⟩=some (ai4 xm)/\ w'.cell? ⟨b,off+k*3+1,none⟩=some (ai1 xa xn xc)/\ w'.cell? ⟨b,off+k*3+2,none⟩=some (ai1 xp xq xr))/\ (w'.cell? ⟨d,EK+j*3,none⟩=some (ai4 ym)/\ w'.cell? ⟨d,EK+j*3+1,none⟩=some (ai1 ya yn yc)/\ w'.cell? ⟨d,EK+j*3+2,none⟩=some (ai1 yp yq yr))) (by kernel_rfl) ⟨vo.o _ (HS.o.2).drew,PO.o _ (HS.o.2).drew⟩ (λhH=>?_);refine ah (λw4 hW=>?_);have jR:Hid (Pz (bd (N+j)) w4 o3 n3 c3 (yV p q p[k] k j)/\ ah7 w.heap.size w w4):=by rw[hW];exact⟨HS.o.1.below (ah9 _ _).drew,HS.o.2.drew⟩
     clear HS;rw[<-hW]at hH;clear hW;refine aT 0 hH ?_;try simp only[ax]
     refine aT 1 hH ?_;try simp only[ax]
     refine aT 2 hH ?_;try simp only[ax]
     refine aT 3 hH ?_;try simp only[ax]
     refine aT 4 hH ?_;try simp only[ax]
     refine aT 5 hH ?_;try simp only[ax]
     refine aT 6 hH ?_;try simp only[ax]
     refine aT 7 hH ?_;try simp only[ax]
     refine aT 8 hH ?_;try simp only[ax]
     refine aT 9 hH ?_;try simp only[ax]
     refine ag 10 rfl (by kernel_rfl) (λKK hK=>?_);go_simp;have Ww:=Fg (aa7.o.below jR.o.2) (aa8.o.below jR.o.2);by_cases hfit:aQ 0 (fL (p[k]).2 (q[j]).2)=true
     ·rw[show gq (λx y=>x+y) 8 (p[k]).2 (q[j]).2=(fL (p[k]).2 (q[j]).2,0)from by unfold gq;rw[if_pos ⟨HMX.o,Qm.o⟩];exact if_pos hfit]at Ww;refine Ww.mono ?_;rintro e w5 ⟨mo,mn,mc,rfl,hX,hB⟩;clear Ww;have iy:Hid (Pz (bd (N+j)) w5 o3 n3 c3 (yV p q p[k] k j)/\ ah7 w.heap.size w w5):=⟨jR.o.1.below hB,Below.ar jR.o.2 hB⟩;have EL:=hid hX;have HFJ:Hid (∀s∈q.take (j+1),aQ 0 (fL (p[k]).2 s.2)=true):=Uh j Te Qs.o hfit;have Yh:=hid hfit;clear hX hB jR Qs hfit;go_wp2_with fail;clear hH;refine hK.o _ _ ⟨vo.o _ iy.o.2,PO.o _ iy.o.2⟩ λhH=>?_;clear hK KK
      try simp only[ax]
      refine aT 11 hH ?_;try simp only[ax]
      refine aT 12 hH ?_;try simp only[ax]
      refine aT 13 hH ?_;try simp only[ax]
      refine aT 14 hH ?_;try simp only[ax]
      refine aT 15 hH ?_;try simp only[ax]
      refine wpAnyH_done (by kernel_rfl) ?_ _
      go_upto_region 11 with(fail)
      refine wp_region_held_drew (S:=λw'=>(w'.cell? ⟨b,off+k*3,none⟩=some (ai4 xm)/\ w'.cell? ⟨b,off+k*3+1,none⟩=some (ai1 xa xn xc)/\ w'.cell? ⟨b,off+k*3+2,none⟩=some (ai1 xp xq xr))/\ (w'.cell? ⟨d,EK+j*3,none⟩=some (ai4 ym)/\ w'.cell? ⟨d,EK+j*3+1,none⟩=some (ai1 ya yn yc)/\ w'.cell? ⟨d,EK+j*3+2,none⟩=some (ai1 yp yq yr))) (by kernel_rfl) ⟨vo.o _ (iy.o.2).drew,PO.o _ (iy.o.2).drew⟩ (λhH=>?_);refine ah (λw4 hW=>?_);have mj:Hid (Pz (bd (N+j)) w4 o3 n3 c3 (yV p q p[k] k j)/\ ah7 w.heap.size w w4):=by rw[hW];exact⟨iy.o.1.below (ah9 _ _).drew,iy.o.2.drew⟩
      have Yi:Hid (Ml w4 mo mn mc (fL (p[k]).2 (q[j]).2)):=by rw[hW];exact EL.o.below (ah9 _ _).drew
      clear iy EL;rw[<-hW]at hH;clear hW;refine aT 0 hH ?_;try simp only[ax]
      refine aT 1 hH ?_;try simp only[ax]
      refine aT 2 hH ?_;try simp only[ax]
      refine aT 3 hH ?_;try simp only[ax]
      refine aT 4 hH ?_;try simp only[ax]
      refine aT 5 hH ?_;try simp only[ax]
      refine aT 6 hH ?_;try simp only[ax]
      refine aT 7 hH ?_;try simp only[ax]
      refine aT 8 hH ?_;try simp only[ax]
      refine aT 9 hH ?_;try simp only[ax]
      refine aT 10 hH ?_;try simp only[ax]
      refine aT 12 hH ?_;try simp only[ax]
      refine ag 11 rfl (by kernel_rfl) (λKK hK=>?_);go_simp;refine(Mw ((HZP.o.below mj.o.2).zx PN.o (by have:=HKK.o;omega)) ((HZQ.o.below mj.o.2).zx Yg.o (by have:=HKK.o;omega))).mono ?_;rintro e w6 ⟨rm,ra,rn,rc,rfl,hX,hB⟩;have dU:Hid (Pz (bd (N+j)) w6 o3 n3 c3 (yV p q p[k] k j)/\ ah7 w.heap.size w w6):=⟨mj.o.1.below hB,Below.ar mj.o.2 hB⟩;have Yj:=hid (Yi.o.below hB);have yU:=hid hX;have EM:Hid (Bd ((p[k]).1*(q[j]).1) (bd (N+j))):=(PN.o.mul Yg.o).mono HKK.o.1;clear mj Yi hX hB;go_wp2_with fail;clear hH;refine hK.o _ _ ⟨vo.o _ dU.o.2,PO.o _ dU.o.2⟩ λhH=>?_;clear hK KK
      try simp only[ax]
      refine ag 13 rfl (by kernel_rfl) (λKK hK=>?_);go_simp;refine(AJ dU.o.1 yU.o EM.o Yj.o Tc.o Yh.o HNL.o HKK.o.2).mono ?_;rintro e w8 ⟨o8,n8,c8,rfl,hX,hB⟩;have Fh:Hid (Pz (bd (N+(j+1))) w8 o8 n8 c8 (yV p q p[k] k (j+1))/\ ah7 w.heap.size w w8):=⟨by have h:=HSK.o;rw[Ms _ k j Te]at h ⊢;exact hX.next h,Below.ar dU.o.2 hB⟩;clear dU Yj yU EM hX hB Tc Yh;go_wp2_with fail;clear hH;refine hK.o _ _ ⟨vo.o _ Fh.o.2,PO.o _ Fh.o.2⟩ λhH=>?_;clear hK KK
      try simp only[ax]
      refine aT 14 hH ?_;try simp only[ax]
      refine wpAnyH_done (by kernel_rfl) ?_ _
      go_wp2_with fail;go_roundw
      case rel=>exact⟨j+1,n8,c8,o8,by go_num,rfl,by omega,HFJ,Fh.o⟩
      case measure=>simp[intOf];omega
     ·have HR2:Hid (R=([],false)):=HR.o.trans (Qn λh=>hfit (h _ (ai8 _) _ (ai8 _)));rw[show gq (λx y=>x+y) 8 (p[k]).2 (q[j]).2=([],8)from by unfold gq;rw[if_pos ⟨HMX.o,Qm.o⟩];exact if_neg hfit]at Ww;refine Ww.mono ?_;rintro e w5 ⟨mo,mn,mc,rfl,hX,hB⟩;clear Ww hfit;have oq:Hid (ah7 w.heap.size w w5):=Below.ar jR.o.2 hB;clear hX hB jR;go_wp2_with fail;clear hH;refine hK.o _ _ ⟨vo.o _ oq.o,PO.o _ oq.o⟩ λhH=>?_;clear hK KK
      try simp only[ax]
      refine aT 11 hH ?_;try simp only[ax]
      refine aT 12 hH ?_;try simp only[ax]
      refine aT 13 hH ?_;try simp only[ax]
      refine aT 14 hH ?_;try simp only[ax]
      refine aT 15 hH ?_;try simp only[ax]
      refine wpAnyH_done (by kernel_rfl) ?_ _
      go_wp2_with fail;refine bodyPost_ret (v:= .tuple #[ai1 none 0 0,ai4 false]) (by simp[results,Tryz.results93,go_sem]) rfl ?_;exact⟨none,0,0,by rw[HR2.o],by rw[HR2.o];exact Pz.zero _ _,oq.o⟩
    ·obtain rfl:j=l:=by omega
     have Yk:Hid (kC (p.take (k+1)) q):=Mv k AL Yf.o (by have h:=Qs.o;rwa[aj7 (by rw[Ff.o];exact ak2 _)]at h)
     have HS2:Hid (Pz (bd ((k+1)*j)) wr o3 n3 c3 (df (p.take (k+1)) q)/\ ah7 w.heap.size w wr):=by
      rw[<-Qo k AL,Ff.o,ak5,ak7,<-HN.o];exact HS.o
     clear HS Qs Yf;go_wp2_with fail;go_roundw
     case rel=>exact⟨k+1,n3,c3,o3,by go_num,rfl,by omega,Yk,HS2⟩
     case measure=>simp[intOf];omega
  ·obtain rfl:k=n:=by omega
   have Yk:Hid (kC p q):=by have h:=Yf.o;rwa[aj7 (by rw[yu.o];exact ak2 _)]at h
   have HR2:Hid (R=(df p q,true)):=HR.o.trans (Mr Yk.o);have HS2:Hid (Pz (bd A) wr oo n2 c2 (df p q)/\ ah7 w.heap.size w wr):=by have h:=HS.o;rwa[aj7 (by rw[yu.o];exact ak2 _),<-HA.o]at h
   clear HS Yf;go_wp2_with fail;refine bodyPost_ret (v:= .tuple #[ai1 oo n2 c2,ai4 true]) (by simp[results,Tryz.results93,go_sem]) rfl ?_;exact⟨_,_,_,by rw[HR2.o],by rw[HR2.o];exact HS2.o.1,HS2.o.2⟩
theorem Fi [Ol] {Kp Kq:Nat} {ao bo:Z'} {n ae l cb:Nat} {p q:List ai} {w:ah5} (hp:Pz Kp w ao n ae p) (hq:Pz Kq w bo l cb q) (hmp:gG p) (PL:gG q) (hK:Kp+Kq+n*l<=9000):
  Calls Tryz.prog 93 #[ai1 ao n ae,ai1 bo l cb] w (Td (Kp+Kq+n*l) w (vR p q).1 (vR p q).2):=
 Fe (bd:=λi=>Kp+Kq+i) hp hq hmp PL (by omega) (λi hi=>⟨ak4 _ _,by show Kp+Kq+i<=9000;omega⟩) λk j _ _=> .inl (ak2 _)
open Lib (hid)
theorem Mx [Ol] {K:Nat} {bo:Z'} {l cb:Nat} {q:List ai} {w:ah5} (hq:Pz K w bo l cb q) (hn:l<=2000000) (hK:K<=9000):
  Calls Tryz.prog 92 #[ai1 bo l cb] w (rS K w (mq q)):=by
 obtain⟨i0,hi,hz0,hz1,hz2⟩:=info_parts Tryz.Mg;obtain⟨bF,hG,hT⟩:=hq.ex;have hle:=hG.le;have hbig:=hG.big;have Jo:=hq.len;have HG:=hid hG;have HT:=hid hT;have LH:=hid Jo;clear hq hG hT Jo;go_enter Tryz.func92,Tryz.ntmps92;go_wp2;go_loopw [3,4] (λo i wr=>∃(k c2:Nat) (oo:Option Addr) (zs:List (List ah6)),i= .int .i64 k/\ o=ai1 oo k c2/\ k<=l/\ Hid (gM w.heap.size 87 3 wr oo k c2 zs/\ bV (Cj K wr) zs (mq (q.take k))/\ ah7 w.heap.size w wr)) (λ_ i _=>l-(intOf i).toNat)
 case atStart=>exact⟨0,0,none,[],rfl,rfl,ak1 _,gM.nil _ _ _ _,trivial,ah9 _ _⟩
 case round=>
  obtain⟨k,c2,oo,zs,rfl,rfl,hk,HS⟩:=hrel;by_cases hkl:k<l
  ·obtain⟨b,off,rfl,hb,hcl⟩:=HG.o.at (by omega);obtain⟨tm,ta,tn,tc,ba,bn,bc,hv,tz,tb,qE⟩:=bV.get (0,[]) HT.o k (by rw[LH.o];exact hkl)
   have hcells:∀V:ah5,ah7 w.heap.size w V->V.cell? ⟨b,off+k*3,none⟩=some (ai4 tm)/\ V.cell? ⟨b,off+k*3+1,none⟩=some (ai1 ta tn tc)/\ V.cell? ⟨b,off+k*3+2,none⟩=some (ai1 ba bn bc):=by
    intro V hV;have h0:=hcl V hV k hkl 0 (by omega);have h1:=hcl V hV k hkl 1 (by omega);have h2:=hcl V hV k hkl 2 (by omega);rw[hv]at h0 h1 h2;exact⟨h0,h1,h2⟩
   have sY:=hid hcells;have Ql:=hid tz;have Mi:=hid tb;have Mj:=hid qE;obtain⟨t,ht⟩:∃t,t=q.getD k (0,[]):=⟨_,rfl⟩;have hlq:k<q.length:=by rw[LH.o];exact hkl
   have ht2:t=q[k]:=by rw[ht];simp[ai6,ai7 hlq]
   have HQ:Hid (mq (q.take (k+1))=mq (q.take k)++[(-t.1,t.2)]):=by
    unfold mq;rw[Hid,ai9 hlq,aj9,<-ht2];rfl
   rw[<-ht]at Ql Mj Mi;clear hcl hv hcells tz tb qE ht ht2 hlq;go_upto_region 5 with(fail)
   refine wp_region_held_drew (S:=λw'=>w'.cell? ⟨b,off+k*3,none⟩=some (ai4 tm)/\ w'.cell? ⟨b,off+k*3+1,none⟩=some (ai1 ta tn tc)/\ w'.cell? ⟨b,off+k*3+2,none⟩=some (ai1 ba bn bc)) (by kernel_rfl) (sY.o _ HS.o.2.2.drew) (λhH=>?_);refine ah (λw4 hW=>?_);have jR:Hid (gM w.heap.size 87 3 w4 oo k c2 zs/\ bV (Cj K w4) zs (mq (q.take k))/\ ah7 w.heap.size w w4):=by rw[hW];exact⟨HS.o.1.below (ah9 _ _).drew,HS.o.2.1.imp (λ_ _ h=>h.below (ah9 _ _).drew),HS.o.2.2.drew⟩
   rw[<-hW]at hH;clear hW HS;refine aT 0 hH ?_;try simp only[ax]
   refine aT 1 hH ?_;try simp only[ax]
   refine aT 2 hH ?_;try simp only[ax]
   refine aT 3 hH ?_;try simp only[ax]
   refine aT 4 hH ?_;try simp only[ax]
   refine aT 5 hH ?_;try simp only[ax]
   refine aT 7 hH ?_;try simp only[ax]
   refine aT 8 hH ?_;try simp only[ax]
   refine aT 9 hH ?_;try simp only[ax]
   refine aT 10 hH ?_;try simp only[ax]
   refine aT 11 hH ?_;try simp only[ax]
   refine ag 6 rfl (by kernel_rfl) (λKK hK=>?_);go_simp;refine(kD ((Ql.o.below jR.o.2.2).zx Mi.o (by omega))).mono ?_;rintro e w5 ⟨rm,ra,rn,rc,rfl,hX,hB⟩;have iy:Hid (gM w.heap.size 87 3 w5 oo k c2 zs/\ bV (Cj K w5) zs (mq (q.take k))/\ ah7 w.heap.size w w5):=⟨jR.o.1.below hB,jR.o.2.1.imp (λ_ _ h=>h.below hB),Below.ar jR.o.2.2 hB⟩;have PK:Hid (Cj K w5 [ai4 rm,ai1 ra rn rc,ai1 ba bn bc] (-t.1,t.2)):=⟨_,_,_,_,_,_,_,rfl,hX,Mi.o.neg,Mj.o.below iy.o.2.2⟩;clear jR hX hB Ql Mi Mj;go_wp2_with fail;clear hH;refine hK.o _ _ (sY.o _ iy.o.2.2) λhH=>?_;clear hK KK
   try simp only[ax]
   refine aT 12 hH ?_;try simp only[ax]
   refine ag 13 rfl (by kernel_rfl) (λKK hK=>?_);go_simp;clear hH;refine hK.o _ _ (sY.o _ (iy.o.2.2.trans (ai0 (af w5 _) iy.o.2.2.size))) λhH=>?_;clear hK KK
   try simp only[ax]
   refine ag 14 rfl (by kernel_rfl) (λKK hK=>?_);refine rW _ w (.tmp 11) (.tmp 24) 39 rfl w.heap.size 87 3 56 i0 (.agg #[ai4 false,ai1 none 0 0,ai1 none 0 0]) Tryz.underlying39 hi hz0 hz1 hz2 rfl (by omega) oo k c2 zs rfl (iy.o.1.below (af w5 _)) _ 1 1 [[ai4 rm,ai1 ra rn rc,ai1 ba bn bc]] rfl (Gl.lit 3 w5 _ _ rfl (by simp[ai2])) (iy.o.2.2.alloc iy.o.2.2.size _) (by have:=iy.o.2.2.size;simp;omega) (by omega) (by omega) (by simp[ai3,bB]) (by simp[bB]) ?_;intro o6 c6 w6 hO Wx hG6;have mj:Hid (gM w.heap.size 87 3 w6 o6 (k+1) c6 (zs++[[ai4 rm,ai1 ra rn rc,ai1 ba bn bc]])/\ bV (Cj K w6) (zs++[[ai4 rm,ai1 ra rn rc,ai1 ba bn bc]]) (mq (q.take (k+1)))/\ ah7 w.heap.size w w6):=⟨hO,by rw[HQ.o];exact bV.append (iy.o.2.1.imp (λ_ _ h=>(h.below (af w5 _)).eZ (iy.o.1.below (af w5 _)) hG6)) ⟨(PK.o.below (af w5 _)).eZ (iy.o.1.below (af w5 _)) hG6,trivial⟩,Wx⟩;clear iy hO Wx hG6 PK HQ;clear hH;refine hK.o _ _ (sY.o _ mj.o.2.2) λhH=>?_;clear hK KK
   try simp only[ax]
   refine aT 15 hH ?_;try simp only[ax]
   refine wpAnyH_done (by kernel_rfl) ?_ _
   go_wp2_with fail;go_roundw
   case rel=>exact⟨k+1,c6,o6,_,by go_num,rfl,by omega,mj.o⟩
   case measure=>simp[intOf];omega
  ·obtain rfl:k=l:=by omega
   go_wp2_with fail;go_ret;refine⟨_,_,_,rfl,⟨_,HS.o.1.gl,?_⟩,HS.o.2.2⟩;have h:=HS.o.2.1;rw[aj7 (by rw[LH.o];exact ak2 _)]at h;exact h
open Lib (hid)
def AH (n:Int):List ai:=eR [] n []
theorem ui (n:Int):bD (AH n):=(mr n (p:=[]) trivial rfl).1
theorem CG {n:Int} (h: -9223372036854775808<=n/\ n<=9223372036854775807):Bd n 2:=by
 unfold Bd;have:(2:Nat)^(32*2)=18446744073709551616:=by decide
 omega
theorem yj (p q:List ai):(df p q).length<=p.length*q.length:=by
 have h:=lB [] (jX p q);rw[oF]at h;simpa[df,H7]using h
theorem My [Ol] {K:Nat} {bd:Nat->Nat} {ao bo:Z'} {n ae l cb:Nat} {p q:List ai} {w:ah5} (hp:Pz (bd 0) w ao n ae p) (hq:Pz K w bo l cb q) (hf:bD p) (hm:gG q) (hn:n+l<=2000000) (hK:∀k,k<=l->K<=bd k/\ bd k<=9000) (hs:∀k,k<l->bd k+1<=bd (k+1)∨ ∀t∈eu p ((mq q).take (k+1)),Bd t.1 (bd (k+1))):
  Calls Tryz.prog 35 #[ai1 ao n ae,ai1 bo l cb] w (rS (bd l) w (T9 p q)):=by
 have HP:=hid hp;have rV:=hid hK;have Ug:=hid hs;clear hK hs;have HQ:=hid hq;have HF:=hid hf;have HM:=hid (Mz hm);have hl:=hq.len;have HL:Hid ((mq q).length=l):=by rw[Hid,<-hl];simp[mq]
 clear hp hq hf hm hl;go_enter Tryz.func35,Tryz.ntmps35;go_wp2_with fail;refine(Mx HQ.o (by omega) (by have:=rV.o 0 (ak1 _);omega)).mono ?_;rintro e w1 ⟨qo,qn,qc,rfl,hX,hB⟩;have hl:=hX.len;obtain rfl:qn=l:=by rw[<-hl,HL.o]
 have MA:=hid (HP.o.below hB);have Qt:=hid hX;have HB1:=hid hB;clear HP HQ hX hB hl;go_wp2_with fail;refine(CF MA.o Qt.o HF.o HM.o hn rV.o Ug.o).mono ?_;rintro e w2 ⟨ro,rn,rc,rfl,hX,hB⟩;have HR:=hid hX;have HB2:=hid (Below.ar HB1.o hB);clear hX hB HB1;go_wp2_with fail;go_ret;exact⟨_,_,_,rfl,HR.o,HB2.o⟩
theorem Mc [Ol] {K:Nat} {ao bo:Z'} {n ae l cb:Nat} {p q:List ai} {w:ah5} (hp:Pz K w ao n ae p) (hq:Pz K w bo l cb q) (hf:bD p) (hm:gG q) (hn:n+l<=100000) (hK:K+l<=9000):
  Calls Tryz.prog 35 #[ai1 ao n ae,ai1 bo l cb] w (rS (K+l) w (T9 p q)):=
 My (bd:=λk=>K+k) hp hq hf hm (by omega) (λk hk=>⟨ak4 _ _,by show K+k<=9000;omega⟩) λk _=> .inl (ak2 _)
theorem vT [Ol] {Kp Kq:Nat} {ao bo:Z'} {n ae l cb:Nat} {p q:List ai} {w:ah5} (hp:Pz Kp w ao n ae p) (hq:Pz Kq w bo l cb q) (hmp:gG p) (PL:gG q) (hK:Kp+Kq+n*l<=9000):
  Calls Tryz.prog 36 #[ai1 ao n ae,ai1 bo l cb] w (rS (Kp+Kq+n*l) w (vR p q).1):=by
 have ht:=Fi hp hq hmp PL hK;have HT:=hid ht;clear hp hq hmp PL ht hK;go_enter Tryz.func36,Tryz.ntmps36;go_wp2_with fail;refine HT.o.mono ?_;rintro e w1 ⟨ro,rn,rc,rfl,hX,hB⟩;have HR:=hid hX;have HB:=hid hB;clear hX hB HT;go_wp2_with fail;go_ret;exact⟨_,_,_,rfl,HR.o,HB.o⟩
theorem vU [Ol] (n:Int) (w:ah5) (h: -9223372036854775808<=n/\ n<=9223372036854775807):
  Calls Tryz.prog 37 #[.int .i64 n] w (rS 3 w (AH n)):=by
 have HN:=hid h;clear h;go_enter Tryz.func37,Tryz.ntmps37;go_wp2_with fail;refine(nv n w HN.o).mono ?_;rintro e w1 ⟨m,ao,k,ae,rfl,hX,hB⟩;have HX:=hid hX;have HB:=hid hB;clear hX hB;go_wp2_with fail;refine(AJ (K:=2) (p:=[]) (Pz.zero _ _) HX.o (CG HN.o) (Ml.zero _) trivial rfl (by omega) (by omega)).mono ?_;rintro e w2 ⟨ro,rn,rc,rfl,hX,hB⟩;have HR:=hid hX;have HB2:=hid (Below.ar HB.o hB);clear hX hB HB;go_wp2_with fail;go_ret;exact⟨_,_,_,rfl,HR.o,HB2.o⟩
def TmI [Ol] (K:Nat) (w:ah5) (vs:List ah6) (t:ai):Prop:=
 ∃m ao n ae bo k cb,vs=[ai4 m,ai1 ao n ae,ai1 bo k cb]/\ In w m ao n ae t.1/\ n<=K/\ Ml w bo k cb t.2
structure Pi [Ol] (K:Nat) (w:ah5) (ao:Option Addr) (n ae:Nat) (p:List ai):Prop where
 ex:∃bF,Gl 3 w ao n ae bF/\ bV (TmI K w) bF p
theorem Pi.len [Ol] {K:Nat} {w:ah5} {ao:Z'} {n ae:Nat} {p:List ai} (h:Pi K w ao n ae p):p.length=n:=by
 obtain⟨bF,h1,h2⟩:=h.ex;rw[<-h2.len,h1.len]
open Lib (hid)
theorem oG {w w':ah5} {g:Nat} (hc:dV w g) (hG:w.grownBy w' (some g)) {k:IntKind} {x:Int} {ad:Addr} (h:w.cell? ad=some (.int k x)):w'.cell? ad=some (.int k x):=
 hG.cell h λeq=>hc.dy h (ak8 eq)
theorem Ml.fM [Ol] {w w':ah5} {g:Nat} (hc:dV w g) (hG:w.grownBy w' (some g)) {bo:Z'} {k cb:Nat} {ps:List (Int×Int)} (h:Ml w bo k cb ps):Ml w' bo k cb ps:=
 ⟨h.len,h.le,h.big,h.wf,h.nil,λad had t ht=>⟨oG hc hG (h.cells ad had t ht).1,oG hc hG (h.cells ad had t ht).2⟩,λh0 ad had=>by
  obtain⟨x,hx⟩:=h.int h0 had;exact(h.kp h0 ad had).grown (h.Hh h0 had) hG λeq=>hc.dy hx (ak8 eq)⟩
theorem Cn.fM {w w':ah5} {g:Nat} (hc:dV w g) (hG:w.grownBy w' (some g)) {m:Bool} {bo:Z'} {k cb:Nat} {z:Int} (h:Cn w m bo k cb z):Cn w' m bo k cb z:=
 ⟨h.neg,h.sl.len,h.sl.le,h.sl.big,h.sl.wf,h.sl.nil,λad had t ht=>oG hc hG (h.sl.cells ad had t ht)⟩
theorem Cn.eZ {B:Nat} {e:TypeId} {sz:Nat} {w w':ah5} {ao:Z'} {n ae:Nat} {bF:List (List ah6)} {m:Bool} {bo:Z'} {k cb:Nat} {z:Int} (h:Cn w m bo k cb z) (hO:gM B e sz w ao n ae bF) (hG:w.grownBy w' (ai1 ao n ae).ownBlock):Cn w' m bo k cb z:=
 ⟨h.neg,h.sl.len,h.sl.le,h.sl.big,h.sl.wf,h.sl.nil,λad had t ht=>hO.eZ hG (h.sl.cells ad had t ht)⟩
theorem aS.pP {w:ah5} {g:Nat} {T:TypeId} (h:aS w g [] T):dV w g:=λcur T' fr hh u hu=>by
 unfold aS at h;rw[h]at hh;cases hh;simp at hu
theorem gM.TL {B:Nat} {e:TypeId} {sz:Nat} {w w':ah5} {ao:Z'} {n ae:Nat} {bF:List (List ah6)} (h:gM B e sz w ao n ae bF) {g:Nat} {us:List ah6} {T:TypeId} (hg:aS w g us T) (hT:T≠e) (hG:w.grownBy w' (some g)):gM B e sz w' ao n ae bF:=by
 refine h.ct λa ha=>?_
 rcases h.parts with⟨h1,_⟩|⟨g',cur,h1,_,hlt,_,hh⟩
 ·rw[h1]at ha;cases ha
 ·rw[h1]at ha;cases ha;refine hG.block g' hlt λeq=>?_
  have e':g'=g:=ak8 eq;subst e';unfold aS at hg;rw[hg]at hh;cases hh;exact hT rfl
def gL [Ol] (K:Nat) (w:ah5) (vs:List ah6) (t:ai):Prop:=
 ∃m ao n ae bo k cb,vs=[ai4 m,ai1 ao n ae,ai1 bo k cb]/\ Cn w m ao n ae t.1/\ Bd t.1 K/\ Ml w bo k cb t.2
theorem gL.below [Ol] {K:Nat} {w w':ah5} {vs:List ah6} {t:ai} (h:gL K w vs t) (hb:ah7 w.heap.size w w'):gL K w' vs t:=by
 obtain⟨m,ao,n,ae,bo,k,cb,h1,h2,h3,h4⟩:=h;exact⟨m,ao,n,ae,bo,k,cb,h1,h2.below hb,h3,h4.below hb⟩
theorem gL.LB [Ol] {K:Nat} {w:ah5} {vs:List ah6} {t:ai} (h:gL K w vs t):TmI K w vs t:=by
 obtain⟨m,ao,n,ae,bo,k,cb,h1,h2,h3,h4⟩:=h;exact⟨m,ao,n,ae,bo,k,cb,h1,h2.LB,h2.le h3,h4⟩
theorem gL.mono [Ol] {K L:Nat} {w:ah5} {vs:List ah6} {t:ai} (h:gL K w vs t) (hk:K<=L):gL L w vs t:=by
 obtain⟨m,ao,n,ae,bo,k,cb,h1,h2,h3,h4⟩:=h;exact⟨m,ao,n,ae,bo,k,cb,h1,h2,h3.mono hk,h4⟩
theorem gL.eZ [Ol] {B:Nat} {e:TypeId} {sz:Nat} {w w':ah5} {ao:Z'} {n ae:Nat} {bF:List (List ah6)} {K:Nat} {vs:List ah6} {t:ai} (h:gL K w vs t) (hO:gM B e sz w ao n ae bF) (hG:w.grownBy w' (ai1 ao n ae).ownBlock):gL K w' vs t:=by
 obtain⟨m,ao,n,ae,bo,k,cb,h1,h2,h3,h4⟩:=h;exact⟨m,ao,n,ae,bo,k,cb,h1,h2.eZ hO hG,h3,h4.eZ hO hG⟩
theorem gL.fM [Ol] {w w':ah5} {g:Nat} (hc:dV w g) (hG:w.grownBy w' (some g)) {K:Nat} {vs:List ah6} {t:ai} (h:gL K w vs t):gL K w' vs t:=by
 obtain⟨m,ao,n,ae,bo,k,cb,h1,h2,h3,h4⟩:=h;exact⟨m,ao,n,ae,bo,k,cb,h1,h2.fM hc hG,h3,h4.fM hc hG⟩
structure Pc [Ol] (K:Nat) (w:ah5) (ao:Option Addr) (n ae:Nat) (p:List ai):Prop where
 ex:∃bF,Gl 3 w ao n ae bF/\ bV (gL K w) bF p
theorem Pc.len [Ol] {K:Nat} {w:ah5} {ao:Z'} {n ae:Nat} {p:List ai} (h:Pc K w ao n ae p):p.length=n:=by
 obtain⟨bF,h1,h2⟩:=h.ex;rw[<-h2.len,h1.len]
theorem Pc.below [Ol] {K:Nat} {w w':ah5} {ao:Z'} {n ae:Nat} {p:List ai} (h:Pc K w ao n ae p) (hb:ah7 w.heap.size w w'):Pc K w' ao n ae p:=by
 obtain⟨bF,h1,h2⟩:=h.ex;exact⟨bF,h1.below hb,h2.imp λv a h=>h.below hb⟩
theorem Pc.LB [Ol] {K:Nat} {w:ah5} {ao:Z'} {n ae:Nat} {p:List ai} (h:Pc K w ao n ae p):Pi K w ao n ae p:=by
 obtain⟨bF,h1,h2⟩:=h.ex;exact⟨bF,h1,h2.imp λv a h=>h.LB⟩
theorem Pc.mono [Ol] {K L:Nat} {w:ah5} {ao:Z'} {n ae:Nat} {p:List ai} (h:Pc K w ao n ae p) (hk:K<=L):Pc L w ao n ae p:=by
 obtain⟨bF,h1,h2⟩:=h.ex;exact⟨bF,h1,h2.imp λv a h=>h.mono hk⟩
theorem Pc.zero [Ol] (K:Nat) (w:ah5):Pc K w none 0 0 []:=⟨[],Gl.zero 3 w,trivial⟩
def Yl [Ol] (K:Nat) (w:ah5) (p:List ai) (e:Ending) (w':ah5):Prop:=∃ao n ae,e= .returned (ai1 ao n ae)/\ Pc K w' ao n ae p/\ ah7 w.heap.size w w'
theorem Tryz.Qu:(Tryz.prog.info? 70).map (λi=>(i.zero,i.size,i.bytes))=some (some (.agg #[ai4 false,ai1 none 0 0,ai1 none 0 0]),3,56):=by kernel_rfl
theorem H8 [Ol] {P:Program} (wa w0:ah5) {o:Oper} {a:Act} {K:Act->ah5->Prop} {Q:Exit->Act->ah5->Prop}
  (s x:Operand) (t:TypeId) (hop:o.op=Op.call { callee:=Callee.builtin Builtin.append,args:= #[s,x],argTypes:= #[t,t] })
  (B:Nat) (i:TypeInfo) (z:ah6) (h1:P.underlying t=some (.slice 72)) (h2:P.info? 72=some i) (h3:i.zero=some z) (h4:i.size=2) (h5:i.bytes=16) (h6:z.cells.size=2)
  (g:Nat) (hs:a.eval s=ai1 (some ⟨g,0,none⟩) 0 0) (hO:Mo B wa (some ⟨g,0,none⟩) 0 0 []) (ao:Option Addr) (n ae:Nat) (ps:List (Int×Int)) (hx:a.eval x=ai1 ao n ae) (hS:Ml wa ao n ae ps)
  (hb:ah7 B w0 wa) (hB:B<=wa.heap.size)
  (hK:∀eP cap' w',Ml w' eP n cap' ps->ah7 B w0 w'->wa.grownBy w' (some g)->K (a.put o.dst (ai1 eP n cap')) w'):
  Oper.wp P o a wa K Q:=by
 cases ao with
 |none=>
  have hn:n=0:=by have:=hS.nil rfl;have:=hS.le;omega
  have hc:ae=0:=hS.nil rfl;subst hn;subst hc;have hxs:ps=[]:=List.eq_nil_of_length_eq_zero hS.len;subst hxs;have hrun:=run_append_owned_none (P:=P) wa B t o.type 72 i 2 h1 h2 _ 0 [] hO.row;unfold Oper.wp;simp[execOp,hop,resolve,invoke,builtin,hs,hx,hrun,Result.andThen];exact hK _ _ wa hO.ml hb (World.grownBy.refl _ _)
 |some ad=>
  refine wp_append_own wa s x t hop B 72 i z 2 16 h1 h2 h3 h4 h5 h6 (by decide) _ 0 [] hs hO.row ad n ae (dW ps) hx (by rw[gD,hS.len]) ?_ (kE ps) (by have:=hS.big;unfold maxLen;omega) (by have:=hS.big;omega) hB ?_
  ·intro j u hj;have hjl:j<n*2:=by have:=(List.getElem?_eq_some_iff.1 hj).1;rwa[gD,hS.len]at this
   have hc:=hS.cells ad rfl (j/2) (by omega);have hp:=nw ps (j/2) (by rw[hS.len];omega);rcases(show j=j/2*2∨j=j/2*2+1 by omega)with e|e
   ·rw[<-e]at hc hp;rw[hc.1,<-hp.1,hj]
   ·rw[<-e]at hc hp;rw[hc.2,<-hp.2,hj]
  ·intro v' w' hown' hgrow _;obtain⟨eP,cap',rfl⟩:=lC hown';rw[Nat.zero_add]at hown' ⊢;have hM:Mo B w' eP n cap' ps:=⟨by simpa using hown',hS.big,hS.wf⟩;exact hK eP cap' w' hM.ml (hb.grown hgrow hB λk hk=>(hO.row.lt k hk).1) hgrow
theorem Mo.empty (w:ah5):Mo w.heap.size (w.alloc (.cells #[] 72)) (some ⟨w.heap.size,0,none⟩) 0 0 []:=
 ⟨World.ownsRow_made w #[] 0 (ak2 _) (ak1 _) rfl,ak1 _,λ_ h=>by cases h⟩
theorem Jm [Ol] {K:Nat} {bo:Z'} {l cb:Nat} {q:List ai} {w:ah5} (hq:Pz K w bo l cb q) (hn:l<=100000) (hK:K<=9000):
  Calls Tryz.prog 38 #[ai1 bo l cb] w (Yl K w q):=by
 obtain⟨i0,hi,hz0,hz1,hz2⟩:=info_parts Tryz.Qu;obtain⟨j0,hi2,hy0,hy1,hy2⟩:=info_parts Tryz.mv;obtain⟨bF,hG,hT⟩:=hq.ex;have hle:=hG.le;have hbig:=hG.big;have Jo:=hq.len;have Ui:=hid hG;have Uj:=hid hT;have yu:=hid Jo;clear hq hG hT Jo;go_enter Tryz.func38,Tryz.ntmps38;go_wp2;go_loopw [3,4] (λo i wr=>∃(k c2:Nat) (oo:Option Addr) (zs:List (List ah6)),i= .int .i64 k/\ o=ai1 oo k c2/\ k<=l/\ Hid (gM w.heap.size 70 3 wr oo k c2 zs/\ bV (gL K wr) zs (q.take k)/\ ah7 w.heap.size w wr)) (λ_ i _=>l-(intOf i).toNat)
 case atStart=>exact⟨0,0,none,[],rfl,rfl,ak1 _,gM.nil _ _ _ _,trivial,ah9 _ _⟩
 case round=>
  obtain⟨k,c2,oo,zs,rfl,rfl,hk,HS⟩:=hrel;by_cases hkl:k<l
  ·obtain⟨b,off,rfl,_,hcl⟩:=Ui.o.at (by omega);obtain⟨xm,xa,xn,xc,xp,xq,xr,hv,tz,tb,qE⟩:=bV.get (0,[]) Uj.o k (by rw[yu.o];assumption)
   have hcells:∀V:ah5,ah7 w.heap.size w V->(V.cell? ⟨b,off+k*3,none⟩=some (ai4 xm)/\ V.cell? ⟨b,off+k*3+1,none⟩=some (ai1 xa xn xc)/\ V.cell? ⟨b,off+k*3+2,none⟩=some (ai1 xp xq xr)):=by
    intro V hV;have h0:=hcl V hV k (by assumption) 0 (by omega);have h1:=hcl V hV k (by assumption) 1 (by omega);have h2:=hcl V hV k (by assumption) 2 (by omega);rw[hv]at h0 h1 h2;exact⟨h0,h1,h2⟩
   have vo:=hid hcells;clear hcl hv hcells;have AL:k<q.length:=by rw[yu.o];assumption
   have Jp:q.getD k (0,[])=q[k]:=by simp[ai6,ai7 AL]
   rw[Jp]at tz tb qE;have HZP:=hid tz;have PN:=hid tb;have PM:=hid qE;clear tz tb qE Jp;have HQ:Hid (q.take (k+1)=q.take k++[q[k]]):=ai9 AL;go_upto_region 5 with(fail)
   refine wp_region_held_drew (S:=λw'=>(w'.cell? ⟨b,off+k*3,none⟩=some (ai4 xm)/\ w'.cell? ⟨b,off+k*3+1,none⟩=some (ai1 xa xn xc)/\ w'.cell? ⟨b,off+k*3+2,none⟩=some (ai1 xp xq xr))) (by kernel_rfl) (vo.o _ HS.o.2.2.drew) (λhH=>?_);refine ah (λw4 hW=>?_);have jR:Hid (gM w.heap.size 70 3 w4 oo k c2 zs/\ bV (gL K w4) zs (q.take k)/\ ah7 w.heap.size w w4):=by rw[hW];exact⟨HS.o.1.below (ah9 _ _).drew,HS.o.2.1.imp (λ_ _ h=>h.below (ah9 _ _).drew),HS.o.2.2.drew⟩
   rw[<-hW]at hH;clear hW HS;refine aT 0 hH ?_;try simp only[ax]
   refine aT 1 hH ?_;try simp only[ax]
   refine aT 2 hH ?_;try simp only[ax]
   refine aT 3 hH ?_;try simp only[ax]
   refine aT 4 hH ?_;try simp only[ax]
   refine aT 5 hH ?_;try simp only[ax]
   refine aT 8 hH ?_;try simp only[ax]
   refine aT 9 hH ?_;try simp only[ax]
   refine aT 10 hH ?_;try simp only[ax]
   refine aT 11 hH ?_;try simp only[ax]
   refine aT 12 hH ?_;try simp only[ax]
   refine wpAnyH_ready (rs:=[6,7]) (by kernel_rfl) (by simp) (aM rfl (λKK hK=>?_) (aM rfl (λKK hK=>?_) AllReadyH.nil))
   ·go_simp;refine(my ((HZP.o.below jR.o.2.2).zx PN.o (by omega))).mono ?_;rintro e w5 ⟨rm,ra,rn,rc,rfl,hX,hB⟩;have PK:=hid hX;have iy:Hid (gM w.heap.size 70 3 w5 oo k c2 zs/\ bV (gL K w5) zs (q.take k)/\ ah7 w.heap.size w w5):=⟨jR.o.1.below hB,jR.o.2.1.imp (λ_ _ h=>h.below hB),Below.ar jR.o.2.2 hB⟩;clear jR hX hB;go_wp2_with fail;clear hH;refine hK.o _ _ (vo.o _ iy.o.2.2) λhH=>?_;clear hK KK
    try simp only[ax]
    refine ag 7 rfl (by kernel_rfl) (λKK hK=>?_);go_simp;clear hH;refine hK.o _ _ (vo.o _ (iy.o.2.2.trans (ai0 (af w5 _) iy.o.2.2.size))) λhH=>?_;clear hK KK
    try simp only[ax]
    refine ah (λw6 hW=>?_);obtain⟨g,hg⟩:∃g,g=w5.heap.size:=⟨_,rfl⟩;have mj:Hid (gM w.heap.size 70 3 w6 oo k c2 zs/\ bV (gL K w6) zs (q.take k)/\ ah7 w.heap.size w w6):=by rw[hW];exact⟨iy.o.1.below (af w5 _),iy.o.2.1.imp (λ_ _ h=>h.below (af w5 _)),iy.o.2.2.alloc iy.o.2.2.size _⟩
    have Ym:Hid (Cn w6 rm ra rn rc (q[k]).1):=by rw[hW];exact PK.o.below (af w5 _)
    have Yn:Hid (Mo w.heap.size w6 (some ⟨g,0,none⟩) 0 0 []):=by rw[hW,hg];exact(Mo.empty w5).mono iy.o.2.2.size
    have xX:Hid (aS w6 g [] 72):=by rw[hW,hg];exact aS.cS w5 [] _
    rw[<-hW]at hH;rw[<-hg];clear hW hg iy PK;refine ag 13 rfl (by kernel_rfl) (λKK hK=>?_);refine H8 w6 w (.tmp 18) (.tmp 23) 68 rfl w.heap.size j0 (.agg #[.int .i64 0,.int .i64 0]) Tryz.underlying68 hi2 hy0 hy1 hy2 rfl g rfl Yn.o _ _ _ _ rfl (PM.o.below mj.o.2.2) mj.o.2.2 mj.o.2.2.size ?_;intro ma mc w7 Yo Yp Qv;have dU:Hid (gM w.heap.size 70 3 w7 oo k c2 zs/\ bV (gL K w7) zs (q.take k)/\ ah7 w.heap.size w w7):=⟨mj.o.1.TL xX.o (by decide) Qv,mj.o.2.1.imp (λ_ _ h=>gL.fM xX.o.pP Qv h),Yp⟩;have yU:Hid (gL K w7 [ai4 rm,ai1 ra rn rc,ai1 ma xq mc] q[k]):=⟨_,_,_,_,_,_,_,rfl,Ym.o.fM xX.o.pP Qv,PN.o,Yo⟩;clear mj Ym Yn xX Yo Yp Qv;clear hH;refine hK.o _ _ (vo.o _ dU.o.2.2) λhH=>?_;clear hK KK
    try simp only[ax]
    refine aT 14 hH ?_;try simp only[ax]
    refine ag 15 rfl (by kernel_rfl) (λKK hK=>?_);go_simp;clear hH;refine hK.o _ _ (vo.o _ (dU.o.2.2.trans (ai0 (af w7 _) dU.o.2.2.size))) λhH=>?_;clear hK KK
    try simp only[ax]
    refine ag 16 rfl (by kernel_rfl) (λKK hK=>?_);refine rW _ w (.tmp 11) (.tmp 26) 23 rfl w.heap.size 70 3 56 i0 (.agg #[ai4 false,ai1 none 0 0,ai1 none 0 0]) Tryz.underlying23 hi hz0 hz1 hz2 rfl (by omega) oo k c2 zs rfl (dU.o.1.below (af w7 _)) _ 1 1 [[ai4 rm,ai1 ra rn rc,ai1 ma xq mc]] rfl (Gl.lit 3 w7 _ _ rfl (by simp[ai2])) (dU.o.2.2.alloc dU.o.2.2.size _) (by have:=dU.o.2.2.size;simp;omega) (by omega) (by omega) (by simp[ai3,bB]) (by simp[bB]) ?_;intro o8 c8 w8 hO mi uT;have Fh:Hid (gM w.heap.size 70 3 w8 o8 (k+1) c8 (zs++[[ai4 rm,ai1 ra rn rc,ai1 ma xq mc]])/\ bV (gL K w8) (zs++[[ai4 rm,ai1 ra rn rc,ai1 ma xq mc]]) (q.take (k+1))/\ ah7 w.heap.size w w8):=⟨hO,by rw[HQ.o];exact bV.append (dU.o.2.1.imp (λ_ _ h=>(h.below (af w7 _)).eZ (dU.o.1.below (af w7 _)) uT)) ⟨(yU.o.below (af w7 _)).eZ (dU.o.1.below (af w7 _)) uT,trivial⟩,mi⟩;clear dU hO mi uT yU HQ;clear hH;refine hK.o _ _ (vo.o _ Fh.o.2.2) λhH=>?_;clear hK KK
    try simp only[ax]
    refine aT 17 hH ?_;try simp only[ax]
    refine wpAnyH_done (by kernel_rfl) ?_ _
    go_wp2_with fail;go_roundw
    case rel=>exact⟨k+1,c8,o8,_,by go_num,rfl,by omega,Fh.o⟩
    case measure=>simp[intOf];omega
   ·go_simp;clear hH;refine hK.o _ _ (vo.o _ (jR.o.2.2.trans (ai0 (af w4 _) jR.o.2.2.size))) λhH=>?_;clear hK KK
    try simp only[ax]
    refine ah (λw9 hW=>?_);obtain⟨g,hg⟩:∃g,g=w4.heap.size:=⟨_,rfl⟩;have vq:Hid (gM w.heap.size 70 3 w9 oo k c2 zs/\ bV (gL K w9) zs (q.take k)/\ ah7 w.heap.size w w9):=by rw[hW];exact⟨jR.o.1.below (af w4 _),jR.o.2.1.imp (λ_ _ h=>h.below (af w4 _)),jR.o.2.2.alloc jR.o.2.2.size _⟩
    have Yq:Hid (Mo w.heap.size w9 (some ⟨g,0,none⟩) 0 0 []):=by rw[hW,hg];exact(Mo.empty w4).mono jR.o.2.2.size
    have Qw:Hid (aS w9 g [] 72):=by rw[hW,hg];exact aS.cS w4 [] _
    rw[<-hW]at hH;rw[<-hg];clear hW hg jR;refine ag 6 rfl (by kernel_rfl) (λKK hK=>?_);go_simp;refine(my ((HZP.o.below vq.o.2.2).zx PN.o (by omega))).mono ?_;rintro e w6 ⟨rm,ra,rn,rc,rfl,hX,hB⟩;have Ym:=hid hX;have mj:Hid (gM w.heap.size 70 3 w6 oo k c2 zs/\ bV (gL K w6) zs (q.take k)/\ ah7 w.heap.size w w6):=⟨vq.o.1.below hB,vq.o.2.1.imp (λ_ _ h=>h.below hB),Below.ar vq.o.2.2 hB⟩;have Yn:=hid (Yq.o.below hB);have xX:=hid (Qw.o.below hB);clear vq Yq Qw hX hB;go_wp2_with fail;clear hH;refine hK.o _ _ (vo.o _ mj.o.2.2) λhH=>?_;clear hK KK
    try simp only[ax]
    refine ag 13 rfl (by kernel_rfl) (λKK hK=>?_);refine H8 w6 w (.tmp 18) (.tmp 23) 68 rfl w.heap.size j0 (.agg #[.int .i64 0,.int .i64 0]) Tryz.underlying68 hi2 hy0 hy1 hy2 rfl g rfl Yn.o _ _ _ _ rfl (PM.o.below mj.o.2.2) mj.o.2.2 mj.o.2.2.size ?_;intro ma mc w7 Yo Yp Qv;have dU:Hid (gM w.heap.size 70 3 w7 oo k c2 zs/\ bV (gL K w7) zs (q.take k)/\ ah7 w.heap.size w w7):=⟨mj.o.1.TL xX.o (by decide) Qv,mj.o.2.1.imp (λ_ _ h=>gL.fM xX.o.pP Qv h),Yp⟩;have yU:Hid (gL K w7 [ai4 rm,ai1 ra rn rc,ai1 ma xq mc] q[k]):=⟨_,_,_,_,_,_,_,rfl,Ym.o.fM xX.o.pP Qv,PN.o,Yo⟩;clear mj Ym Yn xX Yo Yp Qv;clear hH;refine hK.o _ _ (vo.o _ dU.o.2.2) λhH=>?_;clear hK KK
    try simp only[ax]
    refine aT 14 hH ?_;try simp only[ax]
    refine ag 15 rfl (by kernel_rfl) (λKK hK=>?_);go_simp;clear hH;refine hK.o _ _ (vo.o _ (dU.o.2.2.trans (ai0 (af w7 _) dU.o.2.2.size))) λhH=>?_;clear hK KK
    try simp only[ax]
    refine ag 16 rfl (by kernel_rfl) (λKK hK=>?_);refine rW _ w (.tmp 11) (.tmp 26) 23 rfl w.heap.size 70 3 56 i0 (.agg #[ai4 false,ai1 none 0 0,ai1 none 0 0]) Tryz.underlying23 hi hz0 hz1 hz2 rfl (by omega) oo k c2 zs rfl (dU.o.1.below (af w7 _)) _ 1 1 [[ai4 rm,ai1 ra rn rc,ai1 ma xq mc]] rfl (Gl.lit 3 w7 _ _ rfl (by simp[ai2])) (dU.o.2.2.alloc dU.o.2.2.size _) (by have:=dU.o.2.2.size;simp;omega) (by omega) (by omega) (by simp[ai3,bB]) (by simp[bB]) ?_;intro o8 c8 w8 hO mi uT;have Fh:Hid (gM w.heap.size 70 3 w8 o8 (k+1) c8 (zs++[[ai4 rm,ai1 ra rn rc,ai1 ma xq mc]])/\ bV (gL K w8) (zs++[[ai4 rm,ai1 ra rn rc,ai1 ma xq mc]]) (q.take (k+1))/\ ah7 w.heap.size w w8):=⟨hO,by rw[HQ.o];exact bV.append (dU.o.2.1.imp (λ_ _ h=>(h.below (af w7 _)).eZ (dU.o.1.below (af w7 _)) uT)) ⟨(yU.o.below (af w7 _)).eZ (dU.o.1.below (af w7 _)) uT,trivial⟩,mi⟩;clear dU hO mi uT yU HQ;clear hH;refine hK.o _ _ (vo.o _ Fh.o.2.2) λhH=>?_;clear hK KK
    try simp only[ax]
    refine aT 17 hH ?_;try simp only[ax]
    refine wpAnyH_done (by kernel_rfl) ?_ _
    go_wp2_with fail;go_roundw
    case rel=>exact⟨k+1,c8,o8,_,by go_num,rfl,by omega,Fh.o⟩
    case measure=>simp[intOf];omega
  ·obtain rfl:k=l:=by omega
   go_wp2_with fail;go_ret;refine⟨_,_,_,rfl,⟨_,HS.o.1.gl,?_⟩,HS.o.2.2⟩;have h:=HS.o.2.1;rw[aj7 (by rw[yu.o];exact ak2 _)]at h;exact h
open Lib (hid)
def gO:(Bool×List Nat)×List (Int×Int):=((false,[]),[])
abbrev kr:=(Bool×List Nat)×List (Int×Int)
def iP (t:kr):ai:=(cV t.1.1 (au t.1.2),t.2)
def ir (t:ai):kr:=((decide (t.1<0),aq t.1.natAbs),t.2)
def TY [Ol] (w:ah5) (vs:List ah6) (t:kr):Prop:=
 ∃ao n ae bo k cb,vs=[ai4 t.1.1,ai1 ao n ae,ai1 bo k cb]/\ Sl w ao n ae t.1.2/\ Ml w bo k cb t.2
theorem TY.below [Ol] {w w':ah5} {vs:List ah6} {t:kr} (h:TY w vs t) (hb:ah7 w.heap.size w w'):TY w' vs t:=by
 obtain⟨ao,n,ae,bo,k,cb,h1,h2,h4⟩:=h;exact⟨ao,n,ae,bo,k,cb,h1,h2.below hb,h4.below hb⟩
theorem gL.TM [Ol] {K:Nat} {w:ah5} {vs:List ah6} {t:ai} (h:gL K w vs t):TY w vs (ir t):=by
 obtain⟨m,ao,n,ae,bo,k,cb,h1,h2,h3,h4⟩:=h;exact⟨ao,n,ae,bo,k,cb,by rw[h1,h2.neg];rfl,h2.sl,h4⟩
theorem pT (t:ai):iP (ir t)=t:=by
 unfold iP ir;simp only[av,vr]
structure Pr [Ol] (w:ah5) (ao:Option Addr) (n ae:Nat) (ts:List kr):Prop where
 ex:∃bF,Gl 3 w ao n ae bF/\ bV (TY w) bF ts
theorem Pr.len [Ol] {w:ah5} {ao:Z'} {n ae:Nat} {p:List kr} (h:Pr w ao n ae p):p.length=n:=by
 obtain⟨bF,h1,h2⟩:=h.ex;rw[<-h2.len,h1.len]
theorem Pr.below [Ol] {w w':ah5} {ao:Z'} {n ae:Nat} {p:List kr} (h:Pr w ao n ae p) (hb:ah7 w.heap.size w w'):Pr w' ao n ae p:=by
 obtain⟨bF,h1,h2⟩:=h.ex;exact⟨bF,h1.below hb,h2.imp λv a h=>h.below hb⟩
theorem bV.map {α β:Type} {R:List ah6->α->Prop} {S:List ah6->β->Prop} (f:α->β):∀{vs:List (List ah6)} {l:List α},(∀v a,a∈l->R v a->S v (f a))->bV R vs l->bV S vs (l.map f)
 |[],[],_,_=>trivial
 | _::_,_::_,hRS,h=>⟨hRS _ _ (by simp) h.1,bV.map f (λv a ha=>hRS v a (by simp[ha])) h.2⟩
 |[],_::_,_,h=>h.elim
 | _::_,[],_,h=>h.elim
theorem Pc.TM [Ol] {K:Nat} {w:ah5} {ao:Z'} {n ae:Nat} {p:List ai} (h:Pc K w ao n ae p):Pr w ao n ae (p.map ir):=by
 obtain⟨bF,h1,h2⟩:=h.ex;exact⟨bF,h1,bV.map ir (λv a _ h=>h.TM) h2⟩
theorem MB [Ol] (r:Bool) {m k:Bool} {ao bo:Z'} {n ae l cb:Nat} {xs ys:List Nat} {w:ah5} (hs:Sl w ao n ae xs) (ht:Sl w bo l cb ys) (h:decide ((m,xs)=(k,ys))=r):
  Calls Tryz.prog 53 #[.agg #[ai4 m,ai1 ao n ae],.agg #[ai4 k,ai1 bo l cb]] w (cr (ai4 r) w):=by
 by_cases hmk:m=k
 ·subst hmk;exact wh r hs ht (by rw[<-h];unfold oH;simp)
 ·rw[show decide ((m,xs)=(k,ys))=false from decide_eq_false (λe=>hmk (congrArg Prod.fst e))]at h;subst h;exact yX hmk
theorem Jn [Ol] (r:Bool) {ao bo:Z'} {n ae l cb:Nat} {ps qs:List kr} {w:ah5} (hp:Pr w ao n ae ps) (hq:Pr w bo l cb qs) (h:decide (ps=qs)=r):
  Calls Tryz.prog 23 #[ai1 ao n ae,ai1 bo l cb] w (cr (ai4 r) w):=by
 obtain⟨bF,hG,hT⟩:=hp.ex;obtain⟨uss,hG2,Yd⟩:=hq.ex;have hbig:=hG.big;have hbig2:=hG2.big;have yu:=hid hp.len;have Ff:=hid hq.len;have Ui:=hid hG;have Uj:=hid hT;have Wu:=hid hG2;have Qr:=hid Yd;have HR:=hid h;clear hp hq hG hT hG2 Yd h;by_cases hnl:n=l
 ·subst hnl;have hd:((n:Int)==(n:Int))=true:=beq_self_eq_true _;have hd2:((n:Int) !=(n:Int))=false:=by simp
  go_enter Tryz.func23,Tryz.ntmps23;go_wp2;go_loopw [5] (λi wr=>∃k:Nat,i= .int .i64 k/\ k<=n/\ Hid (ps.take k=qs.take k)/\ Hid (ah7 w.heap.size w wr)) (λi _=>n-(intOf i).toNat)
  case atStart=>exact⟨0,rfl,ak1 _,by simp[Hid],ah9 _ _⟩
  case round=>
   obtain⟨k,rfl,hk,HE,HB⟩:=hrel;by_cases hkn:k<n
   ·obtain⟨b,off,rfl,_,hcl⟩:=Ui.o.at (by omega);obtain⟨xa,xn,xc,xp,xq,xr,hv,tz,qE⟩:=bV.get gO Uj.o k (by rw[yu.o];omega);have AL:k<ps.length:=by rw[yu.o];omega
    have Jp:ps.getD k gO=ps[k]:=by simp[ai6,ai7 AL]
    have hcells:∀V:ah5,ah7 w.heap.size w V->(V.cell? ⟨b,off+k*3,none⟩=some (ai4 (ps.getD k gO).1.1)/\ V.cell? ⟨b,off+k*3+1,none⟩=some (ai1 xa xn xc)/\ V.cell? ⟨b,off+k*3+2,none⟩=some (ai1 xp xq xr)):=by
     intro V hV;have h0:=hcl V hV k (by omega) 0 (by omega);have h1:=hcl V hV k (by omega) 1 (by omega);have h2:=hcl V hV k (by omega) 2 (by omega);rw[hv]at h0 h1 h2;exact⟨h0,h1,h2⟩
    rw[Jp]at tz qE;obtain⟨xm,hxm⟩:∃xm,xm=(ps.getD k gO).1.1:=⟨_,rfl⟩;rw[<-hxm]at hcells;rw[Jp]at hxm;have vo:=hid hcells;have MC:=hid tz;have PM:=hid qE;have HNP:=hid hxm;clear hcl hv hcells tz qE Jp hxm;obtain⟨d,EK,rfl,_,hcl⟩:=Wu.o.at (by omega);obtain⟨ya,yn,yc,yp,yq,yr,hv,tz,qE⟩:=bV.get gO Qr.o k (by rw[Ff.o];omega);have Te:k<qs.length:=by rw[Ff.o];omega
    have Wv:qs.getD k gO=qs[k]:=by simp[ai6,ai7 Te]
    have hcells:∀V:ah5,ah7 w.heap.size w V->(V.cell? ⟨d,EK+k*3,none⟩=some (ai4 (qs.getD k gO).1.1)/\ V.cell? ⟨d,EK+k*3+1,none⟩=some (ai1 ya yn yc)/\ V.cell? ⟨d,EK+k*3+2,none⟩=some (ai1 yp yq yr)):=by
     intro V hV;have h0:=hcl V hV k (by omega) 0 (by omega);have h1:=hcl V hV k (by omega) 1 (by omega);have h2:=hcl V hV k (by omega) 2 (by omega);rw[hv]at h0 h1 h2;exact⟨h0,h1,h2⟩
    rw[Wv]at tz qE;obtain⟨ym,hym⟩:∃ym,ym=(qs.getD k gO).1.1:=⟨_,rfl⟩;rw[<-hym]at hcells;rw[Wv]at hym;have PO:=hid hcells;have HSQ:=hid tz;have Ye:=hid qE;have HNQ:=hid hym;clear hcl hv hcells tz qE Wv hym;have HSM:Hid (∀V:ah5,ah7 w.heap.size w V->Calls Tryz.prog 53 #[.agg #[ai4 xm,ai1 xa xn xc],.agg #[ai4 ym,ai1 ya yn yc]] V (cr (.bool (decide ((ps[k]).1=(qs[k]).1))) V)):=λV hV=>by rw[HNP.o,HNQ.o];exact MB _ (MC.o.below hV) (HSQ.o.below hV) rfl
    have Mh:Hid (∀V:ah5,ah7 w.heap.size w V->Calls Tryz.prog 67 #[ai1 xp xq xr,ai1 yp yq yr] V (cr (.bool (decide ((ps[k]).2=(qs[k]).2))) V)):=λV hV=>Jq _ (PM.o.below hV) (Ye.o.below hV) rfl
    obtain⟨A,hA⟩:∃A,A=decide ((ps[k]).1=(qs[k]).1):=⟨_,rfl⟩;obtain⟨C,hC⟩:∃C,C=decide ((ps[k]).2=(qs[k]).2):=⟨_,rfl⟩;rw[<-hA]at HSM;rw[<-hC]at Mh;have HA:=hid hA;have HC:=hid hC;clear hA hC;go_upto_region 6 with(fail)
    refine wp_region_held_drew (S:=λw'=>(w'.cell? ⟨b,off+k*3,none⟩=some (ai4 xm)/\ w'.cell? ⟨b,off+k*3+1,none⟩=some (ai1 xa xn xc)/\ w'.cell? ⟨b,off+k*3+2,none⟩=some (ai1 xp xq xr))/\ (w'.cell? ⟨d,EK+k*3,none⟩=some (ai4 ym)/\ w'.cell? ⟨d,EK+k*3+1,none⟩=some (ai1 ya yn yc)/\ w'.cell? ⟨d,EK+k*3+2,none⟩=some (ai1 yp yq yr))) (by kernel_rfl) ⟨vo.o _ HB.o.drew,PO.o _ HB.o.drew⟩ (λhH=>?_);refine ah (λw4 hW=>?_);have lx:Hid (ah7 w.heap.size w w4):=by rw[hW];exact HB.o.drew
    rw[<-hW]at hH;clear hW HB;refine aT 0 hH ?_;try simp only[ax]
    refine aT 1 hH ?_;try simp only[ax]
    refine aT 2 hH ?_;try simp only[ax]
    refine aT 3 hH ?_;try simp only[ax]
    refine aT 4 hH ?_;try simp only[ax]
    refine aT 5 hH ?_;try simp only[ax]
    refine aT 6 hH ?_;try simp only[ax]
    refine aT 7 hH ?_;try simp only[ax]
    refine aT 8 hH ?_;try simp only[ax]
    refine aT 9 hH ?_;try simp only[ax]
    refine ag 10 rfl (by kernel_rfl) (λKK hK=>?_);go_simp;refine(HSM.o _ lx.o).mono ?_;rintro e w5 ⟨rfl,hB⟩;have oq:=hid (Below.ar lx.o hB);clear hB lx;go_wp2_with fail;clear hH;refine hK.o _ _ ⟨vo.o _ oq.o,PO.o _ oq.o⟩ λhH=>?_;clear hK KK
    try simp only[ax]
    cases A with
    |true=>
     refine aT 11 hH ?_;try simp only[ax]
     refine aT 12 hH ?_;try simp only[ax]
     refine aT 13 hH ?_;try simp only[ax]
     refine aT 14 hH ?_;try simp only[ax]
     refine aT 15 hH ?_;try simp only[ax]
     refine aT 16 hH ?_;try simp only[ax]
     refine aT 17 hH ?_;try simp only[ax]
     refine aT 18 hH ?_;try simp only[ax]
     refine aT 19 hH ?_;try simp only[ax]
     refine aT 20 hH ?_;try simp only[ax]
     refine aT 21 hH ?_;try simp only[ax]
     refine aT 22 hH ?_;try simp only[ax]
     refine ag 23 rfl (by kernel_rfl) (λKK hK=>?_);go_simp;refine(Mh.o _ oq.o).mono ?_;rintro e w6 ⟨rfl,hB⟩;have uU:=hid (Below.ar oq.o hB);clear hB oq;go_wp2_with fail;clear hH;refine hK.o _ _ ⟨vo.o _ uU.o,PO.o _ uU.o⟩ λhH=>?_;clear hK KK
     try simp only[ax]
     refine aT 24 hH ?_;try simp only[ax]
     refine aT 25 hH ?_;try simp only[ax]
     refine wpAnyH_done (by kernel_rfl) ?_ _
     cases C with
     |true=>
      have HE2:Hid (ps.take (k+1)=qs.take (k+1)):=by
       rw[Hid,ai9 AL,ai9 Te,HE.o,Prod.ext (of_decide_eq_true HA.o.symm) (of_decide_eq_true HC.o.symm)]
      go_wp2_with fail;go_roundw
      case rel=>exact⟨k+1,by go_num,by omega,HE2,uU⟩
      case measure=>simp[intOf];omega
     |false=>
      have HR2:Hid (r=false):=by
       rw[Hid,<-HR.o];exact decide_eq_false λe=>of_decide_eq_false HC.o.symm (by subst e;rfl)
      go_wp2_with fail;go_ret;have hr:=HR2.o;subst hr;exact⟨rfl,uU.o⟩
    |false=>
     have HR2:Hid (r=false):=by
      rw[Hid,<-HR.o];exact decide_eq_false λe=>of_decide_eq_false HA.o.symm (by subst e;rfl)
     refine aT 11 hH ?_;try simp only[ax]
     refine aT 12 hH ?_;try simp only[ax]
     refine yY 13 hH ?_;try simp only[ax]
     refine yY 14 hH ?_;try simp only[ax]
     refine yY 15 hH ?_;try simp only[ax]
     refine yY 16 hH ?_;try simp only[ax]
     refine yY 17 hH ?_;try simp only[ax]
     refine yY 18 hH ?_;try simp only[ax]
     refine yY 19 hH ?_;try simp only[ax]
     refine yY 20 hH ?_;try simp only[ax]
     refine yY 21 hH ?_;try simp only[ax]
     refine yY 22 hH ?_;try simp only[ax]
     refine yY 23 hH ?_;try simp only[ax]
     refine yY 24 hH ?_;try simp only[ax]
     refine aT 25 hH ?_;try simp only[ax]
     refine wpAnyH_done (by kernel_rfl) ?_ _
     go_wp2_with fail;go_ret;have hr:=HR2.o;subst hr;exact⟨rfl,oq.o⟩
   ·obtain rfl:k=n:=by omega
    have HR2:Hid (r=true):=by
     rw[Hid,<-HR.o];have h:=HE.o;rw[aj7 (by rw[yu.o];exact ak2 _),aj7 (by rw[Ff.o];exact ak2 _)]at h;exact decide_eq_true h
    go_wp2_with fail;go_ret;have hr:=HR2.o;subst hr;exact⟨rfl,HB.o⟩
 ·have HR2:Hid (r=false):=by
   rw[Hid,<-HR.o];exact decide_eq_false λe=>hnl (by rw[<-yu.o,<-Ff.o,e])
  have hd:((n:Int)==(l:Int))=false:=by simpa using(by omega:¬(n:Int)=l)
  have hd2:((n:Int) !=(l:Int))=true:=by simpa using(by omega:¬(n:Int)=l)
  go_enter Tryz.func23,Tryz.ntmps23;go_wp2_with fail;go_ret;have hr:=HR2.o;subst hr;exact⟨rfl,ah9 _ _⟩
end Go.Proofs.YtmenbpmciblnlaaGreatDoor

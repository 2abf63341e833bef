/- PlGat1, PlGat, PlOf, PlOf2, PlPowP -/
import Derived.Test.YthdhjckangekoaaGreatGPa
import Derived.Test.YthdhjckangekoaaGreatGP6
import Derived.Test.YthdhjckangekoaaGreatGPb
import Derived.Test.YthdhjckangekoaaGreatVProdP
set_option maxHeartbeats 40000000
set_option maxRecDepth 100000
namespace Go.Proofs.YthdhjckangekoaaGreat
open Go.RowKit
theorem Fv [Ol] {K:Nat} (hK:K<=1000000) {m:Bool} {ao:Option Addr} {n cap:Nat} {bo:Option Addr} {l cb:Nat} {t:Term} {w:World} (hC:Cn w m ao n cap t.1) (hb:Bd t.1 K):
  Calls Tryz.prog 173 #[.agg #[.bool m,.slice ao n cap,.slice bo l cb]] w (bN (.bool (t.1==0)) w):=by
 obtain⟨z,hz⟩:∃z,t.1=z:=⟨_,rfl⟩;obtain⟨s,hs⟩:∃s,z.sign=s:=⟨_,rfl⟩;obtain⟨b,hb0⟩:∃b,(z==0)=b:=⟨_,rfl⟩;rw[hz]at hC hb ⊢
 have hsb:(s==0)=b:=by
  rw[<-hb0,<-hs];by_cases h0:z=0
  ·subst h0;rfl
  ·rw[beq_eq_false_iff_ne.2 h0,beq_eq_false_iff_ne.2 (fun e=>h0 (Int.sign_eq_zero_iff_zero.1 e))]
 rw[hb0];have HC:=Lib.hid (hC.cx hb hK);have HS:=Lib.hid hs;clear hC hb hz hs hb0;go_enter Tryz.func173,Tryz.ntmps173;go_upto_region 1 with(fail)
 refine au (fun W hW=>?_);obtain⟨a1,hB⟩:=pF w [.bool m,.slice ao n cap,.slice bo l cb] 54;rw[<-hW]at a1 hB;clear hW;obtain⟨c10,c11,c12⟩:=a1.c3;have HB:=Lib.hid hB;clear a1 hB;go_wp2_with fail;refine(uf s (HC.out.below HB.out).nx HS.out).mono ?_;rintro e w' ⟨rfl,hB⟩;have HB2:=Lib.hid (Below.steps HB.out hB);clear hB HB c10 c11 c12;go_wp2_with fail;go_ret;exact⟨rfl,HB2.out⟩
open Lib (hid)
theorem LX {p:List Term} {r:Nat} (h:p.length=r+1):p=p.take r++[p.getD r (0,[])]:=by
 conv=>lhs;rw[<-List.take_length (l:=p),h,List.take_succ_eq_append_getElem (by omega),<-bJ (0,[]) (by omega)]
theorem Fw:∀(l p:List Term) (u:Term),u∈l.foldl gL p->(∃s∈p,s.2=u.2)∨ ∃s∈l,s.2=u.2
 |[],p,u,h=> .inl ⟨u,h,rfl⟩
 |t::l,p,u,h=>by
  rw[List.foldl_cons]at h;rcases Fw l _ u h with⟨s,hs,e⟩|⟨s,hs,e⟩
  ·rcases j4 p t with⟨e2,_⟩|⟨q,v,rfl,hv,e2⟩
   ·rw[e2]at hs;rcases List.mem_append.1 hs with h1|h1
    ·exact .inl ⟨s,h1,e⟩
    ·rw[List.mem_singleton]at h1;subst h1;exact .inr ⟨s,by simp,e⟩
   ·rw[e2]at hs;rcases List.mem_append.1 hs with h1|h1
    ·exact .inl ⟨s,by simp[h1],e⟩
    ·rw[List.mem_singleton]at h1;subst h1;exact .inr ⟨t,by simp,e⟩
  ·exact .inr ⟨s,by simp[hs],e⟩
theorem SE {l:List Term} (h:∀s∈l,aJ 0 s.2=true):∀u∈ja l,aJ 0 u.2=true:=fun u hu=>by
 rcases Fw l [] u hu with⟨s,hs,_⟩|⟨s,hs,e⟩
 ·cases hs
 ·rw[<-e];exact h s hs
theorem Xp {p q:List Term} {u t:Term} (h:p=q++[u]) (hn:u.2≠t.2):gL p t=p++[t]:=by
 rcases j4 p t with⟨e,_⟩|⟨q2,v,rfl,hv,_⟩
 ·exact e
 ·have:=(List.append_inj' h rfl).2;simp only[List.cons.injEq,and_true]at this;exact absurd (this▸hv) hn
theorem Xq {p q:List Term} {u t:Term} (h:p=q++[u]) (hn:u.2=t.2):gL p t=q++[(u.1+t.1,u.2)]:=by
 rcases j4 p t with⟨_,e⟩|⟨q2,v,rfl,hv,e⟩
 ·exact absurd hn (e q u h)
 ·obtain⟨rfl,h2⟩:=List.append_inj' h rfl;simp only[List.cons.injEq,and_true]at h2;subst h2;rw[e,hn]
theorem Bd.add1 {x y:Int} {K k:Nat} (h:Bd x (K+k)) (h2:Bd y K):Bd (x+y) (K+k+1):=h.add (h2.mono (by omega)) (Nat.le_refl _)
structure jk [Ol] (K:Nat) (w:World) (q:List Term) (k:Nat) (ro:Option Addr) (rn rc:Nat) (V:World):Prop where
 pw:Pw w.heap.size (K+k) V ro rn rc (ja (q.take k))
 nk:rn<=k
 cap:rn<=rc
 bw:Below w.heap.size w V
section
variable {K:Nat} {w:World} {q:List Term} {k:Nat} {ro:Option Addr} {rn rc:Nat} {V V':World}
theorem jk.below [Ol] (h:jk K w q k ro rn rc V) (hb:Below V.heap.size V V'):jk K w q k ro rn rc V':=⟨h.pw.below hb,h.nk,h.cap,Below.steps h.bw hb⟩
theorem jk.nil [Ol] (h:jk K w q k ro rn rc V) (h0:rn=0):ja (q.take k)=[]:=List.eq_nil_of_length_eq_zero (by rw[h.pw.len];exact h0)
theorem jk.pushed [Ol] (h:jk K w q k ro rn rc V) {t:Term} (ht:ja (q.take (k+1))=ja (q.take k)++[t]) {po:Option Addr} {pc:Nat} (h1:Pw w.heap.size (K+k) V' po (rn+1) pc (ja (q.take k)++[t])) (hG:V.grownBy V' (blk ro)):jk K w q (k+1) po (rn+1) pc V':=
 ⟨by rw[ht];exact h1.mono (Nat.le_refl _) (by omega),by have:=h.nk;omega,by
  rcases h1 with⟨X,hR,_⟩;exact hR.gl.le,h.bw.grown hG h.bw.size (fun r e=>(h.pw.lt r e).1)⟩
theorem jk.set [Ol] {pb po r:Nat} (h:jk K w q k (some ⟨pb,po,none⟩) (r+1) rc V) {u t:Term} (ht:ja (q.take (k+1))=(ja (q.take k)).take r++[(u.1+t.1,u.2)]) (hs:ja (q.take k)=(ja (q.take k)).take r++[u]) (hl:((ja (q.take k)).take r).length=r) {m:Bool} {ao:Option Addr} {l c:Nat} (hC:Cn V m ao l c (u.1+t.1)) (hB:Bd (u.1+t.1) (K+k+1)):
  jk K w q (k+1) (some ⟨pb,po,none⟩) (r+1) rc ((V.setCell ⟨pb,po+r*3,none⟩ (.bool m)).setCell ⟨pb,po+r*3+1,none⟩ (.slice ao l c)):=by
 have h1:=h.pw;rw[hs]at h1;obtain⟨h2,h3⟩:=h1.ai7 (Below.refl _ _) hC hB;rw[hl]at h2 h3;exact⟨by rw[ht];exact h2,by have:=h.nk;omega,h.cap,h.bw.grown h3 h.bw.size (fun r e=>(h.pw.lt r e).1)⟩
end
theorem pG [Ol] {K:Nat} {ao:Option Addr} {n cap:Nat} {q:List Term} {w:World} (hp:Pc K w ao n cap q) (hm:∀t∈q,aJ 0 t.2=true) (hn:n<=900000) (hK:K+n<=900000):
  Calls Tryz.prog 153 #[.slice ao n cap] w (qN (K+n) w (Xr (ja q))):=by
 have ae3:∀args w,(callFunc 173 args).run Tryz.prog w= .ok (.enter 173 args) w:=enters_of Tryz.func173 (by kernel_rfl) rfl;have HP:=hid hp;have HM:=hid hm;have wU:=hid hp.len;have Gy:Hid (jk K w q 0 none 0 0 w):=⟨Pw.zero _ _ _,Nat.le_refl _,Nat.le_refl _,Below.refl _ _⟩;clear hp hm;go_enter Tryz.func153,Tryz.ntmps153;go_wp2;go_loopw [3,9] (fun p i wr=>∃(k:Nat) (ro:Option Addr) (rn rc:Nat),p= .slice ro rn rc/\ i= .int .i64 k/\ k<=n/\ Hid (jk K w q k ro rn rc wr)) (fun _ i _=>n-(intOf i).toNat)
 case atStart=>exact⟨0,none,0,0,rfl,rfl,Nat.zero_le _,Gy.out⟩
 case round=>
  clear Gy;obtain⟨k,ro,rn,rc,rfl,rfl,hk,HS⟩:=hrel;by_cases hkn:k<n
  ·obtain⟨b,off,xm,xa,xn,xc,xp,xq,xr,Fh,hbl,hc,rH,hBd,kU⟩:=(HP.out.below HS.out.bw).at (k:=k) hkn;subst Fh;obtain⟨c0,c1,c2⟩:=hc wr (Below.refl _ _);have hkq:k<q.length:=by rw[wU.out];exact hkn
   obtain⟨t,ht⟩:∃t,t=q.getD k (0,[]):=⟨_,rfl⟩;rw[<-ht]at rH hBd kU;have Gg:t∈q:=by rw[ht];exact getD_in _ hkq
   have hst:ja (q.take (k+1))=gL (ja (q.take k)) t:=Qi q k t (by rw[ht];simp[List.getD,hkq]);have Xt:Hid (Bd t.1 K/\ aJ 0 t.2=true):=⟨hBd,HM.out t Gg⟩;have HST:=hid hst;have HTW:=hid (And.intro rH kU);clear hc rH hBd kU hbl ht Gg hst;obtain⟨g,hg⟩:∃g,g=wr.heap.size:=⟨_,rfl⟩;go_upto_region 5 with(fail)
   refine au (fun W hW=>?_);have a1:aN W g [.bool xm,.slice xa xn xc,.slice xp xq xr] 54/\ Below wr.heap.size wr W:=by rw[hW,hg];exact pF wr [.bool xm,.slice xa xn xc,.slice xp xq xr] 54
   rw[<-hg];clear hW c0 c1 c2;have HG:Hid (∀g2,blk ro=some g2->g2≠g):=fun g2 e=>by have:=(HS.out.pw.lt g2 e).2;omega
   clear hg;have y8:Hid (jk K w q k ro rn rc W):=HS.out.below a1.2;have zZ:Hid (Cn W xm xa xn xc t.1/\ Ml W xp xq xr t.2):=⟨HTW.out.1.below a1.2,HTW.out.2.below a1.2⟩;have Fy:=hid a1.1;clear a1 HS HTW;have hnk:=y8.out.nk;have hcap:=y8.out.cap;by_cases h0:rn=0
   ·subst h0;have hd:decide ((0:Int)<= -1)=false:=rfl;have Ph:Hid (ja (q.take (k+1))=ja (q.take k)++[t]):=by rw[Hid,HST.out,y8.out.nil rfl];rfl
    go_upto_region 6 with(fail)
    refine wp_region_held_drew (S:=fun w'=>True) (by kernel_rfl) trivial (fun hH=>?_);refine ak (fun V hW=>?_);have dr:=(Below.refl W.heap.size W).drew;have y9:Hid (jk K w q k ro 0 rc V):=by rw[hW];exact y8.out.below dr
    have Fz:Hid (aN V g [.bool xm,.slice xa xn xc,.slice xp xq xr] 54):=by rw[hW];exact Fy.out.below dr
    have za:Hid (Cn V xm xa xn xc t.1/\ Ml V xp xq xr t.2):=by rw[hW];exact⟨zZ.out.1.below dr,zZ.out.2.below dr⟩
    try rw[<-hW]at hH
    clear y8 Fy zZ dr;clear hW;refine aB 0 hH ?_;try simp only[ai]
    refine aB 1 hH ?_;try simp only[ai]
    refine aB 2 hH ?_;try simp only[ai]
    refine jJ 3 hH ?_;try simp only[ai]
    refine jJ 4 hH ?_;try simp only[ai]
    refine jJ 5 hH ?_;try simp only[ai]
    refine jJ 6 hH ?_;try simp only[ai]
    refine jJ 7 hH ?_;try simp only[ai]
    refine jJ 8 hH ?_;try simp only[ai]
    refine jJ 9 hH ?_;try simp only[ai]
    refine aB 10 hH ?_;try simp only[ai]
    refine wpAnyH_done (by kernel_rfl) ?_ _
    obtain⟨v8,W8,hr8,hps⟩:=FB (t:=t) y9.out.pw y9.out.bw.size (by have:=y9.out.nk;omega) za.out.1 (Xt.out.1.mono (by omega)) za.out.2 54 23;obtain⟨c0,c1,c2⟩:=Fz.out.c3;have HPU:=hid hps;clear hps;go_wp2_with (at_builtin;refine iF rfl (.tmp 39) (.tmp 41) 23 23 rfl _ _ rfl rfl hr8 ?_);clear c0 c1 c2 hr8;obtain⟨po8,pc8,rfl,hp1,hp2,hp3⟩:=HPU.out;have tH:Hid (jk K w q (k+1) po8 (0+1) pc8 W8):=y9.out.pushed Ph.out hp1 hp2;clear HPU y9 Fz za hp1 hp2 hp3
    try go_wp2
    go_roundw
    case rel=>exact⟨k+1,po8,0+1,pc8,rfl,by go_num,by omega,tH.out⟩
    case measure=>simp[intOf];omega
   ·obtain⟨r,rfl⟩:∃r,rn=r+1:=⟨rn-1,by omega⟩;clear h0;have e1:((r+1:Nat):Int)-1=(r:Int):=by omega
    have e2:((r+1:Nat):Int)=(r:Int)+1:=by omega
    have e3:(r:Int)+1-1=(r:Int):=by omega
    have hw:IntKind.i64.wrap (r:Int)=(r:Int):=IntWalk.i64_in _ ⟨by omega,by omega⟩;have hr1:r<r+1:=by omega
    have hi1:(r:Int)<(r:Int)+1:=by omega
    have hd:decide ((0:Int)<=(r:Int))=true:=decide_eq_true (by omega);obtain⟨pb,po,um,ua,un,uc,up,uq,ur,hpo,hpb,hcu,hUn,hUd,hUl⟩:=y8.out.pw.pc.at (k:=r) hr1;subst hpo;have hlen:(ja (q.take k)).length=r+1:=y8.out.pw.len;obtain⟨u,hu⟩:∃u,u=(ja (q.take k)).getD r (0,[]):=⟨_,rfl⟩;rw[<-hu]at hUn hUd hUl;have hsp:ja (q.take k)=(ja (q.take k)).take r++[u]:=by rw[hu];exact LX hlen
    have Rs:aJ 0 u.2=true:=SE (fun s hs=>HM.out s (List.mem_of_mem_take hs)) u (by rw[hsp];simp);obtain⟨z,hz⟩:∃z,gN u.2 t.2=z:=⟨_,rfl⟩;have HO:Hid (∀V,Below W.heap.size W V->Calls Tryz.prog 73 #[.agg #[.bool um,.slice ua un uc,.slice up uq ur],.agg #[.bool xm,.slice xa xn xc,.slice xp xq xr]] V (bN (.int .i64 z) V)):=fun V hV=>rJ z (hUl.below hV) (zZ.out.2.below hV) Rs Xt.out.2 hz
    have HU:Hid (Cn W um ua un uc u.1/\ Bd u.1 (K+k)):=⟨hUn,hUd⟩;have Yt:=hid hcu;have Ar:=hid hsp;have Af:Hid (((ja (q.take k)).take r).length=r):=by rw[Hid,List.length_take,hlen];omega
    have HZ:Hid ((z=0->u.2=t.2)/\ (u.2=t.2->z=0)):=⟨fun e=>cmp_eq Rs Xt.out.2 (by rw[hz];exact e),fun e=>by rw[<-hz,e];exact Ox Xt.out.2⟩;clear hcu hUn hUd hUl hlen hu hsp Rs hz hpb;by_cases hz0:z=0
    ·have hd2:(z==0)=true:=beq_iff_eq.2 hz0;have Ph:Hid (ja (q.take (k+1))=(ja (q.take k)).take r++[(u.1+t.1,u.2)]):=by rw[Hid,HST.out];exact Xq Ar.out (HZ.out.1 hz0)
     go_upto_region 6 with(fail)
     refine wp_region_held_drew (S:=(fun w'=>(w'.cell? ⟨pb,po+r*3,none⟩=some (.bool um)/\ w'.cell? ⟨pb,po+r*3+1,none⟩=some (.slice ua un uc)/\ w'.cell? ⟨pb,po+r*3+2,none⟩=some (.slice up uq ur))/\ w'.cell? ⟨g,0,none⟩=some (.bool xm)/\ w'.cell? ⟨g,1,none⟩=some (.slice xa xn xc)/\ w'.cell? ⟨g,2,none⟩=some (.slice xp xq xr))) (by kernel_rfl) ⟨Yt.out _ (Below.refl _ _).drew,(Fy.out.below (Below.refl _ _).drew).c3⟩ (fun hH=>?_);have xk:Hid (Below W.heap.size W W.drew):=(Below.refl _ _).drew;refine ak (fun V hW=>?_);have Xu:Hid (Below W.heap.size W V):=by rw[hW];exact xk.out
     have dr:=(Below.refl W.heap.size W).drew;have y9:Hid (jk K w q k (some ⟨pb,po,none⟩) (r+1) rc V):=by rw[hW];exact y8.out.below dr
     have Fz:Hid (aN V g [.bool xm,.slice xa xn xc,.slice xp xq xr] 54):=by rw[hW];exact Fy.out.below dr
     have za:Hid (Cn V xm xa xn xc t.1/\ Ml V xp xq xr t.2):=by rw[hW];exact⟨zZ.out.1.below dr,zZ.out.2.below dr⟩
     try rw[<-hW]at hH
     clear y8 Fy zZ dr;clear xk;clear hW;refine aB 0 hH ?_;try simp only[ai]
     refine aB 1 hH ?_;try simp only[ai]
     refine aB 2 hH ?_;try simp only[ai]
     refine aB 3 hH ?_;try simp only[ai]
     refine aB 4 hH ?_;try simp only[ai]
     refine aB 5 hH ?_;try simp only[ai]
     refine aB 6 hH ?_;try simp only[ai]
     refine aB 7 hH ?_;try simp only[ai]
     refine aj 8 rfl (by kernel_rfl) (fun KK hK=>?_);go_simp;refine(HO.out _ Xu.out).mono ?_;rintro e V2 ⟨rfl,hB⟩;have Qj:=hid (Below.steps Xu.out hB);have wG:=hid (y9.out.below hB);have uF:=hid (Fz.out.below hB);have zb:=hid (And.intro (za.out.1.below hB) (za.out.2.below hB));clear hB Xu y9 Fz za;go_wp2_with fail;clear hH;refine hK.out _ _ ⟨Yt.out _ Qj.out,uF.out.c3⟩ fun hH=>?_;clear hK KK
     try simp only[ai]
     refine aB 9 hH ?_;try simp only[ai]
     refine aB 10 hH ?_;try simp only[ai]
     refine wpAnyH_done (by kernel_rfl) ?_ _
     go_upto_region 7 with(fail)
     refine wp_region_held_drew (S:=(fun w'=>w'.cell? ⟨g,0,none⟩=some (.bool xm)/\ w'.cell? ⟨g,1,none⟩=some (.slice xa xn xc))) (by kernel_rfl) ⟨(uF.out.below (Below.refl _ _).drew).c3.1,(uF.out.below (Below.refl _ _).drew).c3.2.1⟩ (fun hH=>?_);refine ak (fun V3 hW=>?_);have SH:Hid (Below W.heap.size W V3):=by rw[hW];exact Qj.out.drew
     have dr:=(Below.refl V2.heap.size V2).drew;have Vw:Hid (jk K w q k (some ⟨pb,po,none⟩) (r+1) rc V3):=by rw[hW];exact wG.out.below dr
     have JX:Hid (aN V3 g [.bool xm,.slice xa xn xc,.slice xp xq xr] 54):=by rw[hW];exact uF.out.below dr
     have Vx:Hid (Cn V3 xm xa xn xc t.1/\ Ml V3 xp xq xr t.2):=by rw[hW];exact⟨zb.out.1.below dr,zb.out.2.below dr⟩
     try rw[<-hW]at hH
     clear wG uF zb dr;clear Qj;clear hW;refine aB 0 hH ?_;try simp only[ai]
     refine aB 1 hH ?_;try simp only[ai]
     refine aB 2 hH ?_;try simp only[ai]
     refine aB 3 hH ?_;try simp only[ai]
     refine aB 4 hH ?_;try simp only[ai]
     refine aB 5 hH ?_;try simp only[ai]
     refine aB 7 hH ?_;try simp only[ai]
     refine aB 8 hH ?_;try simp only[ai]
     refine aj 6 rfl (by kernel_rfl) (fun KK hK=>?_);obtain⟨d0,d1,d2⟩:=Yt.out _ SH.out;go_simp;clear d0 d1 d2;clear hH;refine hK.out _ _ ⟨(JX.out).c3.1,(JX.out).c3.2.1⟩ fun hH=>?_;clear hK KK
     try simp only[ai]
     refine aj 9 rfl (by kernel_rfl) (fun KK hK=>?_);go_simp;refine(ug ((HU.out.1.below SH.out).cx HU.out.2 (by omega)).nx (Vx.out.1.cx Xt.out.1 (by omega)).nx).mono ?_;rintro e V4 ⟨sm,sa,sn,sc,rfl,hC,hB⟩;have ai8:=hid (Below.steps SH.out hB);have Vy:=hid (Vw.out.below hB);have JY:=hid (JX.out.below hB);have Vz:=hid hC;clear hB hC SH Vw JX Vx;go_wp2_with fail;clear hH;refine hK.out _ _ ⟨(JY.out).c3.1,(JY.out).c3.2.1⟩ fun hH=>?_;clear hK KK
     try simp only[ai]
     refine aB 10 hH ?_;try simp only[ai]
     refine aB 11 hH ?_;try simp only[ai]
     obtain⟨d0,d1,d2⟩:=Yt.out _ ai8.out;obtain⟨f0,f1,f2⟩:=Vy.out.pw.fz3 (k:=r) hr1;have hset:=Vy.out.set Ph.out Ar.out Af.out Vz.out (HU.out.2.add1 Xt.out.1);refine aj 12 rfl (by kernel_rfl) (fun KK hK=>?_);go_simp;have fT:=hid hset;clear hset d0 d1 d2 f0 f1 f2;clear hH;refine hK.out _ _ ⟨(((JY.out.far (HG.out _ rfl) _ _).far (HG.out _ rfl) _ _)).c3.1,(((JY.out.far (HG.out _ rfl) _ _).far (HG.out _ rfl) _ _)).c3.2.1⟩ fun hH=>?_;clear hK KK
     try simp only[ai]
     refine wpAnyH_done (by kernel_rfl) ?_ _
     go_wp2;go_roundw
     case rel=>exact⟨k+1,_,r+1,_,rfl,by go_num,by omega,fT.out⟩
     case measure=>simp[intOf];omega
    ·have hd2:(z==0)=false:=beq_eq_false_iff_ne.2 hz0;have Ph:Hid (ja (q.take (k+1))=ja (q.take k)++[t]):=by rw[Hid,HST.out];exact Xp Ar.out (fun e=>hz0 (HZ.out.2 e))
     go_upto_region 6 with(fail)
     refine wp_region_held_drew (S:=(fun w'=>(w'.cell? ⟨pb,po+r*3,none⟩=some (.bool um)/\ w'.cell? ⟨pb,po+r*3+1,none⟩=some (.slice ua un uc)/\ w'.cell? ⟨pb,po+r*3+2,none⟩=some (.slice up uq ur))/\ w'.cell? ⟨g,0,none⟩=some (.bool xm)/\ w'.cell? ⟨g,1,none⟩=some (.slice xa xn xc)/\ w'.cell? ⟨g,2,none⟩=some (.slice xp xq xr))) (by kernel_rfl) ⟨Yt.out _ (Below.refl _ _).drew,(Fy.out.below (Below.refl _ _).drew).c3⟩ (fun hH=>?_);have xk:Hid (Below W.heap.size W W.drew):=(Below.refl _ _).drew;refine ak (fun V hW=>?_);have Xu:Hid (Below W.heap.size W V):=by rw[hW];exact xk.out
     have dr:=(Below.refl W.heap.size W).drew;have y9:Hid (jk K w q k (some ⟨pb,po,none⟩) (r+1) rc V):=by rw[hW];exact y8.out.below dr
     have Fz:Hid (aN V g [.bool xm,.slice xa xn xc,.slice xp xq xr] 54):=by rw[hW];exact Fy.out.below dr
     have za:Hid (Cn V xm xa xn xc t.1/\ Ml V xp xq xr t.2):=by rw[hW];exact⟨zZ.out.1.below dr,zZ.out.2.below dr⟩
     try rw[<-hW]at hH
     clear y8 Fy zZ dr;clear xk;clear hW;refine aB 0 hH ?_;try simp only[ai]
     refine aB 1 hH ?_;try simp only[ai]
     refine aB 2 hH ?_;try simp only[ai]
     refine aB 3 hH ?_;try simp only[ai]
     refine aB 4 hH ?_;try simp only[ai]
     refine aB 5 hH ?_;try simp only[ai]
     refine aB 6 hH ?_;try simp only[ai]
     refine aB 7 hH ?_;try simp only[ai]
     refine aj 8 rfl (by kernel_rfl) (fun KK hK=>?_);go_simp;refine(HO.out _ Xu.out).mono ?_;rintro e V2 ⟨rfl,hB⟩;have Qj:=hid (Below.steps Xu.out hB);have wG:=hid (y9.out.below hB);have uF:=hid (Fz.out.below hB);have zb:=hid (And.intro (za.out.1.below hB) (za.out.2.below hB));clear hB Xu y9 Fz za;go_wp2_with fail;clear hH;refine hK.out _ _ ⟨Yt.out _ Qj.out,uF.out.c3⟩ fun hH=>?_;clear hK KK
     try simp only[ai]
     refine aB 9 hH ?_;try simp only[ai]
     refine aB 10 hH ?_;try simp only[ai]
     refine wpAnyH_done (by kernel_rfl) ?_ _
     obtain⟨v8,W8,hr8,hps⟩:=FB (t:=t) wG.out.pw wG.out.bw.size (by have:=wG.out.nk;omega) zb.out.1 (Xt.out.1.mono (by omega)) zb.out.2 54 23;obtain⟨c0,c1,c2⟩:=uF.out.c3;have HPU:=hid hps;clear hps;go_wp2_with (at_builtin;refine iF rfl (.tmp 39) (.tmp 41) 23 23 rfl _ _ rfl rfl hr8 ?_);clear c0 c1 c2 hr8;obtain⟨po8,pc8,rfl,hp1,hp2,hp3⟩:=HPU.out;have tH:Hid (jk K w q (k+1) po8 ((r+1)+1) pc8 W8):=wG.out.pushed Ph.out hp1 hp2;clear HPU wG uF zb hp1 hp2 hp3
     try go_wp2
     go_roundw
     case rel=>exact⟨k+1,po8,(r+1)+1,pc8,rfl,by go_num,by omega,tH.out⟩
     case measure=>simp[intOf];omega
  ·obtain rfl:k=n:=by omega
   have hfull:q.take k=q:=List.take_of_length_le (by rw[wU.out];exact Nat.le_refl _);have hnk:=HS.out.nk;have h:=HS.out;have hD:=FC ae3 (f:=fun t=>t.1==0) (B:=w.heap.size) (K:=K+k) (fun m ao n cap bo l cb t W h1 h2 h3=>by rw[Array.append_empty];exact Fv (by omega) h1 h2) h.pw (by omega);have HD:=hid hD;have HB:=hid h.bw;have HR:=hid (fun g hg=>h.pw.lt g hg);rw[hfull]at HD;clear h hD HS hfull;go_wp2_with fail;refine HD.out.mono ?_;rintro e w2 ⟨m,rfl,hP,hG⟩;have HH:Hid (qN (K+k) w (Xr (ja q)) (.returned (.slice ro m rc)) w2):=⟨_,_,_,rfl,hP,HB.out.grown hG HB.out.size (fun r e=>(HR.out r e).1)⟩;clear hP hG HD HB HR;go_wp2;go_ret;exact HH.out
open Lib (hid)
section
variable {K:Nat} {ao:Option Addr} {n cap:Nat} {p:List Term} {w:World}
theorem SI [Ol] (h:Pi K w ao n cap p) (hm:∀t∈p,aJ 0 t.2=true) (hn:n<=800000) (hK:K+n<=900000):
  Calls Tryz.prog 147 #[.slice ao n cap] w (PE (K+n) w (mE p) 0):=by
 obtain⟨aW,hG,hE⟩:=h.gl3;have HH:=hid h;have HL:=hid h.len;have HM:=hid hm;have HG:=hid hG;have HE:=hid hE;clear h hm hG hE;go_enter Tryz.func147,Tryz.ntmps147;go_wp2;go_loopw [9] (fun i wr=>∃k:Nat,i= .int .i64 k/\ k<=n/\ Hid (Below w.heap.size w wr)) (fun i _=>n-(intOf i).toNat)
 case atStart=>exact⟨0,rfl,Nat.zero_le _,Below.refl _ _⟩
 case round=>
  obtain⟨k,rfl,hk,HB⟩:=hrel;by_cases hkn:k<n
  ·obtain⟨xm,xa,xn,xc,xp,xq,xr,hv,hI,hkk,kU⟩:=HE.out k hkn;have Xv:=HG.out.below HB.out;obtain⟨b,off,hao,hb,hc⟩:=Xv.at (by omega);subst hao;obtain⟨c0,c1,c2⟩:=Xv.Bj hkn hv wr (Below.refl _ _);have hmt:aJ 0 (p.getD k (0,[])).2=true:=HM.out _ (getD_in _ (by rw[HL.out];exact hkn));generalize p.getD k (0,[])=t at hmt kU;have HT:=hid (And.intro (kU.below HB.out) hmt);clear Xv hc hv hI kU hmt;go_upto_region 4 with(fail)
   refine au (fun W hW=>?_);have a1:aN W wr.heap.size [.bool xm,.slice xa xn xc,.slice xp xq xr] 54/\ Below wr.heap.size wr W:=by rw[hW];exact pF wr [.bool xm,.slice xa xn xc,.slice xp xq xr] 54
   clear hW c0 c1 c2;obtain⟨c0,c1,c2⟩:=a1.1.c3;have HB1:=hid (Below.steps HB.out a1.2);have HT1:=hid (And.intro (HT.out.1.below a1.2) HT.out.2);clear a1 HB HT;go_wp2_with fail;refine(gJ true HT1.out.1 HT1.out.2).mono ?_;rintro e w2 ⟨rfl,hB⟩;have HB2:=hid (Below.steps HB1.out hB);clear hB HB1 HT1 c0 c1 c2;go_wp2;go_roundw
   case rel=>exact⟨k+1,by go_num,by omega,HB2.out⟩
   case measure=>simp[intOf];omega
  ·obtain rfl:k=n:=by omega
   go_wp2_with fail;refine(og (HH.out.below HB.out) (by omega) (by omega)).mono ?_;rintro e w2 ⟨oa,on,oc,rfl,h1,h2⟩;have hon:on=k:=by rw[<-h1.len,HL.out]
   subst hon;have HW1:=hid h1;have HB1:=hid h2;have HB0:=hid (Below.steps HB.out h2);clear h1 h2;by_cases h0:on=0
   ·subst h0;have hp0:p=[]:=List.eq_nil_of_length_eq_zero HL.out;subst hp0;go_wp2_with fail;refine(C9 _ _ _ _).mono ?_;rintro e w3 ⟨rfl,rfl⟩;go_wp2_with fail;refine(pG HW1.out.pc HM.out (by omega) (by omega)).mono ?_;rintro e w4 ⟨ra,rn,rc,rfl,h1,h2⟩;have HR:Hid (PE (K+0) w (mE []) 0 (.returned (.tuple #[.slice ra rn rc,.int .i64 0])) w4):=⟨_,_,_,rfl,h1.pc,Below.steps HB0.out h2⟩;clear h1 h2;go_wp2_with fail;go_ret2;exact HR.out
   ·obtain⟨g,off,_,_,_,_,_,_,_,hao,_⟩:=HW1.out.pc.at (k:=0) (by omega);subst hao;go_wp2_with fail;refine(Iy HW1.out (by omega) HM.out).mono ?_;rintro e w3 ⟨rfl,q,hq1,hq2,hq3,hq4⟩;have hbw:Below w.heap.size w w3:=HB0.out.grown hq4 HB0.out.size (fun r e=>by cases e;have:=(HW1.out.lt g rfl).1;have:=HB.out.size;omega);have HQ:=hid (And.intro hq1 (And.intro hq2 (And.intro hq3 hbw)));clear hq1 hq2 hq3 hq4 hbw;go_wp2_with fail;refine(pG HQ.out.2.2.1.pc (fun t ht=>HM.out t (HQ.out.1.mem_iff.1 ht)) (by omega) (by omega)).mono ?_;rintro e w4 ⟨ra,rn,rc,rfl,h1,h2⟩;rw[Qk HM.out HQ.out.1 HQ.out.2.1]at h1;have HR:Hid (PE (K+on) w (mE p) 0 (.returned (.tuple #[.slice ra rn rc,.int .i64 0])) w4):=⟨_,_,_,rfl,h1.pc,Below.steps HQ.out.2.2.2 h2⟩;clear h1 h2;go_wp2_with fail;go_ret2;exact HR.out
end
open Lib (hid)
theorem Pi.one [Ol] {K:Nat} {w:World} {m:Bool} {ao:Option Addr} {n cap:Nat} {z:Int} (h:In w m ao n cap z) (hn:n<=K) {bo:Option Addr} {l cb:Nat} {ps:List (Int×Int)} (hM:Ml w bo l cb ps) (T:TypeId):
  Pi K (w.alloc (.cells #[.bool m,.slice ao n cap,.slice bo l cb] T)) (some ⟨w.heap.size,0,none⟩) 1 1 [(z,ps)]:=
 ⟨_,Gl.lit 3 w [.bool m,.slice ao n cap,.slice bo l cb] T rfl (by simp[Value.oneCell']),⟨⟨_,_,_,_,_,_,_,rfl,h.below (af _ _),hn,hM.below (af _ _)⟩,trivial⟩⟩
theorem JZ:aJ 0 []=true:=rfl
theorem Xw {z:Int} {m:List (Int×Int)} (hm:aJ 0 m=true):mE [(z,m)]=if z=0 then[]else[(z,m)]:=by
 refine iN (iB (l:=[(z,m)]) (fun t ht=>by rw[List.mem_singleton]at ht;subst ht;exact hm)).1 ?_ fun ρ=>?_
 ·by_cases h:z=0
  ·rw[if_pos h];trivial
  ·rw[if_neg h];exact⟨h,hm,(fun _ h=>by cases h),trivial⟩
 ·rw[(iB (l:=[(z,m)]) (fun t ht=>by rw[List.mem_singleton]at ht;subst ht;exact hm)).2];by_cases h:z=0
  ·rw[if_pos h,h];simp[ev]
  ·rw[if_neg h]
section
variable {K:Nat} {w:World}
theorem Fq [Ol] {m:Bool} {ao:Option Addr} {n cap:Nat} {z:Int} (hx:In w m ao n cap z) (hn:n<=K) (hK:K<=800000):
  Calls Tryz.prog 126 #[.agg #[.bool m,.slice ao n cap]] w (vY (K+1) w (mE [(z,[])])):=by
 have HX:=hid hx;clear hx;go_enter Tryz.func126,Tryz.ntmps126;go_upto_region 1 with(fail)
 refine au (fun W hW=>?_);obtain⟨a1,hB⟩:=pF w [.bool m,.slice ao n cap] 50;rw[<-hW]at a1 hB;clear hW;have c0:=a1.cell 0;have c1:=a1.cell 1;simp only[List.getElem?_cons_succ,List.getElem?_cons_zero]at c0 c1;have HB:=hid hB;clear a1 hB;go_wp2_with fail;refine(og (Pi.one (HX.out.below HB.out) hn (Ml.zero W) _) (by omega) (by omega)).mono ?_;rintro e w2 ⟨oa,on,oc,rfl,h1,h2⟩;have HW:=hid h1;have HB2:=hid (Below.steps HB.out (aA h2));clear h1 h2 HB c0 c1;have hon:on=1:=HW.out.len.symm;subst hon;go_wp2_with fail;refine(pG HW.out.pc (fun t ht=>by rw[List.mem_singleton]at ht;subst ht;exact JZ) (by omega) (by omega)).mono ?_;rintro e w3 ⟨ra,rn,rc,rfl,h1,h2⟩;rw[Qk (l:=[(z,[])]) (fun t ht=>by rw[List.mem_singleton]at ht;subst ht;exact JZ) (List.Perm.refl _) (List.pairwise_singleton _ _)]at h1;have HR:Hid (vY (K+1) w (mE [(z,[])]) (.returned (.slice ra rn rc)) w3):=⟨_,_,_,rfl,h1.pc,Below.steps HB2.out h2⟩;clear h1 h2;go_wp2_with fail;go_ret;exact HR.out
variable {po:Option Addr} {pn pc:Nat} {ps:List Raw} {p:List Term} {m:Bool} {ao:Option Addr} {n cap:Nat} {z:Int} {bo:Option Addr} {l cb:Nat} {ms:List (Int×Int)}
theorem y5 [Ol] (hp:Pc K w po pn pc p) (hf:fall p) (hpn:pn<=300000) (hx:In w m ao n cap z) (hn:n<=K) (hK:K<=900) (hM:Ml w bo l cb ms) (hm:aJ 0 ms=true):
  Calls Tryz.prog 123 #[.slice po pn pc,.agg #[.bool m,.slice ao n cap],.slice bo l cb] w (PE (K+1+(K+1)+pn+1) w (uR p (mE [(z,ms)])).1 (LY p (mE [(z,ms)]))):=by
 have HP:=hid hp;have HX:=hid hx;have HM:=hid hM;have HN:=hid hm;have HF:=hid hf;have hms:dX [(z,ms)]:=fun t ht=>by rw[List.mem_singleton]at ht;subst ht;exact hm
 have Gc:Hid ((mE [(z,ms)]).length<=1):=by
  rw[Hid,Xw hm];split<;>simp
 have HMS:=hid hms;clear hp hx hM hm hf hms;go_enter Tryz.func123,Tryz.ntmps123;go_upto_region 1 with(fail)
 refine au (fun W hW=>?_);obtain⟨a1,hB⟩:=pF w [.bool m,.slice ao n cap] 50;rw[<-hW]at a1 hB;clear hW;have c0:=a1.cell 0;have c1:=a1.cell 1;simp only[List.getElem?_cons_succ,List.getElem?_cons_zero]at c0 c1;have HB:=hid hB;clear a1 hB;go_wp2_with fail;refine(SI (Pi.one (HX.out.below HB.out) hn (HM.out.below HB.out) _) HMS.out (by omega) (by omega)).mono ?_;rintro e w2 ⟨ra,rn,rc,rfl,h1,h2⟩;have HB2:=hid (Below.steps HB.out (aA h2));have HQ:=hid h1;clear h1 h2 HB c0 c1;have hrn:rn<=1:=by have:=HQ.out.len;have:=Gc.out;omega
 clear Gc;have hmul:pn*rn<=pn*1:=Nat.mul_le_mul_left _ hrn;go_wp2_with fail;refine(Iz ((HP.out.below HB2.out).mono (Nat.le_succ K)) HQ.out HF.out (iB HMS.out).1 (by omega) (by omega) (by omega) (by omega)).mono ?_;rintro e w3 ⟨qa,qn,qc,rfl,h1,h2⟩;have HR:Hid (PE (K+1+(K+1)+pn+1) w (uR p (mE [(z,ms)])).1 (LY p (mE [(z,ms)])) (.returned (.tuple #[.slice qa qn qc,.int .i64 (LY p (mE [(z,ms)]))])) w3):=⟨_,_,_,rfl,h1.mono (by omega),Below.steps HB2.out h2⟩;clear h1 h2;go_wp2_with fail;go_ret2;exact HR.out
end
end Go.Proofs.YthdhjckangekoaaGreat

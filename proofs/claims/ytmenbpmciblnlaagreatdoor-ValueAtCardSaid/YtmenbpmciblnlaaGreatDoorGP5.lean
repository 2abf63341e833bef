/- WLawPlain, PlDeg, PlProd, PlMay, PlFace, PCont, PlCont -/
import Derived.Test.YtmenbpmciblnlaaGreatDoorGP4
set_option maxHeartbeats 0
set_option maxRecDepth 100000
open Nat renaming le_refl->a0b,le_trans->a0c,lt_of_le_of_lt->a0a
namespace Go.Proofs.YtmenbpmciblnlaaGreatDoor
open Go.RowKit
theorem Bd.tdiv {x y:Int} {k:Nat} (h:Bd x k):Bd (x.tdiv y) k:=by
 unfold Bd at*
 rw[Int.natAbs_tdiv];exact a0a (Nat.div_le_self _ _) h
theorem Bd.tmod {x y:Int} {k:Nat} (h:Bd x k):Bd (x.tmod y) k:=by
 unfold Bd at*
 have e:(x.tmod y).natAbs=x.natAbs%y.natAbs:=by
  have h1:=tL (decide (x<0)) (decide (y<0)) x.natAbs y.natAbs;rw[tu,tu]at h1;rw[<-h1,gW]
 rw[e];exact a0a (Nat.mod_le _ _) h
theorem Bd.gcd {x y:Int} {k:Nat} (h:Bd x k) (h':Bd y k):Bd ((x.gcd y:Nat):Int) k:=by
 unfold Bd at*
 rw[Int.natAbs_natCast];show Nat.gcd _ _<_;rcases Nat.eq_zero_or_pos x.natAbs with h0|h0
 ·rw[h0,Nat.gcd_zero_left];exact h'
 ·exact a0a (Nat.gcd_le_left _ h0) h
structure Hz (l:List Term) (m:List (Int×Int)):Prop where
 may:aZ 0 m=true
 all:∀t∈l,∀v,aJ t.2 v<=aJ m v
 att:∀v,aJ m v=0∨ ∃t∈l,aJ t.2 v=aJ m v
theorem Hz.nil:Hz [] []:=⟨rfl,(λt h=>by cases h),λv=> .inl rfl⟩
theorem Hz.next {l:List Term} {m:List (Int×Int)} {t:Term} (h:Hz l m) (ht:aZ 0 t.2=true):Hz (l++[t]) (joinL (λx y=>max x y) (orM m) (orM t.2)):=by
 rw[qg h.may,qg ht];have hj:=pI (f:=λx y=>max x y) (by rfl) h.may ht;refine⟨?_,λs hs v=>?_,λv=>?_⟩
 ·rw[sQ];refine⟨AV (by rfl) h.may ht,λv=>?_⟩;rw[hj];have h1:=fE h.may v;have h2:=fE ht v;omega
 ·rw[hj];rcases List.mem_append.1 hs with hs|hs
  ·have:=h.all s hs v;omega
  ·rw[List.mem_singleton.1 hs];omega
 ·rw[hj];by_cases hle:aJ t.2 v<=aJ m v
  ·rw[Int.max_eq_left hle];rcases h.att v with h0|⟨s,hs,h1⟩
   ·exact .inl h0
   ·exact .inr ⟨s,by simp[hs],h1⟩
  ·exact .inr ⟨t,by simp,by omega⟩
theorem Vj (ρ:Nat->Int) (q:List Term) {k:Nat} (hk:k<q.length):ev (q.take (k+1)) ρ=ev (q.take k) ρ+(q.getD k (0,[])).1*Jj (q.getD k (0,[])).2 ρ:=by
 rw[List.take_succ_eq_append_getElem hk,xO,sP _ hk];simp[ev]
structure Xh [Ol] (w:World) (K:Nat) (p q:List Term) (k K2:Nat) (so:Option Addr) (n2 cap2:Nat) (X2:List (List Value)) (ps2:List (List Term)) (V:World):Prop where
 pl:lg w.heap.size K2 V so n2 cap2 X2 ps2
 kk:K2+n2<=K+K+k
 k2:K+K<=K2
 nk:n2<=k
 vs:∀ρ,evs ps2 ρ=ev p ρ*ev (q.take k) ρ
 ln:lens ps2<=k*p.length
 bw:Below w.heap.size w V
theorem Xh.start [Ol] (w:World) (K:Nat) (p q:List Term):Xh w K p q 0 (K+K) none 0 0 [] [] w:=⟨lg.nil _ _ _,by omega,a0b _,a0b _,λρ=>by simp[evs,ev],by simp[lens],Below.refl _ _⟩
theorem Xh.below [Ol] {w:World} {K:Nat} {p q:List Term} {k K2:Nat} {so:Option Addr} {n2 cap2:Nat} {X2:List (List Value)} {ps2:List (List Term)} {V V':World} (h:Xh w K p q k K2 so n2 cap2 X2 ps2 V) (hb:Below V.heap.size V V'):Xh w K p q k K2 so n2 cap2 X2 ps2 V':={ h with pl:=h.pl.below hb,bw:=Below.steps h.bw hb }
theorem Xh.next [Ol] {w:World} {K:Nat} {p q:List Term} {k K2:Nat} {so:Option Addr} {n2 cap2:Nat} {X2:List (List Value)} {ps2:List (List Term)} {V V':World} {e:Ending} (h:Xh w K p q k K2 so n2 cap2 X2 ps2 V) {r:List Term} {t:Term} (hw:RI w.heap.size K2 n2 V ps2 r e V') (hk:k<q.length) (ht:t=q.getD k (0,[])) (hr:∀ρ,ev r ρ=ev p ρ*(t.1*Jj t.2 ρ)) (hl:r.length<=p.length):
  ∃so3 n3 xR X3 ps3 K3,e= .returned (.slice so3 n3 xR)/\ Xh w K p q (k+1) K3 so3 n3 xR X3 ps3 V':=by
 obtain⟨so3,n3,xR,X3,ps3,K3,rfl,h1,h2,h3,h4,h5,h6⟩:=hw;refine⟨so3,n3,xR,X3,ps3,max K3 (K+K),rfl,⟨h1.mono (Nat.le_max_left _ _),?_,Nat.le_max_right _ _,by have:=h.nk;omega,λρ=>?_,?_,h.bw.trans h6⟩⟩
 ·have:=h.kk;have:=h.nk;omega
 ·rw[h4,h.vs,hr,Vj ρ q hk,<-ht];grind
 ·have:=h.ln;rw[Nat.add_mul,Nat.one_mul];omega
open Lib (hid)
theorem oW [Ol] (r:Bool) {ao:Option Addr} {n cap:Nat} {ps:List Raw} {w:World} (hp:Pr w ao n cap ps) (hl:∀t∈ps,t.1.2.length<=1000) (h:kX ps=r):
  Calls Tryz.prog 32 #[.slice ao n cap] w (cu (.bool r) w):=by
 obtain⟨bS,hG,_⟩:=hp.ex;have hbig:=hG.big;have xw:=hid hp.len;have HP:=hid hp;have HR:=hid h;have HLL:=hid hl;clear hp hG h hl;go_enter Tryz.func32,Tryz.ntmps32;go_wp2;go_loopw [7] (λi wr=>∃k:Nat,i= .int .i64 k/\ k<=n/\ Hid (∀t,t<k->mg ps t=true)/\ Hid (Below w.heap.size w wr)) (λi _=>n-(intOf i).toNat)
 case atStart=>exact⟨0,rfl,Nat.zero_le _,λt h=>by omega,Below.refl _ _⟩
 case round=>
  obtain⟨k,rfl,hk,HE,HB⟩:=hrel;by_cases hkn:k<n
  ·have vG:k<ps.length:=by rw[xw.out];omega
   obtain⟨b,off,xa,xn,xc,xp,xq,xr,rfl,hbw,hc,hs,hm⟩:=HP.out.at hkn;have hlen:(ps.getD k iq).1.2.length<=1000:=HLL.out _ (getD_in iq vG);obtain⟨⟨⟨xm,xs⟩,WZ⟩,ht⟩:∃t,t=ps.getD k iq:=⟨_,rfl⟩;rw[<-ht]at hc hs hm hlen;have WW:Hid (xs.length=xn):=hs.len;have HLK:Hid (xn<=1000):=by rw[Hid,<-WW.out];exact hlen
   have HC:=hid hc;have HS:=hid hs;have HM:=hid hm;have HTK:=hid ht;clear hc hs hm ht hlen;obtain⟨A,hA⟩:∃A,A=uw xm xn xs:=⟨_,rfl⟩;obtain⟨s,hs⟩:∃s,(dK xm (val xs)).sign=s:=⟨_,rfl⟩;obtain⟨C,hC⟩:∃C,(s==0)=C:=⟨_,rfl⟩;obtain⟨D,hD⟩:∃D,D=aZ 0 WZ:=⟨_,rfl⟩
   have HT:Hid (wh ((xm,xs),WZ)=(A&& !C&&D)):=by
    rw[Hid,Np HS.out.wf,WW.out,<-hA,hs,hC,<-hD]
   have HA:=hid hA;have mO:=hid hs;have HD:=hid hD;obtain⟨c0,c1,c2⟩:=HC.out _ HB.out;clear hA hD hs;go_upto_region 4 with(fail)
   refine aj (λW hW=>?_);obtain⟨a1,hB⟩:=jC wr [.bool xm,.slice xa xn xc,.slice xp xq xr] 70;rw[<-hW]at a1 hB;clear hW;have HX:=hid a1;have qP:=hid (Below.steps HB.out hB);clear a1 hB c0 c1 c2;obtain⟨c0,c1,c2⟩:=HX.out.c3;cases A with
   |false=>
    have HR2:Hid (r=false):=by
     rw[Hid,<-HR.out];exact om k vG (by unfold mg;rw[<-HTK.out,HT.out];rfl)
    go_wp2_with fail;refine(LY false (HS.out.below qP.out) HA.out.symm).mono ?_;rintro e w5 ⟨rfl,hB⟩;have og:=hid (Below.steps qP.out hB);have HX5:=hid (HX.out.below hB);clear hB qP HX c0 c1 c2;go_wp2_with fail;go_ret;have hr:=HR2.out;subst hr;exact⟨rfl,og.out⟩
   |true=>
    go_wp2_with fail;refine(LY true (HS.out.below qP.out) HA.out.symm).mono ?_;rintro e w5 ⟨rfl,hB⟩;have og:=hid (Below.steps qP.out hB);have HX5:=hid (HX.out.below hB);clear hB qP HX c0 c1 c2;obtain⟨c0,c1,c2⟩:=HX5.out.c3;go_wp2_with fail;refine(nJ s (x:=dK xm (val xs)) ⟨⟨xs,HS.out.below og.out,rfl⟩,a0c HLK.out (by omega)⟩ mO.out).mono ?_;rintro e w6 ⟨rfl,hB⟩;have xD:=hid (Below.steps og.out hB);have HX6:=hid (HX5.out.below hB);clear hB og HX5 c0 c1 c2;obtain⟨c0,c1,c2⟩:=HX6.out.c3;cases C with
    |true=>
     have HR2:Hid (r=false):=by
      rw[Hid,<-HR.out];exact om k vG (by unfold mg;rw[<-HTK.out,HT.out];rfl)
     go_wp2_with fail;go_ret;have hr:=HR2.out;subst hr;exact⟨rfl,xD.out⟩
    |false=>
     go_wp2_with fail;refine(ji D (HM.out.below xD.out) HD.out.symm).mono ?_;rintro e w7 ⟨rfl,hB⟩;have Ag:=hid (Below.steps xD.out hB);have YD:=hid (HX6.out.below hB);clear hB xD HX6 c0 c1 c2;obtain⟨c0,c1,c2⟩:=YD.out.c3;cases D with
     |false=>
      have HR2:Hid (r=false):=by
       rw[Hid,<-HR.out];exact om k vG (by unfold mg;rw[<-HTK.out,HT.out];rfl)
      go_wp2_with fail;go_ret;have hr:=HR2.out;subst hr;exact⟨rfl,Ag.out⟩
     |true=>
      by_cases hk0:k=0
      ·subst hk0
       have HE2:Hid (∀t,t<0+1->mg ps t=true):=λt ht=>by
        obtain rfl:t=0:=by omega
        unfold mg;rw[<-HTK.out,HT.out];rfl
       have hd:decide ((0:Int)<((0:Nat):Int))=false:=rfl;clear c0 c1 c2;go_upto_region 6 with(fail)
       refine wp_region_held_drew (S:=λw'=>True) (by kernel_rfl) trivial (λhH=>?_);refine ai (λw8 hW=>?_);have jl:Hid (Below w.heap.size w w8):=by rw[hW];exact Ag.out.drew
       clear hW Ag;refine aQ 0 hH ?_;try simp only[ax]
       refine aQ 1 hH ?_;try simp only[ax]
       refine aQ 2 hH ?_;try simp only[ax]
       refine uq 3 hH ?_;try simp only[ax]
       refine uq 4 hH ?_;try simp only[ax]
       refine uq 5 hH ?_;try simp only[ax]
       refine uq 6 hH ?_;try simp only[ax]
       refine uq 7 hH ?_;try simp only[ax]
       refine uq 8 hH ?_;try simp only[ax]
       refine uq 9 hH ?_;try simp only[ax]
       refine uq 10 hH ?_;try simp only[ax]
       refine aQ 11 hH ?_;try simp only[ax]
       refine wpAnyH_done (by kernel_rfl) ?_ _
       go_wp2_with fail;go_roundw
       case rel=>exact⟨0+1,by go_num,by omega,HE2,jl⟩
       case measure=>simp[intOf];omega
      ·obtain⟨j,rfl⟩:∃j,k=j+1:=⟨k-1,by omega⟩;have Po:j<ps.length:=by omega
       obtain⟨b',off',ya,yn,yc,yp,yq,yr,e,_,hc,hs,hm⟩:=HP.out.at (k:=j) (by omega);cases e;obtain⟨⟨⟨ym,ys⟩,yps⟩,ht⟩:∃t,t=ps.getD j iq:=⟨_,rfl⟩;rw[<-ht]at hc hm;have HCY:=hid hc;have Qm:=hid hm;have HTY:=hid ht;clear hc hm hs ht c0 c1 c2;have hd:decide ((0:Int)<((j+1:Nat):Int))=true:=decide_eq_true (by omega);have hw:IntKind.i64.wrap (j:Int)=(j:Int):=IntWalk.i64_in _ ⟨by omega,by omega⟩;have hjn:j<n:=by omega
       have hj1:0<=(j:Int)+1:=by omega
       have hj2:(j:Int)+1<(n:Int):=by omega
       have HY:Hid (aZ 0 yps=true):=by
        have h:=HE.out j (by omega);unfold mg wh at h;rw[<-HTY.out]at h;simp only[Bool.and_eq_true]at h;exact h.1.2
       obtain⟨z,hz⟩:∃z,lS yps WZ=z:=⟨_,rfl⟩;have HRG:Hid (z= -1∨z=0∨z=1):=by rw[Hid,<-hz];exact xP HY.out HD.out.symm
       have HO:Hid (mg ps (j+1)=(z==1)):=by
        unfold mg;rw[Hid,<-HTK.out,HT.out,show j+1-1=j from rfl,<-HTY.out];show(true&& !false&&true&&(j+1==0||lS yps WZ==1))=(z==1);rw[hz];simp
       have TW:=hid hz;clear hz;go_upto_region 6 with(fail)
       refine wp_region_held_drew (S:=λw'=>(w'.cell? ⟨wr.heap.size,0,none⟩=some (.bool xm)/\ w'.cell? ⟨wr.heap.size,1,none⟩=some (.slice xa xn xc)/\ w'.cell? ⟨wr.heap.size,2,none⟩=some (.slice xp xq xr))/\ (w'.cell? ⟨b,off+j*3,none⟩=some (.bool ym)/\ w'.cell? ⟨b,off+j*3+1,none⟩=some (.slice ya yn yc)/\ w'.cell? ⟨b,off+j*3+2,none⟩=some (.slice yp yq yr))) (by kernel_rfl) ⟨YD.out.c3,HCY.out _ Ag.out.drew⟩ (λhH=>?_);refine ai (λw8 hW=>?_);have jl:Hid (Below w.heap.size w w8):=by rw[hW];exact Ag.out.drew
       have HX8:Hid (bD w8 wr.heap.size [.bool xm,.slice xa xn xc,.slice xp xq xr] 70):=by rw[hW];exact YD.out.below (Below.refl _ _).drew
       rw[<-hW]at hH;clear hW Ag YD;refine aQ 0 hH ?_;try simp only[ax]
       refine aQ 1 hH ?_;try simp only[ax]
       refine aQ 2 hH ?_;try simp only[ax]
       refine aQ 3 hH ?_;try simp only[ax]
       refine aQ 4 hH ?_;try simp only[ax]
       refine aQ 5 hH ?_;try simp only[ax]
       refine aQ 6 hH ?_;try simp only[ax]
       refine aQ 7 hH ?_;try simp only[ax]
       refine aQ 8 hH ?_;try simp only[ax]
       refine ah 9 rfl (by kernel_rfl) (λKK hK=>?_);go_simp;refine(Nl z (Qm.out.below jl.out) (HM.out.below jl.out) HY.out HD.out.symm TW.out).mono ?_;rintro e w9 ⟨rfl,hB⟩;have oP:=hid (Below.steps jl.out hB);have HX9:=hid (HX8.out.below hB);clear hB jl HX8;go_wp2_with fail;clear hH;refine hK.out _ _ ⟨HX9.out.c3,HCY.out _ oP.out⟩ λhH=>?_;clear hK KK
       try simp only[ax]
       obtain⟨q,hq⟩:∃q,decide (z<=0)=q:=⟨_,rfl⟩
       have HQ:Hid ((z==1)= !q):=by
        rw[Hid,<-hq];rcases HRG.out with e|e|e<;>subst e<;>rfl
       cases q with
       |true=>
        have HR2:Hid (r=false):=by
         rw[Hid,<-HR.out];exact om (j+1) vG (by rw[HO.out,HQ.out];rfl)
        refine aQ 10 hH ?_;try simp only[ax]
        refine aQ 11 hH ?_;try simp only[ax]
        refine wpAnyH_done (by kernel_rfl) ?_ _
        go_wp2_with fail;go_ret;have hr:=HR2.out;subst hr;exact⟨rfl,oP.out⟩
       |false=>
        have HE2:Hid (∀t,t<j+1+1->mg ps t=true):=λt ht=>by
         by_cases h:t<j+1
         ·exact HE.out t h
         ·obtain rfl:t=j+1:=by omega
          rw[HO.out,HQ.out];rfl
        refine aQ 10 hH ?_;try simp only[ax]
        refine aQ 11 hH ?_;try simp only[ax]
        refine wpAnyH_done (by kernel_rfl) ?_ _
        go_wp2_with fail;go_roundw
        case rel=>exact⟨j+1+1,by go_num,by omega,HE2,oP⟩
        case measure=>simp[intOf];omega
  ·obtain rfl:k=n:=by omega
   have HR2:Hid (r=true):=by
    rw[Hid,<-HR.out];exact decide_eq_true λt ht=>HE.out t (by rw[<-xw.out];exact ht)
   go_wp2_with fail;go_ret;have hr:=HR2.out;subst hr;exact⟨rfl,HB.out⟩
theorem Pr.pc [Ol] {K:Nat} {w:World} {ao:Option Addr} {n cap:Nat} {p:List Term} (h:Pr w ao n cap (p.map jO)) (hk:∀t∈p.map jO,t.1.2.length<=K):Pc K w ao n cap p:=by
 obtain⟨bS,h1,h2⟩:=h.ex
 have h3:cB (kD K w) bS ((p.map jO).map mq):=by
  refine cB.map mq (λv a ha h=>?_) h2;obtain⟨t,ht,rfl⟩:=List.mem_map.1 ha;obtain⟨ao,n,cap,bo,k,cb,e1,e2,e4⟩:=h
  have hb:Bd t.1 K:=by
   have h4:=hk _ ha;have h5:=eG (limbs t.1.natAbs) e2.wf;rw[au]at h5;exact yM h5 h4
  rw[sZ];exact⟨_,ao,n,cap,bo,k,cb,e1,⟨rfl,e2⟩,hb,e4⟩
 rw[List.map_map,show mq ∘ jO=id from funext sZ,List.map_id]at h3;exact⟨bS,h1,h3⟩
theorem Pc.lens [Ol] {K:Nat} {w:World} {ao:Option Addr} {n cap:Nat} {p:List Term} (h:Pc K w ao n cap p):∀t∈p.map jO,t.1.2.length<=K:=by
 intro t ht;obtain⟨s,hs,rfl⟩:=List.mem_map.1 ht;obtain⟨i,hi,rfl⟩:=List.mem_iff_getElem.1 hs;obtain⟨_,_,_,_,_,_,_,_,_,_,_,_,_,hb,_⟩:=h.at (k:=i) (by rw[<-h.len];exact hi);rw[sP _ hi]at hb;exact hb.len
theorem Am [Ol] {K:Nat} {w:World} {ao:Option Addr} {n cap:Nat} {p:List Term} (h:Pc K w ao n cap p) (hf:fall p) (hK:K<=1000):Calls Tryz.prog 32 #[.slice ao n cap] w (cu (.bool true) w):=
 oW true h.raw (λt ht=>a0c (h.lens t ht) hK) (Dp hf)
section
variable {K:Nat} {ao bo:Option Addr} {n cap m cb:Nat} {p q:List Term} {ps qs:List Raw} {w:World}
end
section
variable {K:Nat} {ao:Option Addr} {n cap:Nat} {p:List Term} {ps:List Raw} {w:World}
end
end Go.Proofs.YtmenbpmciblnlaaGreatDoor

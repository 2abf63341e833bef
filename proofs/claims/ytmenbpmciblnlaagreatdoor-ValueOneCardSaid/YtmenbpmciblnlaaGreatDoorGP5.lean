/- WLawPlain, PlDeg, PlProd, PlMay, PlFace, PCont, PlCont -/
import Derived.Test.YtmenbpmciblnlaaGreatDoorGP4
set_option maxHeartbeats 40000000
set_option maxRecDepth 100000
namespace Go.Proofs.YtmenbpmciblnlaaGreatDoor
open Go.RowKit
theorem Bd.tdiv {x y:Int} {k:Nat} (h:Bd x k):Bd (x.tdiv y) k:=by
 unfold Bd at*
 rw[Int.natAbs_tdiv];exact Nat.lt_of_le_of_lt (Nat.div_le_self _ _) h
theorem Bd.tmod {x y:Int} {k:Nat} (h:Bd x k):Bd (x.tmod y) k:=by
 unfold Bd at*
 have e:(x.tmod y).natAbs=x.natAbs%y.natAbs:=by
  have h1:=rC (decide (x<0)) (decide (y<0)) x.natAbs y.natAbs;rw[rD,rD]at h1;rw[<-h1,gM]
 rw[e];exact Nat.lt_of_le_of_lt (Nat.mod_le _ _) h
theorem Bd.gcd {x y:Int} {k:Nat} (h:Bd x k) (h':Bd y k):Bd ((x.gcd y:Nat):Int) k:=by
 unfold Bd at*
 rw[Int.natAbs_natCast];show Nat.gcd _ _<_;rcases Nat.eq_zero_or_pos x.natAbs with h0|h0
 ·rw[h0,Nat.gcd_zero_left];exact h'
 ·exact Nat.lt_of_le_of_lt (Nat.gcd_le_left _ h0) h
structure EA (l:List Term) (m:List (Int×Int)):Prop where
 may:bA 0 m=true
 all:∀t∈l,∀v,aH t.2 v<=aH m v
 att:∀v,aH m v=0∨ ∃t∈l,aH t.2 v=aH m v
theorem EA.nil:EA [] []:=⟨rfl,(fun t h=>by cases h),fun v=> .inl rfl⟩
theorem EA.next {l:List Term} {m:List (Int×Int)} {t:Term} (h:EA l m) (ht:bA 0 t.2=true):EA (l++[t]) (joinL (fun x y=>max x y) (orM m) (orM t.2)):=by
 rw[rz h.may,rz ht];have hj:=oh (f:=fun x y=>max x y) (by rfl) h.may ht;refine⟨?_,fun s hs v=>?_,fun v=>?_⟩
 ·rw[rF];refine⟨y9 (by rfl) h.may ht,fun v=>?_⟩;rw[hj];have h1:=fT h.may v;have h2:=fT ht v;omega
 ·rw[hj];rcases List.mem_append.1 hs with hs|hs
  ·have:=h.all s hs v;omega
  ·rw[List.mem_singleton.1 hs];omega
 ·rw[hj];by_cases hle:aH t.2 v<=aH m v
  ·rw[Int.max_eq_left hle];rcases h.att v with h0|⟨s,hs,h1⟩
   ·exact .inl h0
   ·exact .inr ⟨s,by simp[hs],h1⟩
  ·exact .inr ⟨t,by simp,by omega⟩
theorem Rb (ρ:Nat->Int) (q:List Term) {k:Nat} (hk:k<q.length):ev (q.take (k+1)) ρ=ev (q.take k) ρ+(q.getD k (0,[])).1*NC (q.getD k (0,[])).2 ρ:=by
 rw[List.take_succ_eq_append_getElem hk,KL,uM _ hk];simp[ev]
structure TB [Ol] (w:World) (K:Nat) (p q:List Term) (k K2:Nat) (so:Option Addr) (n2 cap2:Nat) (X2:List (List Value)) (ps2:List (List Term)) (V:World):Prop where
 pl:j5 w.heap.size K2 V so n2 cap2 X2 ps2
 kk:K2+n2<=K+K+k
 k2:K+K<=K2
 nk:n2<=k
 vs:∀ρ,evs ps2 ρ=ev p ρ*ev (q.take k) ρ
 ln:lens ps2<=k*p.length
 bw:Below w.heap.size w V
theorem TB.start [Ol] (w:World) (K:Nat) (p q:List Term):TB w K p q 0 (K+K) none 0 0 [] [] w:=⟨j5.nil _ _ _,by omega,Nat.le_refl _,Nat.le_refl _,fun ρ=>by simp[evs,ev],by simp[lens],Below.refl _ _⟩
theorem TB.below [Ol] {w:World} {K:Nat} {p q:List Term} {k K2:Nat} {so:Option Addr} {n2 cap2:Nat} {X2:List (List Value)} {ps2:List (List Term)} {V V':World} (h:TB w K p q k K2 so n2 cap2 X2 ps2 V) (hb:Below V.heap.size V V'):TB w K p q k K2 so n2 cap2 X2 ps2 V':={ h with pl:=h.pl.below hb,bw:=Below.steps h.bw hb }
theorem TB.next [Ol] {w:World} {K:Nat} {p q:List Term} {k K2:Nat} {so:Option Addr} {n2 cap2:Nat} {X2:List (List Value)} {ps2:List (List Term)} {V V':World} {e:Ending} (h:TB w K p q k K2 so n2 cap2 X2 ps2 V) {r:List Term} {t:Term} (hw:ND w.heap.size K2 n2 V ps2 r e V') (hk:k<q.length) (ht:t=q.getD k (0,[])) (hr:∀ρ,ev r ρ=ev p ρ*(t.1*NC t.2 ρ)) (hl:r.length<=p.length):
  ∃Y9 n3 vL X3 ps3 K3,e= .returned (.slice Y9 n3 vL)/\ TB w K p q (k+1) K3 Y9 n3 vL X3 ps3 V':=by
 obtain⟨Y9,n3,vL,X3,ps3,K3,rfl,h1,h2,h3,h4,h5,h6⟩:=hw;refine⟨Y9,n3,vL,X3,ps3,max K3 (K+K),rfl,⟨h1.mono (Nat.le_max_left _ _),?_,Nat.le_max_right _ _,by have:=h.nk;omega,fun ρ=>?_,?_,h.bw.trans h6⟩⟩
 ·have:=h.kk;have:=h.nk;omega
 ·rw[h4,h.vs,hr,Rb ρ q hk,<-ht];grind
 ·have:=h.ln;rw[Nat.add_mul,Nat.one_mul];omega
open Lib (hid)
theorem p9 [Ol] (r:Bool) {ao:Option Addr} {n cap:Nat} {ps:List Raw} {w:World} (hp:Pr w ao n cap ps) (hl:∀t∈ps,t.1.2.length<=1000) (h:nK ps=r):
  Calls Tryz.prog 32 #[.slice ao n cap] w (dI (.bool r) w):=by
 obtain⟨bM,hG,_⟩:=hp.ex;have hbig:=hG.big;have F5:=hid hp.len;have HP:=hid hp;have HR:=hid h;have HLL:=hid hl;clear hp hG h hl;go_enter Tryz.func32,Tryz.ntmps32;go_wp2;go_loopw [7] (fun i wr=>∃k:Nat,i= .int .i64 k/\ k<=n/\ Hid (∀t,t<k->sU ps t=true)/\ Hid (Below w.heap.size w wr)) (fun i _=>n-(intOf i).toNat)
 case atStart=>exact⟨0,rfl,Nat.zero_le _,fun t h=>by omega,Below.refl _ _⟩
 case round=>
  obtain⟨k,rfl,hk,HE,HB⟩:=hrel;by_cases hkn:k<n
  ·have F6:k<ps.length:=by rw[F5.out];omega
   obtain⟨b,off,xa,xn,xc,xp,xq,xr,rfl,hbw,hc,hs,hm⟩:=HP.out.at hkn;have hlen:(ps.getD k jW).1.2.length<=1000:=HLL.out _ (getD_in jW F6);obtain⟨⟨⟨xm,xs⟩,TD⟩,ht⟩:∃t,t=ps.getD k jW:=⟨_,rfl⟩;rw[<-ht]at hc hs hm hlen;have VQ:Hid (xs.length=xn):=hs.len;have HLK:Hid (xn<=1000):=by rw[Hid,<-VQ.out];exact hlen
   have HC:=hid hc;have HS:=hid hs;have HM:=hid hm;have XU:=hid ht;clear hc hs hm ht hlen;obtain⟨A,hA⟩:∃A,A=vS xm xn xs:=⟨_,rfl⟩;obtain⟨s,hs⟩:∃s,(dM xm (val xs)).sign=s:=⟨_,rfl⟩;obtain⟨C,hC⟩:∃C,(s==0)=C:=⟨_,rfl⟩;obtain⟨D,hD⟩:∃D,D=bA 0 TD:=⟨_,rfl⟩
   have HT:Hid (za ((xm,xs),TD)=(A&& !C&&D)):=by
    rw[Hid,KM HS.out.wf,VQ.out,<-hA,hs,hC,<-hD]
   have HA:=hid hA;have lq:=hid hs;have HD:=hid hD;obtain⟨c0,c1,c2⟩:=HC.out _ HB.out;clear hA hD hs;go_upto_region 4 with(fail)
   refine aj (fun W hW=>?_);obtain⟨a1,hB⟩:=nI wr [.bool xm,.slice xa xn xc,.slice xp xq xr] 70;rw[<-hW]at a1 hB;clear hW;have HX:=hid a1;have oJ:=hid (Below.steps HB.out hB);clear a1 hB c0 c1 c2;obtain⟨c0,c1,c2⟩:=HX.out.c3;cases A with
   |false=>
    have HR2:Hid (r=false):=by
     rw[Hid,<-HR.out];exact xN k F6 (by unfold sU;rw[<-XU.out,HT.out];rfl)
    go_wp2_with fail;refine(Jd false (HS.out.below oJ.out) HA.out.symm).mono ?_;rintro e w5 ⟨rfl,hB⟩;have pJ:=hid (Below.steps oJ.out hB);have Za:=hid (HX.out.below hB);clear hB oJ HX c0 c1 c2;go_wp2_with fail;go_ret;have hr:=HR2.out;subst hr;exact⟨rfl,pJ.out⟩
   |true=>
    go_wp2_with fail;refine(Jd true (HS.out.below oJ.out) HA.out.symm).mono ?_;rintro e w5 ⟨rfl,hB⟩;have pJ:=hid (Below.steps oJ.out hB);have Za:=hid (HX.out.below hB);clear hB oJ HX c0 c1 c2;obtain⟨c0,c1,c2⟩:=Za.out.c3;go_wp2_with fail;refine(qw s (x:=dM xm (val xs)) ⟨⟨xs,HS.out.below pJ.out,rfl⟩,Nat.le_trans HLK.out (by omega)⟩ lq.out).mono ?_;rintro e w6 ⟨rfl,hB⟩;have x9:=hid (Below.steps pJ.out hB);have HX6:=hid (Za.out.below hB);clear hB pJ Za c0 c1 c2;obtain⟨c0,c1,c2⟩:=HX6.out.c3;cases C with
    |true=>
     have HR2:Hid (r=false):=by
      rw[Hid,<-HR.out];exact xN k F6 (by unfold sU;rw[<-XU.out,HT.out];rfl)
     go_wp2_with fail;go_ret;have hr:=HR2.out;subst hr;exact⟨rfl,x9.out⟩
    |false=>
     go_wp2_with fail;refine(mU D (HM.out.below x9.out) HD.out.symm).mono ?_;rintro e w7 ⟨rfl,hB⟩;have Dx:=hid (Below.steps x9.out hB);have UF:=hid (HX6.out.below hB);clear hB x9 HX6 c0 c1 c2;obtain⟨c0,c1,c2⟩:=UF.out.c3;cases D with
     |false=>
      have HR2:Hid (r=false):=by
       rw[Hid,<-HR.out];exact xN k F6 (by unfold sU;rw[<-XU.out,HT.out];rfl)
      go_wp2_with fail;go_ret;have hr:=HR2.out;subst hr;exact⟨rfl,Dx.out⟩
     |true=>
      by_cases hk0:k=0
      ·subst hk0
       have HE2:Hid (∀t,t<0+1->sU ps t=true):=fun t ht=>by
        obtain rfl:t=0:=by omega
        unfold sU;rw[<-XU.out,HT.out];rfl
       have hd:decide ((0:Int)<((0:Nat):Int))=false:=rfl;clear c0 c1 c2;go_upto_region 6 with(fail)
       refine wp_region_held_drew (S:=fun w'=>True) (by kernel_rfl) trivial (fun hH=>?_);refine ai (fun w8 hW=>?_);have ji:Hid (Below w.heap.size w w8):=by rw[hW];exact Dx.out.drew
       clear hW Dx;refine bC 0 hH ?_;try simp only[aI]
       refine bC 1 hH ?_;try simp only[aI]
       refine bC 2 hH ?_;try simp only[aI]
       refine Bp 3 hH ?_;try simp only[aI]
       refine Bp 4 hH ?_;try simp only[aI]
       refine Bp 5 hH ?_;try simp only[aI]
       refine Bp 6 hH ?_;try simp only[aI]
       refine Bp 7 hH ?_;try simp only[aI]
       refine Bp 8 hH ?_;try simp only[aI]
       refine Bp 9 hH ?_;try simp only[aI]
       refine Bp 10 hH ?_;try simp only[aI]
       refine bC 11 hH ?_;try simp only[aI]
       refine wpAnyH_done (by kernel_rfl) ?_ _
       go_wp2_with fail;go_roundw
       case rel=>exact⟨0+1,by go_num,by omega,HE2,ji⟩
       case measure=>simp[intOf];omega
      ·obtain⟨j,rfl⟩:∃j,k=j+1:=⟨k-1,by omega⟩;have TF:j<ps.length:=by omega
       obtain⟨b',off',ya,yn,yc,yp,yq,yr,e,_,hc,hs,hm⟩:=HP.out.at (k:=j) (by omega);cases e;obtain⟨⟨⟨ym,ys⟩,yps⟩,ht⟩:∃t,t=ps.getD j jW:=⟨_,rfl⟩;rw[<-ht]at hc hm;have HCY:=hid hc;have Rf:=hid hm;have HTY:=hid ht;clear hc hm hs ht c0 c1 c2;have hd:decide ((0:Int)<((j+1:Nat):Int))=true:=decide_eq_true (by omega);have hw:IntKind.i64.wrap (j:Int)=(j:Int):=IntWalk.i64_in _ ⟨by omega,by omega⟩;have hjn:j<n:=by omega
       have hj1:0<=(j:Int)+1:=by omega
       have hj2:(j:Int)+1<(n:Int):=by omega
       have HY:Hid (bA 0 yps=true):=by
        have h:=HE.out j (by omega);unfold sU za at h;rw[<-HTY.out]at h;simp only[Bool.and_eq_true]at h;exact h.1.2
       obtain⟨z,hz⟩:∃z,lX yps TD=z:=⟨_,rfl⟩;have HRG:Hid (z= -1∨z=0∨z=1):=by rw[Hid,<-hz];exact vT HY.out HD.out.symm
       have HO:Hid (sU ps (j+1)=(z==1)):=by
        unfold sU;rw[Hid,<-XU.out,HT.out,show j+1-1=j from rfl,<-HTY.out];show(true&& !false&&true&&(j+1==0||lX yps TD==1))=(z==1);rw[hz];simp
       have Tv:=hid hz;clear hz;go_upto_region 6 with(fail)
       refine wp_region_held_drew (S:=fun w'=>(w'.cell? ⟨wr.heap.size,0,none⟩=some (.bool xm)/\ w'.cell? ⟨wr.heap.size,1,none⟩=some (.slice xa xn xc)/\ w'.cell? ⟨wr.heap.size,2,none⟩=some (.slice xp xq xr))/\ (w'.cell? ⟨b,off+j*3,none⟩=some (.bool ym)/\ w'.cell? ⟨b,off+j*3+1,none⟩=some (.slice ya yn yc)/\ w'.cell? ⟨b,off+j*3+2,none⟩=some (.slice yp yq yr))) (by kernel_rfl) ⟨UF.out.c3,HCY.out _ Dx.out.drew⟩ (fun hH=>?_);refine ai (fun w8 hW=>?_);have ji:Hid (Below w.heap.size w w8):=by rw[hW];exact Dx.out.drew
       have HX8:Hid (bD w8 wr.heap.size [.bool xm,.slice xa xn xc,.slice xp xq xr] 70):=by rw[hW];exact UF.out.below (Below.refl _ _).drew
       rw[<-hW]at hH;clear hW Dx UF;refine bC 0 hH ?_;try simp only[aI]
       refine bC 1 hH ?_;try simp only[aI]
       refine bC 2 hH ?_;try simp only[aI]
       refine bC 3 hH ?_;try simp only[aI]
       refine bC 4 hH ?_;try simp only[aI]
       refine bC 5 hH ?_;try simp only[aI]
       refine bC 6 hH ?_;try simp only[aI]
       refine bC 7 hH ?_;try simp only[aI]
       refine bC 8 hH ?_;try simp only[aI]
       refine ah 9 rfl (by kernel_rfl) (fun KK hK=>?_);go_simp;refine(KN z (Rf.out.below ji.out) (HM.out.below ji.out) HY.out HD.out.symm Tv.out).mono ?_;rintro e w9 ⟨rfl,hB⟩;have nH:=hid (Below.steps ji.out hB);have HX9:=hid (HX8.out.below hB);clear hB ji HX8;go_wp2_with fail;clear hH;refine hK.out _ _ ⟨HX9.out.c3,HCY.out _ nH.out⟩ fun hH=>?_;clear hK KK
       try simp only[aI]
       obtain⟨q,hq⟩:∃q,decide (z<=0)=q:=⟨_,rfl⟩
       have HQ:Hid ((z==1)= !q):=by
        rw[Hid,<-hq];rcases HRG.out with e|e|e<;>subst e<;>rfl
       cases q with
       |true=>
        have HR2:Hid (r=false):=by
         rw[Hid,<-HR.out];exact xN (j+1) F6 (by rw[HO.out,HQ.out];rfl)
        refine bC 10 hH ?_;try simp only[aI]
        refine bC 11 hH ?_;try simp only[aI]
        refine wpAnyH_done (by kernel_rfl) ?_ _
        go_wp2_with fail;go_ret;have hr:=HR2.out;subst hr;exact⟨rfl,nH.out⟩
       |false=>
        have HE2:Hid (∀t,t<j+1+1->sU ps t=true):=fun t ht=>by
         by_cases h:t<j+1
         ·exact HE.out t h
         ·obtain rfl:t=j+1:=by omega
          rw[HO.out,HQ.out];rfl
        refine bC 10 hH ?_;try simp only[aI]
        refine bC 11 hH ?_;try simp only[aI]
        refine wpAnyH_done (by kernel_rfl) ?_ _
        go_wp2_with fail;go_roundw
        case rel=>exact⟨j+1+1,by go_num,by omega,HE2,nH⟩
        case measure=>simp[intOf];omega
  ·obtain rfl:k=n:=by omega
   have HR2:Hid (r=true):=by
    rw[Hid,<-HR.out];exact decide_eq_true fun t ht=>HE.out t (by rw[<-F5.out];exact ht)
   go_wp2_with fail;go_ret;have hr:=HR2.out;subst hr;exact⟨rfl,HB.out⟩
theorem Pr.pc [Ol] {K:Nat} {w:World} {ao:Option Addr} {n cap:Nat} {p:List Term} (h:Pr w ao n cap (p.map jr)) (hk:∀t∈p.map jr,t.1.2.length<=K):Pc K w ao n cap p:=by
 obtain⟨bM,h1,h2⟩:=h.ex
 have h3:bY (jV K w) bM ((p.map jr).map rU):=by
  refine bY.map rU (fun v a ha h=>?_) h2;obtain⟨t,ht,rfl⟩:=List.mem_map.1 ha;obtain⟨ao,n,cap,bo,k,cb,e1,e2,e4⟩:=h
  have hb:Bd t.1 K:=by
   have h4:=hk _ ha;have h5:=eu (limbs t.1.natAbs) e2.wf;rw[au]at h5;exact wE h5 h4
  rw[qW];exact⟨_,ao,n,cap,bo,k,cb,e1,⟨rfl,e2⟩,hb,e4⟩
 rw[List.map_map,show rU ∘ jr=id from funext qW,List.map_id]at h3;exact⟨bM,h1,h3⟩
theorem Pc.lens [Ol] {K:Nat} {w:World} {ao:Option Addr} {n cap:Nat} {p:List Term} (h:Pc K w ao n cap p):∀t∈p.map jr,t.1.2.length<=K:=by
 intro t ht;obtain⟨s,hs,rfl⟩:=List.mem_map.1 ht;obtain⟨i,hi,rfl⟩:=List.mem_iff_getElem.1 hs;obtain⟨_,_,_,_,_,_,_,_,_,_,_,_,_,hb,_⟩:=h.at (k:=i) (by rw[<-h.len];exact hi);rw[uM _ hi]at hb;exact hb.len
theorem xZ [Ol] {K:Nat} {w:World} {ao:Option Addr} {n cap:Nat} {p:List Term} (h:Pc K w ao n cap p) (hf:fall p) (hK:K<=1000):Calls Tryz.prog 32 #[.slice ao n cap] w (dI (.bool true) w):=
 p9 true h.raw (fun t ht=>Nat.le_trans (h.lens t ht) hK) (Br hf)
section
variable {K:Nat} {ao bo:Option Addr} {n cap m cb:Nat} {p q:List Term} {ps qs:List Raw} {w:World}
end
section
variable {K:Nat} {ao:Option Addr} {n cap:Nat} {p:List Term} {ps:List Raw} {w:World}
end
end Go.Proofs.YtmenbpmciblnlaaGreatDoor

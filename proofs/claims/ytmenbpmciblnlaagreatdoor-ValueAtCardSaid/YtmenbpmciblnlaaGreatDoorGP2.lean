/- PMay, PMayP, PlOrd, PlAt, PlRw, PlNum, PlEach, PlOwn, PlRow, PlGrow, PlDel -/
import Derived.Test.YtmenbpmciblnlaaGreatDoorGP1
set_option maxHeartbeats 0
set_option maxRecDepth 100000
open Bool renaming and_eq_true->a0a
open Go.Builtin renaming append->a0c,append_->a0d,zeroCells->a0b
open Go.RowKit.Below renaming heap_setCell->a0f,refl->a0e
open Go.Value renaming agg->a0h,cells->a0i,slice->a0g
open List renaming eq_nil_of_length_eq_zero->a0m,getD->a0j,getElem?_eq_getElem->a0k,getElem_mem->a0l,length_map->a0o,length_set->a0p,length_take->a0q,mem_map->a0n
open Nat renaming add_mul->a0t,le_refl->a0r,le_trans->a0u,lt_of_lt_of_le->a0v,mul_le_mul_right->a0s,zero_add->a0w
open Option.some renaming inj->a0x
namespace Go.Proofs.YtmenbpmciblnlaaGreatDoor
open Lib (hid)
open Go.RowKit
def wh (t:Raw):Bool:=uw t.1.1 t.1.2.length t.1.2&& !(t.1.2.length==0)&&aZ 0 t.2
def mg (ps:List Raw) (t:Nat):Bool:=wh (ps.getD t iq)&&(t==0||lS (ps.getD (t-1) iq).2 (ps.getD t iq).2==1)
def kX (ps:List Raw):Bool:=decide (∀t,t<ps.length->mg ps t=true)
theorem om {ps:List Raw} (t:Nat) (ht:t<ps.length) (h:mg ps t=false):kX ps=false:=decide_eq_false λg=>by rw[g t ht]at h;cases h
theorem Ac {ps:List Raw} {t:Nat} (h:t<ps.length):ps.getD t iq=ps[t]:=by simp[a0j,a0k h]
theorem zU [Ol] (r:Bool) {ao:Option Addr} {n cap:Nat} {ps:List Raw} {w:World} (hp:Pr w ao n cap ps) (hl:∀t∈ps,t.1.2.length<=1000) (h:kX ps=r):
  Calls Tryz.prog 12 #[a0g ao n cap] w (cu (.bool r) w):=by
 obtain⟨bS,hG,hT⟩:=hp.ex;have hbig:=hG.big;have xw:=hid hp.len;have Ut:=hid hG;have TV:=hid hT;have HR:=hid h;have HLL:=hid hl;clear hp hG hT h hl;go_enter Tryz.func12,Tryz.ntmps12;go_wp2;go_loopw [3] (λi wr=>∃k:Nat,i= .int .i64 k/\ k<=n/\ Hid (∀t,t<k->mg ps t=true)/\ Hid (Below w.heap.size w wr)) (λi _=>n-(intOf i).toNat)
 case atStart=>exact⟨0,rfl,Nat.zero_le _,λt h=>by omega,a0e _ _⟩
 case round=>
  obtain⟨k,rfl,hk,HE,HB⟩:=hrel;by_cases hkn:k<n
  ·obtain⟨b,off,rfl,_,hca⟩:=Ut.out.at (by omega);have XR:=hid hca;clear hca;have hcl:=XR.out;obtain⟨xa,xn,xc,xp,xq,xr,hv,tz,oF⟩:=cB.get iq TV.out k (by rw[xw.out];omega);have vG:k<ps.length:=by rw[xw.out];omega
   have Gn:ps.getD k iq=ps[k]:=by simp[a0j,a0k vG]
   have hcells:∀V:World,Below w.heap.size w V->(V.cell? ⟨b,off+k*3,none⟩=some (.bool (ps.getD k iq).1.1)/\ V.cell? ⟨b,off+k*3+1,none⟩=some (a0g xa xn xc)/\ V.cell? ⟨b,off+k*3+2,none⟩=some (a0g xp xq xr)):=by
    intro V hV;have h0:=hcl V hV k (by omega) 0 (by omega);have h1:=hcl V hV k (by omega) 1 (by omega);have h2:=hcl V hV k (by omega) 2 (by omega);rw[hv]at h0 h1 h2;exact⟨h0,h1,h2⟩
   rw[Gn]at tz oF;obtain⟨xm,hxm⟩:∃xm,xm=(ps.getD k iq).1.1:=⟨_,rfl⟩;rw[<-hxm]at hcells;rw[Gn]at hxm;have vR:=hid hcells;have Lr:=hid tz;have Qk:=hid oF;have HNP:=hid hxm;clear hcl hv hcells tz oF Gn hxm;have HLK:Hid (xn<=1000):=by rw[Hid,<-Lr.out.len];exact HLL.out _ (a0l _)
   have WW:Hid ((ps[k]).1.2.length=xn):=Lr.out.len;obtain⟨A,hA⟩:∃A,A=uw xm xn (ps[k]).1.2:=⟨_,rfl⟩;obtain⟨C,hC⟩:∃C,((xn:Int)==0)=C:=⟨_,rfl⟩;obtain⟨D,hD⟩:∃D,D=aZ 0 (ps[k]).2:=⟨_,rfl⟩
   have HT:Hid (wh (ps[k])=(A&& !C&&D)):=by
    rw[Hid,hA,<-hC,hD];unfold wh;rw[WW.out,HNP.out]
    congr 2
    by_cases h0:xn=0
    ·subst h0;rfl
    ·rw[show(xn==0)=false from by simpa using h0,show((xn:Int)==0)=false from by simpa using h0]
   have HA:=hid hA;have HD:=hid hD;obtain⟨c0,c1,c2⟩:=vR.out _ HB.out;clear hA hD;cases A with
   |false=>
    have HR2:Hid (r=false):=by
     rw[Hid,<-HR.out];exact om k vG (by unfold mg;rw[Ac vG,HT.out];rfl)
    go_wp2_with fail;refine(LD false (Lr.out.below HB.out) HLK.out HA.out.symm).mono ?_;rintro e w5 ⟨rfl,hB⟩;have og:=hid (Below.steps HB.out hB);clear hB HB c0 c1 c2;go_wp2_with fail;go_ret;have hr:=HR2.out;subst hr;exact⟨rfl,og.out⟩
   |true=>
    go_wp2_with fail;refine(LD true (Lr.out.below HB.out) HLK.out HA.out.symm).mono ?_;rintro e w5 ⟨rfl,hB⟩;have og:=hid (Below.steps HB.out hB);clear hB HB c0 c1 c2;obtain⟨c0,c1,c2⟩:=vR.out _ og.out;cases C with
    |true=>
     have HR2:Hid (r=false):=by
      rw[Hid,<-HR.out];exact om k vG (by unfold mg;rw[Ac vG,HT.out];rfl)
     go_wp2_with fail;go_ret;have hr:=HR2.out;subst hr;exact⟨rfl,og.out⟩
    |false=>
     go_wp2_with fail;refine(lU D (Qk.out.below og.out) HD.out.symm).mono ?_;rintro e w6 ⟨rfl,hB⟩;have xD:=hid (Below.steps og.out hB);clear hB og c0 c1 c2;cases D with
     |false=>
      have HR2:Hid (r=false):=by
       rw[Hid,<-HR.out];exact om k vG (by unfold mg;rw[Ac vG,HT.out];rfl)
      go_wp2_with fail;go_ret;have hr:=HR2.out;subst hr;exact⟨rfl,xD.out⟩
     |true=>
      by_cases hk0:k=0
      ·subst hk0
       have HE2:Hid (∀t,t<0+1->mg ps t=true):=λt ht=>by
        obtain rfl:t=0:=by omega
        unfold mg;rw[Ac vG,HT.out];rfl
       have hd:decide ((0:Int)<((0:Nat):Int))=false:=rfl;go_upto_region 6 with(fail)
       refine wp_region_held_drew (S:=λw'=>True) (by kernel_rfl) trivial (λhH=>?_);refine ai (λw4 hW=>?_);have Ag:Hid (Below w.heap.size w w4):=by rw[hW];exact xD.out.drew
       clear hW xD;refine aQ 0 hH ?_;try simp only[ax]
       refine aQ 1 hH ?_;try simp only[ax]
       refine aQ 2 hH ?_;try simp only[ax]
       refine uq 3 hH ?_;try simp only[ax]
       refine uq 4 hH ?_;try simp only[ax]
       refine uq 5 hH ?_;try simp only[ax]
       refine uq 6 hH ?_;try simp only[ax]
       refine uq 7 hH ?_;try simp only[ax]
       refine uq 8 hH ?_;try simp only[ax]
       refine uq 9 hH ?_;try simp only[ax]
       refine uq 10 hH ?_;try simp only[ax]
       refine uq 11 hH ?_;try simp only[ax]
       refine uq 12 hH ?_;try simp only[ax]
       refine uq 13 hH ?_;try simp only[ax]
       refine uq 14 hH ?_;try simp only[ax]
       refine uq 15 hH ?_;try simp only[ax]
       refine aQ 16 hH ?_;try simp only[ax]
       refine wpAnyH_done (by kernel_rfl) ?_ _
       go_wp2_with fail;go_roundw
       case rel=>exact⟨0+1,by go_num,by omega,HE2,Ag⟩
       case measure=>simp[intOf];omega
      ·obtain⟨j,rfl⟩:∃j,k=j+1:=⟨k-1,by omega⟩;have hcl:=XR.out;obtain⟨ya,yn,yc,yp,yq,yr,hv,tz,oF⟩:=cB.get iq TV.out j (by rw[xw.out];omega);have Po:j<ps.length:=by rw[xw.out];omega
       have Ua:ps.getD j iq=ps[j]:=by simp[a0j,a0k Po]
       have hcells:∀V:World,Below w.heap.size w V->(V.cell? ⟨b,off+j*3,none⟩=some (.bool (ps.getD j iq).1.1)/\ V.cell? ⟨b,off+j*3+1,none⟩=some (a0g ya yn yc)/\ V.cell? ⟨b,off+j*3+2,none⟩=some (a0g yp yq yr)):=by
        intro V hV;have h0:=hcl V hV j (by omega) 0 (by omega);have h1:=hcl V hV j (by omega) 1 (by omega);have h2:=hcl V hV j (by omega) 2 (by omega);rw[hv]at h0 h1 h2;exact⟨h0,h1,h2⟩
       rw[Ua]at tz oF;obtain⟨ym,hym⟩:∃ym,ym=(ps.getD j iq).1.1:=⟨_,rfl⟩;rw[<-hym]at hcells;rw[Ua]at hym;have MV:=hid hcells;have HSQ:=hid tz;have HMQ:=hid oF;have HNQ:=hid hym;clear hcl hv hcells tz oF Ua hym;have hd:decide ((0:Int)<((j+1:Nat):Int))=true:=decide_eq_true (by omega);have hw:IntKind.i64.wrap (j:Int)=(j:Int):=IntWalk.i64_in _ ⟨by omega,by omega⟩;have hjn:j<n:=by omega
       have hj1:0<=(j:Int)+1:=by omega
       have hj2:(j:Int)+1<(n:Int):=by omega
       obtain⟨z,hz⟩:∃z,z=lS (ps[j]).2 (ps[j+1]).2:=⟨_,rfl⟩
       have HY:Hid (aZ 0 (ps[j]).2=true):=by
        have h:=HE.out j (by omega);unfold mg wh at h;rw[Ac Po]at h;simp only[a0a]at h;exact h.1.2
       have HZC:Hid (qN z (nW (ps[j]).2) (nW (ps[j+1]).2)):=by rw[hz,qj HY.out,qj HD.out.symm];exact nX HY.out HD.out.symm
       have TW:=hid hz;clear hz
       have HO:Hid (mg ps (j+1)=(z==1)):=by
        unfold mg;rw[Hid,Ac vG,HT.out,show j+1-1=j from rfl,Ac Po,<-TW.out];simp
       go_upto_region 6 with(fail)
       refine wp_region_held_drew (S:=λw'=>(w'.cell? ⟨b,off+(j+1)*3,none⟩=some (.bool xm)/\ w'.cell? ⟨b,off+(j+1)*3+1,none⟩=some (a0g xa xn xc)/\ w'.cell? ⟨b,off+(j+1)*3+2,none⟩=some (a0g xp xq xr))/\ (w'.cell? ⟨b,off+j*3,none⟩=some (.bool ym)/\ w'.cell? ⟨b,off+j*3+1,none⟩=some (a0g ya yn yc)/\ w'.cell? ⟨b,off+j*3+2,none⟩=some (a0g yp yq yr))) (by kernel_rfl) ⟨vR.out _ xD.out.drew,MV.out _ xD.out.drew⟩ (λhH=>?_);refine ai (λw4 hW=>?_);have Ag:Hid (Below w.heap.size w w4):=by rw[hW];exact xD.out.drew
       rw[<-hW]at hH;clear hW xD;refine aQ 0 hH ?_;try simp only[ax]
       refine aQ 1 hH ?_;try simp only[ax]
       refine aQ 2 hH ?_;try simp only[ax]
       refine aQ 3 hH ?_;try simp only[ax]
       refine aQ 4 hH ?_;try simp only[ax]
       refine aQ 5 hH ?_;try simp only[ax]
       refine aQ 6 hH ?_;try simp only[ax]
       refine aQ 7 hH ?_;try simp only[ax]
       refine aQ 8 hH ?_;try simp only[ax]
       refine aQ 9 hH ?_;try simp only[ax]
       refine aQ 10 hH ?_;try simp only[ax]
       refine aQ 11 hH ?_;try simp only[ax]
       refine aQ 12 hH ?_;try simp only[ax]
       refine aQ 13 hH ?_;try simp only[ax]
       refine ah 14 rfl (by kernel_rfl) (λKK hK=>?_);go_simp;refine(ql (HMQ.out.below Ag.out) (Qk.out.below Ag.out) z HZC.out).mono ?_;rintro e w8 ⟨rfl,hB⟩;have jl:=hid (Below.steps Ag.out hB);clear hB Ag;go_wp2_with fail;clear hH;refine hK.out _ _ ⟨vR.out _ jl.out,MV.out _ jl.out⟩ λhH=>?_;clear hK KK
       try simp only[ax]
       obtain⟨q,hq⟩:∃q,(z==1)=q:=⟨_,rfl⟩;have hq2:(z !=1)= !q:=by rw[<-hq];rfl
       have HQ:=hid hq;cases q with
       |true=>
        have HE2:Hid (∀t,t<j+1+1->mg ps t=true):=λt ht=>by
         by_cases h:t<j+1
         ·exact HE.out t h
         ·obtain rfl:t=j+1:=by omega
          rw[HO.out,HQ.out]
        refine aQ 15 hH ?_;try simp only[ax]
        refine aQ 16 hH ?_;try simp only[ax]
        refine wpAnyH_done (by kernel_rfl) ?_ _
        go_wp2_with fail;go_roundw
        case rel=>exact⟨j+1+1,by go_num,by omega,HE2,jl⟩
        case measure=>simp[intOf];omega
       |false=>
        have HR2:Hid (r=false):=by
         rw[Hid,<-HR.out];exact om (j+1) vG (by rw[HO.out,HQ.out])
        refine aQ 15 hH ?_;try simp only[ax]
        refine aQ 16 hH ?_;try simp only[ax]
        refine wpAnyH_done (by kernel_rfl) ?_ _
        go_wp2_with fail;go_ret;have hr:=HR2.out;subst hr;exact⟨rfl,jl.out⟩
  ·obtain rfl:k=n:=by omega
   have HR2:Hid (r=true):=by
    rw[Hid,<-HR.out];exact decide_eq_true λt ht=>HE.out t (by rw[<-xw.out];exact ht)
   go_wp2_with fail;go_ret;have hr:=HR2.out;subst hr;exact⟨rfl,HB.out⟩
theorem yH:∀p:List Term,(∀t∈p,t.1≠0/\ aZ 0 t.2=true)->(∀i,i+1<p.length->xg (p.getD i (0,[])).2 (p.getD (i+1) (0,[])).2)->fall p
 |[],_,_=>trivial
 |[t],h,_=>by
  refine⟨(h t (by simp)).1,(h t (by simp)).2,?_,trivial⟩;intro s hs;cases hs
 |t::s::r,h,ha=>by
  have ih:=yH (s::r) (λu hu=>h u (by simp[hu])) (λi hi=>by
   have:=ha (i+1) (by simpa using hi);simpa using this)
  have h0:xg t.2 s.2:=by
   have:=ha 0 (by simp);simpa using this
  refine⟨(h t (by simp)).1,(h t (by simp)).2,λu hu=>?_,ih⟩;rcases List.mem_cons.1 hu with rfl|hu
  ·exact h0
  ·exact tH h0 (ih.2.2.1 u hu)
theorem GR:∀{p:List Term},fall p->∀i,i+1<p.length->xg (p.getD i (0,[])).2 (p.getD (i+1) (0,[])).2
 |t::s::r,h,0,_=>by
  have:=h.2.2.1 s (by simp);simpa using this
 |t::r,h,i+1,hi=>by
  have:=GR h.2.2.2 i (by simpa using hi);simpa using this
 |[t],_,0,hi=>by simp at hi
theorem Au {t:Raw} (hw:Wf t.1.2) (h:wh t=true):t=jO (mq t)/\ (mq t).1≠0/\ aZ 0 t.2=true:=by
 unfold wh at h;rw[a0a,a0a,wu hw]at h;obtain⟨⟨h1,h2⟩,h3⟩:=h;have h1:=of_decide_eq_true h1;refine⟨?_,λh0=>?_,h3⟩
 ·obtain⟨⟨m,xs⟩,ps⟩:=t;exact Prod.ext (Prod.ext h1.1 h1.2) rfl
 ·have h4:dK t.1.1 (val t.1.2)=0:=h0;rw[h4]at h1;rw[h1.2]at h2;simp[iy]at h2
theorem Nk {t:Term} (h0:t.1≠0) (hm:aZ 0 t.2=true):wh (jO t)=true:=by
 unfold wh;rw[a0a,a0a];refine⟨⟨?_,?_⟩,hm⟩
 ·show uw (decide (t.1<0)) (limbs t.1.natAbs).length (limbs t.1.natAbs)=true;rw[wu (eF _)];simp only[au,tu];simp
 ·have hl:(limbs t.1.natAbs).length≠0:=λe=>by
   have h:=au t.1.natAbs;rw[a0m e,dY]at h;omega
  unfold jO;simpa using hl
theorem getD_map {α β:Type} (f:α->β) (d:α) (e:β) (l:List α) (i:Nat) (hi:i<l.length):(l.map f).getD i e=f (l.getD i d):=by
 simp[a0j,a0k hi]
theorem vL {ps:List Raw} (hw:∀t∈ps,Wf t.1.2) (h:kX ps=true):fall (ps.map mq)/\ ps=(ps.map mq).map jO:=by
 have h:=of_decide_eq_true h
 have hT:∀i,i<ps.length->wh (ps.getD i iq)=true:=λi hi=>by
  have:=h i hi;unfold mg at this;rw[a0a]at this;exact this.1
 have hM:∀t∈ps,wh t=true:=λt ht=>by
  obtain⟨i,hi,rfl⟩:=List.getElem_of_mem ht;rw[<-Ac hi];exact hT i hi
 refine⟨yH _ (λt ht=>?_) (λi hi=>?_),?_⟩
 ·obtain⟨s,hs,rfl⟩:=a0n.1 ht;exact(Au (hw s hs) (hM s hs)).2
 ·rw[a0o]at hi;rw[getD_map mq iq (0,[]) ps i (by omega),getD_map mq iq (0,[]) ps (i+1) hi];have h1:=h (i+1) hi;unfold mg at h1;rw[a0a,show i+1-1=i from rfl]at h1;have h2:lS (ps.getD i iq).2 (ps.getD (i+1) iq).2=1:=by simpa using h1.2
  have hm:∀j,j<ps.length->aZ 0 (ps.getD j iq).2=true:=λj hj=>by
   rw[Ac hj];exact(Au (hw _ (a0l _)) (hM _ (a0l hj))).2.2
  exact Q5 (hm i (by omega)) (hm (i+1) hi) h2
 ·rw[List.map_map]
  conv=>lhs;rw[<-List.map_id ps]
  exact List.map_congr_left λt ht=>(Au (hw t ht) (hM t ht)).1
theorem Dp {p:List Term} (h:fall p):kX (p.map jO)=true:=by
 refine decide_eq_true λi hi=>?_
 rw[a0o]at hi
 have hm:∀j,j<p.length->(p.getD j (0,[])).1≠0/\ aZ 0 (p.getD j (0,[])).2=true:=λj hj=>by
  have e:p.getD j (0,[])=p[j]:=by simp[a0j,a0k hj]
  rw[e];exact⟨sS h _ (a0l _),iF h _ (a0l _)⟩
 unfold mg;rw[getD_map jO (0,[]) iq p i hi,Nk (hm i hi).1 (hm i hi).2];cases i with
 |zero=>rfl
 |succ j=>
  rw[show j+1-1=j from rfl,getD_map jO (0,[]) iq p j (by omega)];have:=Yh (hm j (by omega)).2 (hm (j+1) hi).2 (GR h j hi);simp[jO]at this ⊢;exact this
theorem jC (w:World) (u:List Value) (S:TypeId):bD (w.alloc (.cells u.toArray S)) w.heap.size u S/\ Below w.heap.size w (w.alloc (.cells u.toArray S)):=
 ⟨bD.new w u S,af w _⟩
theorem ad6 (w:World) (u v:List Value) (S T:TypeId):
  bD ((w.alloc (.cells u.toArray S)).alloc (.cells v.toArray T)) w.heap.size u S/\ bD ((w.alloc (.cells u.toArray S)).alloc (.cells v.toArray T)) (w.heap.size+1) v T/\ Below w.heap.size w ((w.alloc (.cells u.toArray S)).alloc (.cells v.toArray T)):=by
 have h1:=bD.new (w.alloc (.cells u.toArray S)) v T;rw[World.size_alloc]at h1;exact⟨(bD.new w u S).below (af _ _),h1,((a0e _ w).alloc (a0r _) _).alloc (by simp) _⟩
theorem Nl [Ol] (z:Int) {xm ym:Bool} {xa ya xp yp:Option Addr} {xn xc xq xr yn yc yq yr:Nat} {ps qs:List (Int×Int)} {w:World} (hx:Ml w xp xq xr ps) (hy:Ml w yp yq yr qs) (h1:aZ 0 ps=true) (h2:aZ 0 qs=true) (hz:lS ps qs=z):
  Calls Tryz.prog 91 #[.agg #[.bool xm,a0g xa xn xc,a0g xp xq xr],.agg #[.bool ym,a0g ya yn yc,a0g yp yq yr]] w (cu (.int .i64 z) w):=by
 have HX:=Lib.hid hx;have HY:=Lib.hid hy;have HZ:Hid (Nn ps qs=(z,0)):=by unfold Nn;rw[Hid,if_pos ⟨h1,h2⟩,hz]
 clear hx hy h1 h2 hz;go_enter Tryz.func91,Tryz.ntmps91;go_upto_region 1 with(fail)
 refine aj (λW hW=>?_);obtain⟨a1,a2,hB⟩:=ad6 w [.bool xm,a0g xa xn xc,a0g xp xq xr] [.bool ym,a0g ya yn yc,a0g yp yq yr] 70 70;rw[<-hW]at a1 a2 hB;clear hW;have c1:=a1.cell 2;have c2:=a2.cell 2;simp only[List.getElem?_cons_succ,List.getElem?_cons_zero]at c1 c2;have HB:=Lib.hid hB;clear a1 a2 hB;go_wp2_with fail;refine(JZ z 0 (HX.out.below HB.out) (HY.out.below HB.out) HZ.out).mono ?_;rintro e w' ⟨rfl,hB⟩;have HB2:=Lib.hid (Below.steps HB.out hB);clear hB HB c1 c2;go_wp2_with fail;go_ret;exact⟨rfl,HB2.out⟩
def yt (w:World) (b o:Nat) (u0 u1 u2:Value):Prop:=∀V:World,Below w.heap.size w V->V.cell? ⟨b,o,none⟩=some u0/\ V.cell? ⟨b,o+1,none⟩=some u1/\ V.cell? ⟨b,o+2,none⟩=some u2
theorem Gl.Lg [Ol] {w:World} {b off n cap:Nat} {bS:List (List Value)} (h:Gl 3 w (some ⟨b,off,none⟩) n cap bS) {k:Nat} (hk:k<n) {u0 u1 u2:Value} (e:bS.getD k []=[u0,u1,u2]):yt w b (off+k*3) u0 u1 u2:=by
 intro V hV;have hc:=λj hj=>(h.below hV).cells _ rfl k hk j hj
 have h0:=hc 0 (by omega);have h1:=hc 1 (by omega);have h2:=hc 2 (by omega);rw[e]at h0 h1 h2;rw[Addr.add_lit]at h0 h1 h2;rw[<-Nat.add_assoc]at h0 h1 h2;exact⟨h0,h1,h2⟩
theorem Gl.zu [Ol] {sz:Nat} {w:World} {ao:Option Addr} {n cap:Nat} {bS:List (List Value)} (h:Gl sz w ao n cap bS) (hn:0<n):∃b off,ao=some ⟨b,off,none⟩/\ b<w.heap.size:=by
 obtain⟨b,off,h1,h2,_⟩:=h.at hn;exact⟨b,off,h1,h2⟩
theorem Pr.at [Ol] {w:World} {ao:Option Addr} {n cap:Nat} {ps:List Raw} (h:Pr w ao n cap ps) {k:Nat} (hk:k<n):
  ∃b off xa xn xc xp xq xr,ao=some ⟨b,off,none⟩/\ b<w.heap.size/\ yt w b (off+k*3) (.bool (ps.getD k iq).1.1) (a0g xa xn xc) (a0g xp xq xr)/\ Sl w xa xn xc (ps.getD k iq).1.2/\ Ml w xp xq xr (ps.getD k iq).2:=by
 have hl:=h.len;obtain⟨bS,hG,hT⟩:=h.ex;obtain⟨b,off,rfl,hb⟩:=hG.zu (by omega);obtain⟨xa,xn,xc,xp,xq,xr,hv,h1,h2⟩:=cB.get iq hT k (by omega);exact⟨b,off,xa,xn,xc,xp,xq,xr,rfl,hb,hG.Lg hk hv,h1,h2⟩
theorem Pc.at [Ol] {K:Nat} {w:World} {ao:Option Addr} {n cap:Nat} {p:List Term} (h:Pc K w ao n cap p) {k:Nat} (hk:k<n):
  ∃b off xm xa xn xc xp xq xr,ao=some ⟨b,off,none⟩/\ b<w.heap.size/\ yt w b (off+k*3) (.bool xm) (a0g xa xn xc) (a0g xp xq xr)/\ Cn w xm xa xn xc (p.getD k (0,[])).1/\ Bd (p.getD k (0,[])).1 K/\ Ml w xp xq xr (p.getD k (0,[])).2:=by
 have hl:=h.len;obtain⟨bS,hG,hT⟩:=h.ex;obtain⟨b,off,rfl,hb⟩:=hG.zu (by omega);obtain⟨xm,xa,xn,xc,xp,xq,xr,hv,h1,h2,h3⟩:=cB.get (0,[]) hT k (by omega);exact⟨b,off,xm,xa,xn,xc,xp,xq,xr,rfl,hb,hG.Lg hk hv,h1,h2,h3⟩
theorem Pi.at [Ol] {K:Nat} {w:World} {ao:Option Addr} {n cap:Nat} {p:List Term} (h:Pi K w ao n cap p) {k:Nat} (hk:k<n):
  ∃b off xm xa xn xc xp xq xr,ao=some ⟨b,off,none⟩/\ b<w.heap.size/\ yt w b (off+k*3) (.bool xm) (a0g xa xn xc) (a0g xp xq xr)/\ In w xm xa xn xc (p.getD k (0,[])).1/\ xn<=K/\ Ml w xp xq xr (p.getD k (0,[])).2:=by
 have hl:=h.len;obtain⟨bS,hG,hT⟩:=h.ex;obtain⟨b,off,rfl,hb⟩:=hG.zu (by omega);obtain⟨xm,xa,xn,xc,xp,xq,xr,hv,h1,h2,h3⟩:=cB.get (0,[]) hT k (by omega);exact⟨b,off,xm,xa,xn,xc,xp,xq,xr,rfl,hb,hG.Lg hk hv,h1,h2,h3⟩
theorem sP {α:Type} {l:List α} {k:Nat} (d:α) (h:k<l.length):l.getD k d=l[k]:=by simp[a0j,a0k h]
theorem getD_in {α:Type} {l:List α} {k:Nat} (d:α) (h:k<l.length):l.getD k d∈l:=by rw[sP d h];exact a0l _
theorem bD.c3 {w:World} {b:Nat} {u0 u1 u2:Value} {T:TypeId} (h:bD w b [u0,u1,u2] T):w.cell? ⟨b,0,none⟩=some u0/\ w.cell? ⟨b,1,none⟩=some u1/\ w.cell? ⟨b,2,none⟩=some u2:=⟨h.cell 0,h.cell 1,h.cell 2⟩
theorem bD.f3 {w:World} {b:Nat} {u0 u1 u2:Value} {T:TypeId} (h:bD w b [u0,u1,u2] T):w.frozen? ⟨b,0,none⟩=false/\ w.frozen? ⟨b,1,none⟩=false/\ w.frozen? ⟨b,2,none⟩=false:=⟨h.fz 0,h.fz 1,h.fz 2⟩
theorem bD.c1 {w:World} {b:Nat} {u0:Value} {T:TypeId} (h:bD w b [u0] T):w.cell? ⟨b,0,none⟩=some u0:=h.cell 0
theorem bD.f1 {w:World} {b:Nat} {u0:Value} {T:TypeId} (h:bD w b [u0] T):w.frozen? ⟨b,0,none⟩=false:=h.fz 0
theorem bD.c2 {w:World} {b:Nat} {u0 u1:Value} {T:TypeId} (h:bD w b [u0,u1] T):w.cell? ⟨b,0,none⟩=some u0/\ w.cell? ⟨b,1,none⟩=some u1:=⟨h.cell 0,h.cell 1⟩
theorem Np {xm:Bool} {xs:List Nat} {WZ:List (Int×Int)} (hw:Wf xs):wh ((xm,xs),WZ)=(uw xm xs.length xs&& !((dK xm (val xs)).sign==0)&&aZ 0 WZ):=by
 unfold wh;show(uw xm xs.length xs&& !(xs.length==0)&&aZ 0 WZ)=_;cases hA:uw xm xs.length xs with
 |false=>rfl
 |true=>
  rw[wu hw]at hA;have h2:=(of_decide_eq_true hA).2
  congr 2
  congr 1
  by_cases h0:dK xm (val xs)=0
  ·rw[h0]at h2 ⊢;rw[h2];rfl
  ·have h3:(dK xm (val xs)).sign≠0:=λe=>h0 (Int.sign_eq_zero_iff_zero.1 e)
   have h4:xs.length≠0:=λe=>by
    have e2:xs=[]:=a0m e;rw[e2]at h0;exact h0 (by cases xm<;>rfl)
   rw[show(xs.length==0)=false from by simpa using h4,show((dK xm (val xs)).sign==0)=false from by simpa using h3]
def Clean (L:List Value):Prop:=∀u∈L,bF u=true
def pF:List Value->Nat->List Value->List Value
 |L,_,[]=>L
 |L,o,v::r=>pF (L.set o v) (o+1) r
theorem iO:∀(vs L:List Value) (o:Nat),(pF L o vs).length=L.length
 |[],_,_=>rfl
 |v::r,L,o=>by rw[pF,iO r,a0p]
theorem jQ:∀(vs L:List Value) (o i:Nat),i<o∨o+vs.length<=i->(pF L o vs)[i]? =L[i]?
 |[],_,_,_,_=>rfl
 |v::r,L,o,i,h=>by
  rw[pF,jQ r _ _ i (by simp at h;omega),List.getElem?_set_ne (by simp at h;omega)]
theorem jV:∀(vs L:List Value) (o i:Nat),o<=i->i<o+vs.length->i<L.length->(pF L o vs)[i]? =vs[i-o]?
 |[],_,_,_,h,h2,_=>by simp at h2;omega
 |v::r,L,o,i,h,h2,h3=>by
  rw[pF];by_cases e:i=o
  ·subst e;rw[jQ r _ _ _ (by omega),Nat.sub_self,List.getElem?_set_self (by omega)];rfl
  ·rw[jV r _ _ i (by omega) (by simp at h2;omega) (by rw[a0p];exact h3),show i-o=(i-(o+1))+1 by omega];rfl
theorem Nq {L:List Value} (h:Clean L) (o:Nat) {v:Value} (hv:bF v=true):Clean (L.set o v):=λu hu=>by
 rcases List.mem_or_eq_of_mem_set hu with h1|h1
 ·exact h u h1
 ·rw[h1];exact hv
theorem tJ:∀(vs L:List Value) (o:Nat),Clean L->Clean vs->Clean (pF L o vs)
 |[],_,_,h,_=>h
 |v::r,L,o,h,hv=>tJ r _ _ (Nq h o (hv v (by simp))) λu hu=>hv u (by simp[hu])
def Seg (sz:Nat) (L:List Value) (off:Nat) (X:List (List Value)):Prop:=∀t,t<X.length->∀j,j<sz->L[off+t*sz+j]? =(X.getD t [])[j]?
theorem Seg.nil (sz:Nat) (L:List Value) (off:Nat):Seg sz L off []:=λt ht=>by simp at ht
theorem Seg.far {sz:Nat} {L:List Value} {off:Nat} {X:List (List Value)} (h:Seg sz L off X) {o:Nat} {vs:List Value} (hf:o+vs.length<=off∨off+X.length*sz<=o):Seg sz (pF L o vs) off X:=λt ht j hj=>by
 rw[jQ _ _ _ _ ?_]
 ·exact h t ht j hj
 ·have:(t+1)*sz<=X.length*sz:=a0s _ ht;rw[a0t]at this;omega
theorem Seg.here {sz:Nat} {L:List Value} {o:Nat} {X:List (List Value)} (hE:Each sz X) (hl:o+X.length*sz<=L.length):Seg sz (pF L o X.flatten) o X:=λt ht j hj=>by
 have:(t+1)*sz<=X.length*sz:=a0s _ ht;rw[a0t]at this;rw[jV _ _ _ _ (by omega) (by rw[pG hE];omega) (by omega),show o+t*sz+j-o=t*sz+j by omega];exact rJ hE t j ht hj
theorem Seg.append {sz:Nat} {L:List Value} {off:Nat} {X Y:List (List Value)} (h:Seg sz L off X) (h2:Seg sz L (off+X.length*sz) Y):Seg sz L off (X++Y):=λt ht j hj=>by
 by_cases ht2:t<X.length
 ·rw[h t ht2 j hj];simp[a0j,List.getElem?_append_left ht2]
 ·rw[List.length_append]at ht;obtain⟨s,rfl⟩:∃s,t=X.length+s:=⟨t-X.length,by omega⟩;have:=h2 s (by omega) j hj;rw[show off+(X.length+s)*sz+j=off+X.length*sz+s*sz+j by rw[a0t];omega,this];simp[a0j,List.getElem?_append_right]
theorem Seg.take {sz:Nat} {L:List Value} {off:Nat} {X:List (List Value)} (h:Seg sz L off X) (k:Nat):Seg sz L off (X.take k):=λt ht j hj=>by
 rw[a0q]at ht;rw[h t (by omega) j hj];simp[a0j,show t<k by omega]
theorem Seg.drop {sz:Nat} {L:List Value} {off:Nat} {X:List (List Value)} (h:Seg sz L off X) (k:Nat):Seg sz L (off+k*sz) (X.drop k):=λt ht j hj=>by
 rw[List.length_drop]at ht;have:=h (k+t) (by omega) j hj;rw[show off+k*sz+t*sz+j=off+(k+t)*sz+j by rw[a0t];omega,this];simp[a0j]
theorem Seg.one {L:List Value} {o:Nat} {a b c:Value} (h:o+2<L.length):Seg 3 (pF L o [a,b,c]) o [[a,b,c]]:=λt ht j hj=>by
 simp at ht;subst ht;rw[jV _ _ _ _ (by omega) (by simp;omega) (by omega),show o+0*3+j-o=j by omega];rfl
theorem Seg.cons {sz:Nat} {L:List Value} {off:Nat} {x:List Value} {X:List (List Value)} (h:Seg sz L off [x]) (h2:Seg sz L (off+sz) X):Seg sz L off (x::X):=by
 have:=Seg.append h (Y:=X) (by simpa using h2);simpa using this
theorem Seg.cast {sz:Nat} {L:List Value} {off off':Nat} {X:List (List Value)} (h:Seg sz L off X) (e:off=off'):Seg sz L off' X:=e▸h
theorem bD.fT {w:World} {g:Nat} {L:List Value} {T:TypeId} (h:bD w g L T) (hc:Clean L):eO w g:=λcur T' fr hh u hu=>by
 unfold bD at h;rw[h]at hh;cases hh;simp at hu;exact hc u hu
theorem bD.put {w:World} {g:Nat} {L:List Value} {T:TypeId} (h:bD w g L T):∀(vs:List Value) (o:Nat),bD (w.setCells g o vs) g (pF L o vs) T:=by
 intro vs;induction vs generalizing w L with
 |nil=>intro o;exact h
 |cons v r ih=>intro o;exact ih (h.set o v) (o+1)
theorem bD.ad9 {w:World} {g:Nat} {L:List Value} {T:TypeId} (h:bD w g L T) (o:Nat) (a b c:Value):bD (((w.setCell ⟨g,o,none⟩ a).setCell ⟨g,o+1,none⟩ b).setCell ⟨g,o+2,none⟩ c) g (pF L o [a,b,c]) T:=((h.set o a).set (o+1) b).set (o+2) c
theorem uR (w:World) (g o:Nat) (a b c:Value):w.grownBy (((w.setCell ⟨g,o,none⟩ a).setCell ⟨g,o+1,none⟩ b).setCell ⟨g,o+2,none⟩ c) (some g):=
 ⟨rfl,rfl,rfl,by simp,λk _ hk=>by
  have hk2:k≠g:=λe=>hk (by rw[e])
  rw[a0f _ _ _ _ hk2,a0f _ _ _ _ hk2,a0f _ _ _ _ hk2]⟩
theorem bV (w:World) (g o:Nat) (a:Value):w.grownBy (w.setCell ⟨g,o,none⟩ a) (some g):=
 ⟨rfl,rfl,rfl,by simp,λk _ hk=>a0f _ _ _ _ (λe=>hk (by rw[e]))⟩
theorem uT (g:Nat):∀(vs:List Value) (w:World) (o:Nat),w.grownBy (w.setCells g o vs) (some g)
 |[],w,_=>⟨rfl,rfl,rfl,a0r _,λ_ _ _=>rfl⟩
 |v::r,w,o=>by
  have h1:=bV w g o v;have h2:=uT g r (w.setCell ⟨g,o,none⟩ v) (o+1);exact⟨h2.os.trans h1.os,h2.tape.trans h1.tape,h2.output.trans h1.output,a0u h1.size h2.size,λk hk hne=>(h2.block k (a0v hk h1.size) hne).trans (h1.block k hk hne)⟩
theorem dS {w w1 w2:World} {r:Option Nat} (h1:w.grownBy w1 r) (h2:w1.grownBy w2 r):w.grownBy w2 r:=
 ⟨h2.os.trans h1.os,h2.tape.trans h1.tape,h2.output.trans h1.output,a0u h1.size h2.size,λk hk hne=>(h2.block k (a0v hk h1.size) hne).trans (h1.block k hk hne)⟩
theorem eU {w w1:World} (r:Option Nat) (h:Below w.heap.size w w1):w.grownBy w1 r:=⟨h.os,h.tape,h.output,h.size,λk hk _=>h.block k hk⟩
theorem bD.apart {w w1:World} {b:Nat} {L:List Value} {T:TypeId} (h:bD w b L T) {r:Option Nat} (hg:w.grownBy w1 r) (hne:some b≠r):bD w1 b L T:=h.keep (hg.block b h.lt hne)
theorem iD {B:Nat} {w w1:World} {g:Nat} (h:w.grownBy w1 (some g)) (hB:B<=g) (hs:B<=w.heap.size):Below B w w1:=
 ⟨h.os,h.tape,h.output,h.size,λk hk=>h.block k (by omega) (λe=>by cases e;omega)⟩
structure Rw (B:Nat) (T:TypeId) (sz:Nat) (w:World) (ao:Option Addr) (n cap:Nat) (X:List (List Value)):Prop where
 ex:(ao=none/\ n=0/\ cap=0/\ X=[])∨ ∃g off L,ao=some ⟨g,off,none⟩/\ B<=g/\ bD w g L T/\ Clean L/\ off+cap*sz<=L.length/\ n<=cap/\ cap<=maxLen/\ n<=4398046511104/\ X.length=n/\ Each sz X/\ Seg sz L off X
theorem Rw.zero (B:Nat) (T:TypeId) (sz:Nat) (w:World):Rw B T sz w none 0 0 []:=⟨.inl ⟨rfl,rfl,rfl,rfl⟩⟩
theorem Rw.gl [Ol] {B:Nat} {T:TypeId} {sz:Nat} {w:World} {ao:Option Addr} {n cap:Nat} {X:List (List Value)} (h:Rw B T sz w ao n cap X):Gl sz w ao n cap X:=by
 rcases h.ex with⟨rfl,rfl,rfl,rfl⟩|⟨g,off,L,rfl,_,hA,hcl,hl,hn,_,hb,hX,hE,hS⟩
 ·exact Gl.zero sz w
 ·refine Gl.of_cells hX hn hb hE (λ_=>hA.lt) (λ_=>Kp.C9 (hA.fT hcl)) λt ht j hj=>?_
  rw[hA.cell];exact hS t (by omega) j hj
theorem Rw.len [Ol] {B:Nat} {T:TypeId} {sz:Nat} {w:World} {ao:Option Addr} {n cap:Nat} {X:List (List Value)} (h:Rw B T sz w ao n cap X):X.length=n:=h.gl.len
theorem Rw.keep {B:Nat} {T:TypeId} {sz:Nat} {w w':World} {ao:Option Addr} {n cap:Nat} {X:List (List Value)} (h:Rw B T sz w ao n cap X) (hk:∀a,ao=some a->w'.heap[a.block]? =w.heap[a.block]?):Rw B T sz w' ao n cap X:=by
 rcases h.ex with h1|⟨g,off,L,rfl,hB,hA,r⟩
 ·exact⟨.inl h1⟩
 ·exact⟨.inr ⟨g,off,L,rfl,hB,hA.keep (hk _ rfl),r⟩⟩
theorem Rw.below {B:Nat} {T:TypeId} {sz:Nat} {w w':World} {ao:Option Addr} {n cap:Nat} {X:List (List Value)} (h:Rw B T sz w ao n cap X) (hb:Below w.heap.size w w'):Rw B T sz w' ao n cap X:=by
 rcases h.ex with h1|⟨g,off,L,rfl,hB,hA,r⟩
 ·exact⟨.inl h1⟩
 ·exact⟨.inr ⟨g,off,L,rfl,hB,hA.below hb,r⟩⟩
theorem Rw.mono {B B':Nat} {T:TypeId} {sz:Nat} {w:World} {ao:Option Addr} {n cap:Nat} {X:List (List Value)} (h:Rw B T sz w ao n cap X) (hB:B'<=B):Rw B' T sz w ao n cap X:=by
 rcases h.ex with h1|⟨g,off,L,rfl,hb,r⟩
 ·exact⟨.inl h1⟩
 ·exact⟨.inr ⟨g,off,L,rfl,by omega,r⟩⟩
def blk (ao:Option Addr):Option Nat:=ao.map (·.block)
theorem LB (ao:Option Addr) (n cap:Nat):(a0g ao n cap).ownBlock=blk ao:=by cases ao<;>rfl
theorem Rw.apart {B:Nat} {T:TypeId} {sz:Nat} {w w':World} {ao:Option Addr} {n cap:Nat} {X:List (List Value)} (h:Rw B T sz w ao n cap X) {r:Option Nat} (hg:w.grownBy w' r) (hne:blk ao=none∨blk ao≠r):Rw B T sz w' ao n cap X:=by
 rcases h.ex with h1|⟨g,off,L,rfl,hB,hA,q⟩
 ·exact⟨.inl h1⟩
 ·refine⟨.inr ⟨g,off,L,rfl,hB,hA.apart hg ?_,q⟩⟩;rcases hne with h2|h2
  ·cases h2
  ·exact h2
theorem Rw.lt {B:Nat} {T:TypeId} {sz:Nat} {w:World} {ao:Option Addr} {n cap:Nat} {X:List (List Value)} (h:Rw B T sz w ao n cap X):∀g,blk ao=some g->B<=g/\ g<w.heap.size:=by
 intro g hg;rcases h.ex with⟨rfl,_⟩|⟨g',off,L,rfl,hB,hA,q⟩
 ·cases hg
 ·cases hg;exact⟨hB,hA.lt⟩
theorem Rw.fT {B:Nat} {T:TypeId} {sz:Nat} {w:World} {ao:Option Addr} {n cap:Nat} {X:List (List Value)} (h:Rw B T sz w ao n cap X):∀g,blk ao=some g->eO w g:=by
 intro g hg;rcases h.ex with⟨rfl,_⟩|⟨g',off,L,rfl,hB,hA,hc,q⟩
 ·cases hg
 ·cases hg;exact hA.fT hc
theorem jb.rw [Ol] {B:Nat} {T:TypeId} {sz:Nat} {w:World} {ao:Option Addr} {n cap:Nat} {X:List (List Value)} (h:jb B T sz w ao n cap X):Rw B T sz w ao n cap X:=by
 rcases h.row.2 with⟨hv,h0⟩|⟨g,cap',cur,hv,hg,hh,hn,hm,hs,ht⟩
 ·simp only[a0g.injEq]at hv;obtain⟨rfl,rfl,rfl⟩:=hv;exact⟨.inl ⟨rfl,rfl,rfl,a0m (by rw[h.len])⟩⟩
 ·simp only[a0g.injEq,true_and]at hv;obtain⟨rfl,rfl⟩:=hv;refine⟨.inr ⟨g,0,cur.toList,rfl,hg,hh,h.C9 g rfl cur T (0,0) hh,by simp[hs],hn,hm,h.big,h.len,h.each,λt ht2 j hj=>?_⟩⟩;rw[<-rJ h.each t j ht2 hj,<-ht,List.getElem?_take,a0w,if_pos];have:(t+1)*sz<=n*sz:=a0s _ (by rw[<-h.len];exact ht2);rw[a0t]at this;omega
theorem nA [Ol] {K:Nat} {w w':World} {X:List (List Value)} {p:List Term} (h:cB (kD K w) X p) (hb:Below w.heap.size w w'):cB (kD K w') X p:=h.imp λ_ _ h=>h.below hb
theorem uS [Ol] {K:Nat} {w w':World} {g:Nat} {X:List (List Value)} {p:List Term} (h:cB (kD K w) X p) (hc:eO w g) (hg:w.grownBy w' (some g)):cB (kD K w') X p:=h.imp λ_ _ h=>h.fM hc hg
theorem Nr [Ol] {K L:Nat} {w:World} {X:List (List Value)} {p:List Term} (h:cB (kD K w) X p) (hk:K<=L):cB (kD L w) X p:=h.imp λ_ _ h=>h.mono hk
def Pw [Ol] (B K:Nat) (w:World) (ao:Option Addr) (n cap:Nat) (p:List Term):Prop:=∃X,Rw B 70 3 w ao n cap X/\ cB (kD K w) X p
theorem Pw.pc [Ol] {B K:Nat} {w:World} {ao:Option Addr} {n cap:Nat} {p:List Term} (h:Pw B K w ao n cap p):Pc K w ao n cap p:=by
 obtain⟨X,h1,h2⟩:=h;exact⟨X,h1.gl,h2⟩
theorem Pw.len [Ol] {B K:Nat} {w:World} {ao:Option Addr} {n cap:Nat} {p:List Term} (h:Pw B K w ao n cap p):p.length=n:=h.pc.len
theorem Pw.below [Ol] {B K:Nat} {w w':World} {ao:Option Addr} {n cap:Nat} {p:List Term} (h:Pw B K w ao n cap p) (hb:Below w.heap.size w w'):Pw B K w' ao n cap p:=by
 obtain⟨X,h1,h2⟩:=h;exact⟨X,h1.below hb,nA h2 hb⟩
theorem Pw.mono [Ol] {B B' K K':Nat} {w:World} {ao:Option Addr} {n cap:Nat} {p:List Term} (h:Pw B K w ao n cap p) (hB:B'<=B) (hK:K<=K'):Pw B' K' w ao n cap p:=by
 obtain⟨X,h1,h2⟩:=h;exact⟨X,h1.mono hB,Nr h2 hK⟩
theorem Pw.zero [Ol] (B K:Nat) (w:World):Pw B K w none 0 0 []:=⟨[],Rw.zero _ _ _ _,trivial⟩
def ae0 [Ol] (K:Nat) (w:World) (p:List Term) (e:Ending) (w':World):Prop:=∃ao n cap,e= .returned (a0g ao n cap)/\ Pw w.heap.size K w' ao n cap p/\ Below w.heap.size w w'
theorem Cn.far {w:World} {m:Bool} {ao:Option Addr} {n cap:Nat} {z:Int} (h:Cn w m ao n cap z) {b:Nat} {L:List Value} {T:TypeId} (hA:bD w b L T) (hc:Clean L) {w':World} (hg:w.grownBy w' (some b)):Cn w' m ao n cap z:=
 ⟨h.neg,h.sl.len,h.sl.le,h.sl.big,h.sl.wf,h.sl.nil,λad had t ht=>hg.cell (h.sl.cells ad had t ht) λeq=>(bD.fT hA hc).far (h.sl.cells ad had t ht) (a0x eq)⟩
theorem Tryz.Ns:(Tryz.prog.info? 70).map (λi=>(i.zero,i.size,i.bytes))=some (some (.agg #[.bool false,a0g none 0 0,a0g none 0 0]),3,56):=by kernel_rfl
def oJ [Ol] (K:Nat) (w:World) (g n k:Nat) (ts:List Term) (V:World):Prop:=
 ∃L Y,bD V g L 70/\ Clean L/\ L.length=n*3/\ Seg 3 L 0 Y/\ Each 3 Y/\ cB (kD K V) Y (ts.take k)/\ Below w.heap.size w V
theorem oJ.step [Ol] {K:Nat} {w:World} {g n k:Nat} {ts:List Term} {V V':World} (h:oJ K w g n k ts V) (hb:Below V.heap.size V V'):oJ K w g n k ts V':=by
 obtain⟨L,Y,h1,h2,h3,h4,h5,h6,h7⟩:=h;exact⟨L,Y,h1.below hb,h2,h3,h4,h5,nA h6 hb,Below.steps h7 hb⟩
theorem oJ.cells [Ol] {K:Nat} {w:World} {g n k:Nat} {ts:List Term} {V:World} (h:oJ K w g n k ts V) (hk:k<n):
  (∃a b c,V.cell? ⟨g,k*3,none⟩=some a/\ V.cell? ⟨g,k*3+1,none⟩=some b/\ V.cell? ⟨g,k*3+2,none⟩=some c)/\ V.frozen? ⟨g,k*3,none⟩=false/\ V.frozen? ⟨g,k*3+1,none⟩=false/\ V.frozen? ⟨g,k*3+2,none⟩=false:=by
 obtain⟨L,Y,h1,h2,h3,h4,h5,h6,h7⟩:=h;have hl:(k+1)*3<=n*3:=a0s _ hk;refine⟨⟨_,_,_,(h1.cell (k*3)).trans (a0k (by omega)),(h1.cell (k*3+1)).trans (a0k (by omega)),(h1.cell (k*3+2)).trans (a0k (by omega))⟩,h1.fz _,h1.fz _,h1.fz _⟩
theorem oJ.put [Ol] {K:Nat} {w:World} {g n k:Nat} {ts:List Term} {V:World} (h:oJ K w g n k ts V) (hk:k<n) (hts:ts.length=n) (hg:w.heap.size<=g) {m:Bool} {ao:Option Addr} {na cap:Nat} {bo:Option Addr} {l cb:Nat}
  (hC:Cn V m ao na cap (ts.getD k (0,[])).1) (hB:Bd (ts.getD k (0,[])).1 K) (hM:Ml V bo l cb (ts.getD k (0,[])).2):
  oJ K w g n (k+1) ts (((V.setCell ⟨g,k*3,none⟩ (.bool m)).setCell ⟨g,k*3+1,none⟩ (a0g ao na cap)).setCell ⟨g,k*3+2,none⟩ (a0g bo l cb)):=by
 obtain⟨L,Y,h1,h2,h3,h4,h5,h6,h7⟩:=h;have hl:(k+1)*3<=n*3:=a0s _ hk;have hY:Y.length=k:=by rw[h6.len,a0q];omega
 have e:ts.take (k+1)=ts.take k++[ts.getD k (0,[])]:=by
  rw[List.take_succ_eq_append_getElem (by omega),sP _ (by omega)]
 have ZP:=uR V g (k*3) (.bool m) (a0g ao na cap) (a0g bo l cb);refine⟨pF L (k*3) [.bool m,a0g ao na cap,a0g bo l cb],Y++[[.bool m,a0g ao na cap,a0g bo l cb]],h1.ad9 _ _ _ _,tJ _ _ _ h2 (λu hu=>by simp at hu;rcases hu with rfl|rfl|rfl<;>rfl),by rw[iO,h3],?_,h5.append (Each.ZQ rfl (λu hu=>by simp at hu;rcases hu with rfl|rfl|rfl<;>rfl)),?_,?_⟩
 ·refine Seg.append (h4.far (.inr (by rw[hY];omega))) ?_;rw[hY,a0w];exact Seg.one (by omega)
 ·rw[e];refine cB.append (uS h6 (h1.fT h2) ZP) ⟨⟨m,ao,na,cap,bo,l,cb,rfl,hC.far h1 h2 ZP,hB,?_⟩,trivial⟩
  exact⟨hM.len,hM.le,hM.big,hM.wf,hM.nil,λad had t ht=>⟨ZP.cell (hM.cells ad had t ht).1 (λeq=>(h1.fT h2).far (hM.cells ad had t ht).1 (a0x eq)),ZP.cell (hM.cells ad had t ht).2 (λeq=>(h1.fT h2).far (hM.cells ad had t ht).2 (a0x eq))⟩,λh0 ad had=>by
   obtain⟨x,hx⟩:=hM.int h0 had;exact(hM.kp h0 ad had).grown (hM.blt h0 had) ZP λeq=>(h1.fT h2).far hx (a0x eq)⟩
 ·exact h7.trans (iD ZP hg h7.size)
theorem oJ.done [Ol] {K:Nat} {w:World} {g n:Nat} {ts:List Term} {V:World} (h:oJ K w g n n ts V) (hn:n<=1000000) (hts:ts.length=n) (hg:g=w.heap.size):ae0 K w ts (.returned (a0g (some ⟨g,0,none⟩) n n)) V:=by
 obtain⟨L,Y,h1,h2,h3,h4,h5,h6,h7⟩:=h;rw[List.take_of_length_le (by omega)]at h6;refine⟨_,_,_,rfl,⟨Y,⟨.inr ⟨g,0,L,rfl,by omega,h1,h2,by omega,a0r _,by unfold maxLen;omega,by omega,by rw[h6.len,hts],h5,h4⟩⟩,h6⟩,h7⟩
theorem xE (m:Bool) (ao:Option Addr) (n cap:Nat) (bo:Option Addr) (l cb:Nat):Clean [.bool m,a0g ao n cap,a0g bo l cb]:=λu hu=>by simp at hu;rcases hu with rfl|rfl|rfl<;>rfl
theorem wz (k:Nat):Clean (a0b (a0h #[.bool false,a0g none 0 0,a0g none 0 0]).cells k).toList:=by
 intro u hu;simp only[a0b,Array.toList_map,a0n,a0i]at hu;obtain⟨j,_,rfl⟩:=hu;have hj:j%3<3:=Nat.mod_lt _ (by omega);obtain⟨i,hi⟩:∃i,i=j%3:=⟨_,rfl⟩;show bF ((#[Value.bool false,a0g none 0 0,a0g none 0 0]:Array Value)[j%3]!)=true;rw[<-hi]at hj ⊢
 match i,hj with
 |0,_=>rfl
 |1,_=>rfl
 |2,_=>rfl
theorem Dq (k:Nat):(a0b (a0h #[.bool false,a0g none 0 0,a0g none 0 0]).cells k).toList.length=k*3:=by simp[a0b,a0i]
theorem wB {L M:List Value} (h:Clean L) (k:Clean M):Clean (L++M):=λu hu=>(List.mem_append.1 hu).elim (h u) (k u)
section
variable {P:Program} (w:World)
end
theorem EM {P:Program} {o:Oper} {a:Act} {w W:World} {K:Act->World->Prop} {Q:Exit->Act->World->Prop} (s x:Operand) (t u:TypeId) (hop:o.op=Op.call { callee:=Callee.builtin a0c,args:= #[s,x],argTypes:= #[t,u] })
  (vs vx:Value) (hs:a.eval s=vs) (hx:a.eval x=vx) {v:Value} (hr:(a0d #[t,u] o.type #[vs,vx]).run P w= .ok v W) (hK:K (a.put o.dst v) W):Oper.wp P o a w K Q:=by
 unfold Oper.wp execOp;simp only[hop,resolve,invoke,builtin,Sem.run_bind,Sem.run_pure,Result.andThen_ok,List.map_toArray,List.map_cons,List.map_nil,hs,hx,hr];exact hK
theorem kZ {P:Program} {ops:Array Oper} {rest:List Oper} {o:Oper} {a:Act} {w W:World} {Q:Exit->Act->World->Prop} (hg:o.guard=none) (s x:Operand) (t u:TypeId) (hop:o.op=Op.call { callee:=Callee.builtin a0c,args:= #[s,x],argTypes:= #[t,u] })
  (vs vx:Value) (hs:a.eval s=vs) (hx:a.eval x=vx) {v:Value} (hr:(a0d #[t,u] o.type #[vs,vx]).run P w= .ok v W) (hK:wpList P ops Q rest (a.put o.dst v) W):wpList P ops Q (o::rest) a w:=
 wpList_plain hg λ_ hK'=>EM s x t u hop vs vx hs hx hr (hK' _ _ hK)
structure Rm (g off cap:Nat) (L:List Value) (w:World):Prop where
 iW:bD w g L 70
 C9:Clean L
 room:off+cap*3<=L.length
 big:cap<=maxLen
theorem uE {P:Program} (w:World) (t ty e:TypeId) (i:TypeInfo) (ht:P.underlying t=some (.slice e)) (hi:P.info? e=some i)
  (g off n c:Nat) (a:Addr) (m c2:Nat) (news:List Value) (hl:news.length=m*i.size) (hnews:∀j v,news[j]? =some v->w.cell? (a.add j)=some v) (h1:∀v∈news,v.oneCell'=true) (hroom:n+m<=c)
  (hc:∀j,j<news.length->(w.cell? ⟨g,off+n*i.size+j,none⟩).isSome=true) (hf:∀j,j<news.length->w.frozen? ⟨g,off+n*i.size+j,none⟩=false):
  (a0d #[t,t] ty #[a0g (some ⟨g,off,none⟩) n c,a0g (some a) m c2]).run P w= .ok (a0g (some ⟨g,off,none⟩) (n+m) c) (w.setCells g (off+n*i.size) news):=by
 have hfs:=run_firstCells_some (P:=P) w i.size m a m c2 news hl hnews;have hst:=run_storeCells_cells (P:=P) g (off+n*i.size) news 0 w (by simpa using hc) (by simpa using hf) h1;simp only[Nat.add_zero]at hst;simp[a0d,run_underlying ht,sizeOf,typeInfo,hi,Builtin.lenOf,hroom,hfs,Addr.add_lit,hst]
end Go.Proofs.YtmenbpmciblnlaaGreatDoor

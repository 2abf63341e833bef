import Derived.Test.YtmenbpmciblnlaaGreatDoorGP4
set_option maxHeartbeats 0
set_option maxRecDepth 100000
open And renaming intro->ah5
open Go renaming Value->ah7,World->ah6
open Go.RowKit.Below renaming refl->ah8
open Go.Value renaming bool->ai0,slice->ah9
open List renaming mem_map->ai3,take_of_length_le->ai2,take_succ_eq_append_getElem->ai1
open Nat renaming add_mul->ai6,le_refl->ai5,le_trans->ai8,mul_le_mul_right->ai9,one_mul->ai7,zero_le->ai4
namespace Go.Proofs.YtmenbpmciblnlaaGreatDoor
open Go.RowKit
open Lib (hid)
structure mO (l:List ai) (m:List (Int×Int)):Prop where
 may:aQ 0 m=true
 all:∀t∈l,∀v,aI t.2 v<=aI m v
 att:∀v,aI m v=0∨ ∃t∈l,aI t.2 v=aI m v
theorem mO.nil:mO [] []:=⟨rfl,(λt h=>by cases h),λv=> .inl rfl⟩
theorem mO.next {l:List ai} {m:List (Int×Int)} {t:ai} (h:mO l m) (ht:aQ 0 t.2=true):mO (l++[t]) (jt (λx y=>max x y) (ET m) (ET t.2)):=by
 rw[qg h.may,qg ht];have hj:=mH (f:=λx y=>max x y) (by rfl) h.may ht;refine⟨?_,λs hs v=>?_,λv=>?_⟩
 ·rw[qi];refine⟨oN (by rfl) h.may ht,λv=>?_⟩;rw[hj];have h1:=eE h.may v;have h2:=eE ht v;omega
 ·rw[hj];rcases List.mem_append.1 hs with hs|hs
  ·have:=h.all s hs v;omega
  ·rw[List.mem_singleton.1 hs];omega
 ·rw[hj];by_cases hle:aI t.2 v<=aI m v
  ·rw[Int.max_eq_left hle];rcases h.att v with h0|⟨s,hs,h1⟩
   ·exact .inl h0
   ·exact .inr ⟨s,by simp[hs],h1⟩
  ·exact .inr ⟨t,by simp,by omega⟩
theorem Rg {p q:List ai} {a b:List (Int×Int)} (hp:bD p) (hq:bD q) (ha:mO p a) (hb:mO q b):aQ 0 (jt (λx y=>x+y) a b)=true↔kC p q:=by
 have hm:aQ 0 (jt (λx y=>x+y) a b)=true↔ ∀v,aI a v+aI b v<=10000:=oO ha.may hb.may;rw[hm];constructor
 ·intro h t ht s hs;rw[oO (cC hp t ht) (cC hq s hs)];intro v;have h1:=h v;have h2:=ha.all t ht v;have h3:=hb.all s hs v;omega
 ·intro h v;have h1:=eE ha.may v;have h2:=eE hb.may v;rcases ha.att v with h0|⟨t,ht,e1⟩
  ·omega
  ·rcases hb.att v with h0|⟨s,hs,e2⟩
   ·omega
   ·have h3:=(oO (cC hp t ht) (cC hq s hs)).1 (h t ht s hs) v;omega
theorem Nz {p q:List ai} {a b:List (Int×Int)} (hp:bD p) (hq:bD q) (ha:mO p a) (hb:mO q b):(gq (λx y=>x+y) 8 a b).2=if AA p q=true then 0 else 8:=by
 have h:=Rg hp hq ha hb;have h2:AA p q=true↔kC p q:=by simp[AA,kC]
 rw[<-h2]at h;unfold gq;rw[if_pos ⟨ha.may,hb.may⟩];cases hm:aQ 0 (jt (λx y=>x+y) a b)<;>cases hf:AA p q<;>simp_all
def ac2 [Ol] (w:ah6) (p:List ai) (e:Ending) (V:ah6):Prop:=∃mo mn mc m,e= .returned (ah9 mo mn mc)/\ Ml V mo mn mc m/\ mO p m/\ Below w.heap.size w V
theorem uC [Ol] {K:Nat} {ao:Z'} {n ae:Nat} {p:List ai} {w:ah6} (hp:Pc K w ao n ae p) (hf:bD p) (hn:n<=1000000):
  Calls Tryz.prog 74 #[ah9 ao n ae] w (ac2 w p):=by
 have HP:=hid hp;have HF:=hid hf;clear hp hf;go_enter Tryz.func74,Tryz.ntmps74;go_wp2;go_loopw [3,8] (λs3 s8 wr=>∃(k:Nat) (mo:Option Addr) (mn mc:Nat) (m:List (Int×Int)),s3=ah9 mo mn mc/\ s8= .int .i64 k/\ k<=n/\ Hid (Ml wr mo mn mc m/\ mO (p.take k) m/\ Below w.heap.size w wr)) (λ_ s8 _=>n-(intOf s8).toNat)
 case atStart=>exact⟨0,none,0,0,[],rfl,rfl,ai4 _,Ml.zero _,mO.nil,ah8 _ _⟩
 case round=>
  obtain⟨k,mo,mn,mc,m,rfl,rfl,hk,HI⟩:=hrel;by_cases hkm:k<n
  ·have hkp:k<p.length:=by rw[HP.o.len];exact hkm
   obtain⟨t,ht⟩:∃t,t=p.getD k (0,[]):=⟨_,rfl⟩;obtain⟨b,off,xm,xa,xn,xc,xp,xq,xr,yx,hbl,hc,rL,hBd,lZ⟩:=(HP.o.below HI.o.2.2).at (k:=k) hkm;subst yx;rw[<-ht]at lZ;obtain⟨c0,c1,c2⟩:=hc wr (ah8 _ _);have hD:=HI.o.2.1.next (cC HF.o t (by rw[ht];exact gK _ hkp));rw[ht,gI _ hkp,<-ai1 hkp,<-gI (0,[]) hkp,<-ht]at hD;have HT:=hid (ah5 lZ hD);clear hc rL hBd lZ hbl ht hD;go_upto_region 5 with(fail)
   refine aj (λW hW=>?_);obtain⟨a1,hB⟩:=gp wr [ai0 xm,ah9 xa xn xc,ah9 xp xq xr] 70;rw[<-hW]at a1 hB;clear hW c0 c1 c2;have HB1:=hid (Below.ar HI.o.2.2 hB);have WL:=hid (ah5 (HI.o.1.below hB) (HT.o.1.below hB));have HD:=hid HT.o.2;obtain⟨c0,c1,c2⟩:=a1.c3;clear a1 hB HT HI;go_wp2_with fail;refine(Ki WL.o.1 WL.o.2).mono ?_;rintro e w2 ⟨ro,rn,rc,rfl,h1,hB⟩;have HI2:Hid (Ml w2 ro rn rc _/\ mO (p.take (k+1)) _/\ Below w.heap.size w w2):=⟨h1,HD.o,Below.ar HB1.o hB⟩;clear h1 hB HB1 WL HD c0 c1 c2;go_wp2;go_roundw
   case rel=>exact⟨k+1,ro,rn,rc,_,rfl,by go_num,by omega,HI2.o⟩
   case measure=>simp[intOf];omega
  ·obtain rfl:n=k:=by omega
   have h:=HI.o;rw[ai2 (by rw[HP.o.len];exact ai5 _)]at h;have HH:=hid h;clear h HI;go_wp2;go_ret;exact⟨_,_,_,_,rfl,HH.o.1,HH.o.2.1,HH.o.2.2⟩
open Lib (hid)
theorem zF {a b:List (Int×Int)} (ha:aQ 0 a=true) (hb:aQ 0 b=true) (h:aQ 0 (fL a b)=true):gq (λx y=>x+y) 8 a b=(fL a b,0):=by
 unfold gq;rw[if_pos ⟨ha,hb⟩];exact if_pos h
theorem tN {t:ai} (h0:t.1≠0) (ht:aQ 0 t.2=true):∀{p:List ai},bD p->(∀s∈p,aQ 0 (fL s.2 t.2)=true)->bD (uY p t)/\ (∀ρ,ev (uY p t) ρ=ev p ρ*(t.1*EO t.2 ρ))/\ (uY p t).length=p.length
 |[],_,_=>⟨trivial,λρ=>by simp[uY,ev],rfl⟩
 |s::r,hp,hf=>by
  have ih:=tN h0 ht (p:=r) hp.2.2.2 (λx hx=>hf x (by simp[hx]));refine⟨⟨Int.mul_ne_zero hp.1 h0,hf s (by simp),λx hx=>?_,ih.1⟩,λρ=>?_,wR _ _⟩
  ·obtain⟨y,hy,rfl⟩:=ai3.1 hx;exact QQ hp.2.1 (cC hp.2.2.2 y hy) ht (hp.2.2.1 y hy)
  ·have e:=ih.2.1 ρ;have:uY (s::r) t=(s.1*t.1,fL s.2 t.2)::uY r t:=rfl;rw[this];simp only[ev];rw[e,Ie hp.2.1 ht]
   grind
theorem Rh (ρ:Nat->Int) (q:List ai) {k:Nat} (hk:k<q.length):ev (q.take (k+1)) ρ=ev (q.take k) ρ+(q.getD k (0,[])).1*EO (q.getD k (0,[])).2 ρ:=by
 rw[ai1 hk,mG,gI _ hk];simp[ev]
structure Ix [Ol] (w:ah6) (K:Nat) (p q:List ai) (k K2:Nat) (so:Option Addr) (n2 cap2:Nat) (X2:List (List ah7)) (ps2:List (List ai)) (V:ah6):Prop where
 pl:iO w.heap.size K2 V so n2 cap2 X2 ps2
 kk:K2+n2<=K+K+k
 k2:K+K<=K2
 nk:n2<=k
 vs:∀ρ,ES ps2 ρ=ev p ρ*ev (q.take k) ρ
 ln:jY ps2<=k*p.length
 bw:Below w.heap.size w V
theorem Ix.start [Ol] (w:ah6) (K:Nat) (p q:List ai):Ix w K p q 0 (K+K) none 0 0 [] [] w:=⟨iO.nil _ _ _,by omega,ai5 _,ai5 _,λρ=>by simp[ES,ev],by simp[jY],ah8 _ _⟩
theorem Ix.below [Ol] {w:ah6} {K:Nat} {p q:List ai} {k K2:Nat} {so:Z'} {n2 cap2:Nat} {X2:List (List ah7)} {ps2:List (List ai)} {V V':ah6} (h:Ix w K p q k K2 so n2 cap2 X2 ps2 V) (hb:Below V.heap.size V V'):Ix w K p q k K2 so n2 cap2 X2 ps2 V':={ h with pl:=h.pl.below hb,bw:=Below.ar h.bw hb }
theorem Ix.NA [Ol] {w:ah6} {K:Nat} {p q:List ai} {k K2:Nat} {so:Z'} {n2 cap2:Nat} {X2:List (List ah7)} {ps2:List (List ai)} {V V':ah6} (h:Ix w K p q k K2 so n2 cap2 X2 ps2 V) {K':Nat} {ro:Z'} {rn rc:Nat} {r:List ai} (h1:Pw V.heap.size K' V' ro rn rc r):Wj X2 (eQ ro):=λg hg vs hv e=>by
 have:=(h1.lt g hg).1;have:=Gc h.pl.mem vs hv g e;omega
theorem Ix.next [Ol] {w:ah6} {K:Nat} {p q:List ai} {k K2:Nat} {so:Z'} {n2 cap2:Nat} {X2:List (List ah7)} {ps2:List (List ai)} {V V':ah6} {e:Ending} (h:Ix w K p q k K2 so n2 cap2 X2 ps2 V) {r:List ai} {t:ai} (hw:Gd w.heap.size K2 n2 V ps2 r e V') (hk:k<q.length) (ht:t=q.getD k (0,[])) (hr:∀ρ,ev r ρ=ev p ρ*(t.1*EO t.2 ρ)) (hl:r.length<=p.length):
  ∃Tr n3 oX X3 UR K3,e= .returned (ah9 Tr n3 oX)/\ Ix w K p q (k+1) K3 Tr n3 oX X3 UR V':=by
 obtain⟨Tr,n3,oX,X3,UR,K3,rfl,h1,h2,h3,h4,h5,h6⟩:=hw;refine⟨Tr,n3,oX,X3,UR,max K3 (K+K),rfl,⟨h1.mono (Nat.le_max_left _ _),?_,Nat.le_max_right _ _,by have:=h.nk;omega,λρ=>?_,?_,h.bw.trans h6⟩⟩
 ·have:=h.kk;have:=h.nk;omega
 ·rw[h4,h.vs,hr,Rh ρ q hk,<-ht];grind
 ·have:=h.ln;rw[ai6,ai7];omega
def NB [Ol] (K n m:Nat) (w:ah6) (p q:List ai) (e:Ending) (V:ah6):Prop:=
 ∃ro rn rc r K',e= .returned (ah9 ro rn rc)/\ Pw w.heap.size K' V ro rn rc r/\ bD r/\ K'<=K+K+n+m/\ (∀ρ,ev r ρ=ev p ρ*ev q ρ)/\ Below w.heap.size w V
theorem Dl [Ol] {K:Nat} {ao bo:Z'} {n ae m cb:Nat} {p q:List ai} {w:ah6} (hp:Pc K w ao n ae p) (hq:Pc K w bo m cb q) (hfp:bD p) (Di:bD q) (hf:kC p q) (hnm:n*m<=1000000) (hnn:n<=300000) (YQ:m<=300000) (hK:K<=100000):
  Calls Tryz.prog 75 #[ah9 ao n ae,ah9 bo m cb] w (NB K n m w p q):=by
 have HP:=hid hp;have HQ:=hid hq;have FP:=hid hfp;have FQ:=hid Di;have HF:∀t∈q,∀s∈p,aQ 0 (fL s.2 t.2)=true:=λt ht s hs=>hf s hs t ht
 have HG:∀t∈p,∀s∈q,aQ 0 (fL s.2 t.2)=true:=λt ht s hs=>by rw[JK (cC Di s hs) (cC hfp t ht)];exact hf t ht s hs
 have ac3:n<=1000000:=by omega
 have ac4:m<=1000000:=by omega
 have hmn:m*n<=1000000:=by rw[Nat.mul_comm];exact hnm
 clear hp hq hfp Di hf;by_cases hlt:n<m
 ·have hd:decide ((n:Int)<(m:Int))=true:=decide_eq_true (by omega);go_enter Tryz.func75,Tryz.ntmps75;go_wp2;go_loopw [5,17] (λs5 UT wr=>∃(k K2:Nat) (so:Option Addr) (n2 cap2:Nat) (X2:List (List ah7)) (ps2:List (List ai)),s5=ah9 so n2 cap2/\ UT= .int .i64 k/\ k<=n/\ Hid (Ix w K q p k K2 so n2 cap2 X2 ps2 wr)) (λ_ UT _=>n-(intOf UT).toNat)
  case atStart=>exact⟨0,K+K,none,0,0,[],[],rfl,rfl,ai4 _,Ix.start _ _ _ _⟩
  case round=>
   obtain⟨k,K2,so,n2,cap2,X2,ps2,rfl,rfl,hk,HS⟩:=hrel;by_cases hkm:k<n
   ·have hkq:k<p.length:=by rw[HP.o.len];exact hkm
    obtain⟨t,ht⟩:∃t,t=p.getD k (0,[]):=⟨_,rfl⟩;obtain⟨b,off,xm,xa,xn,xc,xp,xq,xr,yx,hbl,hc,rL,hBd,lZ⟩:=(HP.o.below HS.o.bw).at (k:=k) hkm;subst yx;rw[<-ht]at rL hBd lZ;obtain⟨c0,c1,c2⟩:=hc wr (ah8 _ _);have HT:=hid (ah5 rL (ah5 hBd lZ));have Qr:=hid ht;have Kj:t∈p:=by rw[ht];exact gK _ hkq
    clear hc rL hBd lZ hbl ht;go_upto_region 7 with(fail)
    refine aj (λW hW=>?_);obtain⟨a1,hB⟩:=gp wr [ai0 xm,ah9 xa xn xc,ah9 xp xq xr] 70;rw[<-hW]at a1 hB;clear hW c0 c1 c2;have nd:=hid (HS.o.below hB);have HT1:=hid (ah5 (HT.o.1.below hB) (ah5 HT.o.2.1 (HT.o.2.2.below hB)));obtain⟨c0,c1,c2⟩:=a1.c3;clear a1 hB HT HS;have hfit:=HG t Kj;have hsp:=tN (lG FP.o t Kj) (cC FP.o t Kj) FQ.o hfit;have HR:=hid (Iy (HQ.o.below nd.o.bw) ac4 (by omega) (by omega) HT1.o.1 HT1.o.2.1 HT1.o.2.2 (λs hs=>zF (cC FQ.o s hs) (cC FP.o t Kj) (hfit s hs)));have Ri:=hid (ah5 hsp (ah5 Kj hkq));clear hfit hsp Kj hkq;go_wp2_with fail;refine HR.o.mono ?_;rintro e w2 ⟨ro,rn,rc,rfl,h1,hB⟩;have HS2:=hid (nd.o.below hB);have HO:=hid (nd.o.NA h1);have HW:=hid (h1.mono (ai8 nd.o.bw.size (ai5 _)) nd.o.k2);clear h1 hB HR nd HT1 c0 c1 c2;have hm1:=HS2.o.kk;have hm2:=HS2.o.ln;have Iz:=Ri.o.1.2.2;have IA:=HQ.o.len;have YR:(k+1)*m<=n*m:=ai9 _ hkm;rw[ai6,ai7]at YR;rw[IA]at hm2;have hm6:=HS2.o.nk;have YS:=hid (Dm HS2.o.pl HW.o Ri.o.1.1 HO.o (by rw[Iz,IA];omega) (by omega) HS2.o.bw.size);clear hm1 hm2 Iz IA YR hm6 HO HW;go_wp2_with fail;refine YS.o.mono ?_;rintro e w3 hwi;obtain⟨Tr,n3,oX,X3,UR,K3,rfl,hps⟩:=HS2.o.next hwi (by rw[HP.o.len];exact hkm) Qr.o Ri.o.1.2.1 (by rw[Ri.o.1.2.2];exact ai5 _);have uS:=hid hps;clear hwi hps YS HS2;go_wp2;go_roundw
    case rel=>exact⟨k+1,K3,Tr,n3,oX,X3,UR,rfl,by go_num,by omega,uS.o⟩
    case measure=>simp[intOf];omega
   ·obtain rfl:n=k:=by omega
    have hm1:=HS.o.kk;have hm2:=HS.o.ln;have Iz:=HS.o.vs;rw[ai2 (by rw[HP.o.len];exact ai5 _)]at Iz;have IA:=HQ.o.len;have WM:=hid (IB HS.o.pl (by rw[IA]at hm2;omega) (by omega) HS.o.bw.size);have HV:=hid (ah5 Iz hm1);have xZ:=hid HS.o.bw;clear hm1 hm2 Iz IA HS;go_wp2_with fail;refine WM.o.mono ?_;rintro e w2 ⟨ro,rn,rc,r,K3,rfl,h1,h2,h3,h4,h5,h6⟩;have Qs:Hid (NB K n m w p q (.returned (ah9 ro rn rc)) w2):=⟨ro,rn,rc,r,K3,rfl,h1,h2,by have:=HV.o.2;omega,λρ=>by rw[h4,HV.o.1];exact Int.mul_comm _ _,xZ.o.trans h6⟩;clear h1 h2 h3 h4 h5 h6 WM HV xZ;go_wp2;go_ret;exact Qs.o
 ·have hd:decide ((n:Int)<(m:Int))=false:=decide_eq_false (by omega);go_enter Tryz.func75,Tryz.ntmps75;go_wp2;go_loopw [5,17] (λs5 UT wr=>∃(k K2:Nat) (so:Option Addr) (n2 cap2:Nat) (X2:List (List ah7)) (ps2:List (List ai)),s5=ah9 so n2 cap2/\ UT= .int .i64 k/\ k<=m/\ Hid (Ix w K p q k K2 so n2 cap2 X2 ps2 wr)) (λ_ UT _=>m-(intOf UT).toNat)
  case atStart=>exact⟨0,K+K,none,0,0,[],[],rfl,rfl,ai4 _,Ix.start _ _ _ _⟩
  case round=>
   obtain⟨k,K2,so,n2,cap2,X2,ps2,rfl,rfl,hk,HS⟩:=hrel;by_cases hkm:k<m
   ·have hkq:k<q.length:=by rw[HQ.o.len];exact hkm
    obtain⟨t,ht⟩:∃t,t=q.getD k (0,[]):=⟨_,rfl⟩;obtain⟨b,off,xm,xa,xn,xc,xp,xq,xr,yx,hbl,hc,rL,hBd,lZ⟩:=(HQ.o.below HS.o.bw).at (k:=k) hkm;subst yx;rw[<-ht]at rL hBd lZ;obtain⟨c0,c1,c2⟩:=hc wr (ah8 _ _);have HT:=hid (ah5 rL (ah5 hBd lZ));have Qr:=hid ht;have Kj:t∈q:=by rw[ht];exact gK _ hkq
    clear hc rL hBd lZ hbl ht;go_upto_region 7 with(fail)
    refine aj (λW hW=>?_);obtain⟨a1,hB⟩:=gp wr [ai0 xm,ah9 xa xn xc,ah9 xp xq xr] 70;rw[<-hW]at a1 hB;clear hW c0 c1 c2;have nd:=hid (HS.o.below hB);have HT1:=hid (ah5 (HT.o.1.below hB) (ah5 HT.o.2.1 (HT.o.2.2.below hB)));obtain⟨c0,c1,c2⟩:=a1.c3;clear a1 hB HT HS;have hfit:=HF t Kj;have hsp:=tN (lG FQ.o t Kj) (cC FQ.o t Kj) FP.o hfit;have HR:=hid (Iy (HP.o.below nd.o.bw) ac3 (by omega) (by omega) HT1.o.1 HT1.o.2.1 HT1.o.2.2 (λs hs=>zF (cC FP.o s hs) (cC FQ.o t Kj) (hfit s hs)));have Ri:=hid (ah5 hsp (ah5 Kj hkq));clear hfit hsp Kj hkq;go_wp2_with fail;refine HR.o.mono ?_;rintro e w2 ⟨ro,rn,rc,rfl,h1,hB⟩;have HS2:=hid (nd.o.below hB);have HO:=hid (nd.o.NA h1);have HW:=hid (h1.mono (ai8 nd.o.bw.size (ai5 _)) nd.o.k2);clear h1 hB HR nd HT1 c0 c1 c2;have hm1:=HS2.o.kk;have hm2:=HS2.o.ln;have Iz:=Ri.o.1.2.2;have IA:=HP.o.len;have YR:(k+1)*n<=m*n:=ai9 _ hkm;rw[ai6,ai7]at YR;rw[IA]at hm2;have hm6:=HS2.o.nk;have YS:=hid (Dm HS2.o.pl HW.o Ri.o.1.1 HO.o (by rw[Iz,IA];omega) (by omega) HS2.o.bw.size);clear hm1 hm2 Iz IA YR hm6 HO HW;go_wp2_with fail;refine YS.o.mono ?_;rintro e w3 hwi;obtain⟨Tr,n3,oX,X3,UR,K3,rfl,hps⟩:=HS2.o.next hwi (by rw[HQ.o.len];exact hkm) Qr.o Ri.o.1.2.1 (by rw[Ri.o.1.2.2];exact ai5 _);have uS:=hid hps;clear hwi hps YS HS2;go_wp2;go_roundw
    case rel=>exact⟨k+1,K3,Tr,n3,oX,X3,UR,rfl,by go_num,by omega,uS.o⟩
    case measure=>simp[intOf];omega
   ·obtain rfl:m=k:=by omega
    have hm1:=HS.o.kk;have hm2:=HS.o.ln;have Iz:=HS.o.vs;rw[ai2 (by rw[HQ.o.len];exact ai5 _)]at Iz;have IA:=HP.o.len;have WM:=hid (IB HS.o.pl (by rw[IA]at hm2;omega) (by omega) HS.o.bw.size);have HV:=hid (ah5 Iz hm1);have xZ:=hid HS.o.bw;clear hm1 hm2 Iz IA HS;go_wp2_with fail;refine WM.o.mono ?_;rintro e w2 ⟨ro,rn,rc,r,K3,rfl,h1,h2,h3,h4,h5,h6⟩;have Qs:Hid (NB K n m w p q (.returned (ah9 ro rn rc)) w2):=⟨ro,rn,rc,r,K3,rfl,h1,h2,by have:=HV.o.2;omega,λρ=>by rw[h4,HV.o.1],xZ.o.trans h6⟩;clear h1 h2 h3 h4 h5 h6 WM HV xZ;go_wp2;go_ret;exact Qs.o
open Lib (hid)
theorem mD [Ol] (r:Bool) {ao:Z'} {n ae:Nat} {ps:List kr} {w:ah6} (hp:Pr w ao n ae ps) (hl:∀t∈ps,t.1.2.length<=1000) (h:jZ ps=r):
  Calls Tryz.prog 32 #[ah9 ao n ae] w (cr (ai0 r) w):=by
 obtain⟨bF,hG,_⟩:=hp.ex;have hbig:=hG.big;have yu:=hid hp.len;have HP:=hid hp;have HR:=hid h;have HLL:=hid hl;clear hp hG h hl;go_enter Tryz.func32,Tryz.ntmps32;go_wp2;go_loopw [7] (λi wr=>∃k:Nat,i= .int .i64 k/\ k<=n/\ Hid (∀t,t<k->ri ps t=true)/\ Hid (Below w.heap.size w wr)) (λi _=>n-(intOf i).toNat)
 case atStart=>exact⟨0,rfl,ai4 _,λt h=>by omega,ah8 _ _⟩
 case round=>
  obtain⟨k,rfl,hk,HE,HB⟩:=hrel;by_cases hkn:k<n
  ·have AL:k<ps.length:=by rw[yu.o];omega
   obtain⟨b,off,xa,xn,xc,xp,xq,xr,rfl,hbw,hc,hs,hm⟩:=HP.o.at hkn;have hlen:(ps.getD k gO).1.2.length<=1000:=HLL.o _ (gK gO AL);obtain⟨⟨⟨xm,xs⟩,Ts⟩,ht⟩:∃t,t=ps.getD k gO:=⟨_,rfl⟩;rw[<-ht]at hc hs hm hlen;have WB:Hid (xs.length=xn):=hs.len;have HLK:Hid (xn<=1000):=by rw[Hid,<-WB.o];exact hlen
   have HC:=hid hc;have HS:=hid hs;have HM:=hid hm;have YT:=hid ht;clear hc hs hm ht hlen;obtain⟨A,hA⟩:∃A,A=tO xm xn xs:=⟨_,rfl⟩;obtain⟨s,hs⟩:∃s,(cV xm (au xs)).sign=s:=⟨_,rfl⟩;obtain⟨C,hC⟩:∃C,(s==0)=C:=⟨_,rfl⟩;obtain⟨D,hD⟩:∃D,D=aQ 0 Ts:=⟨_,rfl⟩
   have HT:Hid (wS ((xm,xs),Ts)=(A&& !C&&D)):=by
    rw[Hid,Kk HS.o.wf,WB.o,<-hA,hs,hC,<-hD]
   have HA:=hid hA;have kt:=hid hs;have HD:=hid hD;obtain⟨c0,c1,c2⟩:=HC.o _ HB.o;clear hA hD hs;go_upto_region 4 with(fail)
   refine aj (λW hW=>?_);obtain⟨a1,hB⟩:=gp wr [ai0 xm,ah9 xa xn xc,ah9 xp xq xr] 70;rw[<-hW]at a1 hB;clear hW;have HX:=hid a1;have lx:=hid (Below.ar HB.o hB);clear a1 hB c0 c1 c2;obtain⟨c0,c1,c2⟩:=HX.o.c3;cases A with
   |false=>
    have HR2:Hid (r=false):=by
     rw[Hid,<-HR.o];exact vB k AL (by unfold ri;rw[<-YT.o,HT.o];rfl)
    go_wp2_with fail;refine(IC false (HS.o.below lx.o) HA.o.symm).mono ?_;rintro e w5 ⟨rfl,hB⟩;have oq:=hid (Below.ar lx.o hB);have Rj:=hid (HX.o.below hB);clear hB lx HX c0 c1 c2;go_wp2_with fail;go_ret;have hr:=HR2.o;subst hr;exact⟨rfl,oq.o⟩
   |true=>
    go_wp2_with fail;refine(IC true (HS.o.below lx.o) HA.o.symm).mono ?_;rintro e w5 ⟨rfl,hB⟩;have oq:=hid (Below.ar lx.o hB);have Rj:=hid (HX.o.below hB);clear hB lx HX c0 c1 c2;obtain⟨c0,c1,c2⟩:=Rj.o.c3;go_wp2_with fail;refine(iZ s (x:=cV xm (au xs)) ⟨⟨xs,HS.o.below oq.o,rfl⟩,ai8 HLK.o (by omega)⟩ kt.o).mono ?_;rintro e w6 ⟨rfl,hB⟩;have uU:=hid (Below.ar oq.o hB);have HX6:=hid (Rj.o.below hB);clear hB oq Rj c0 c1 c2;obtain⟨c0,c1,c2⟩:=HX6.o.c3;cases C with
    |true=>
     have HR2:Hid (r=false):=by
      rw[Hid,<-HR.o];exact vB k AL (by unfold ri;rw[<-YT.o,HT.o];rfl)
     go_wp2_with fail;go_ret;have hr:=HR2.o;subst hr;exact⟨rfl,uU.o⟩
    |false=>
     go_wp2_with fail;refine(gJ D (HM.o.below uU.o) HD.o.symm).mono ?_;rintro e w7 ⟨rfl,hB⟩;have EM:=hid (Below.ar uU.o hB);have UN:=hid (HX6.o.below hB);clear hB uU HX6 c0 c1 c2;obtain⟨c0,c1,c2⟩:=UN.o.c3;cases D with
     |false=>
      have HR2:Hid (r=false):=by
       rw[Hid,<-HR.o];exact vB k AL (by unfold ri;rw[<-YT.o,HT.o];rfl)
      go_wp2_with fail;go_ret;have hr:=HR2.o;subst hr;exact⟨rfl,EM.o⟩
     |true=>
      by_cases hk0:k=0
      ·subst hk0
       have HE2:Hid (∀t,t<0+1->ri ps t=true):=λt ht=>by
        obtain rfl:t=0:=by omega
        unfold ri;rw[<-YT.o,HT.o];rfl
       have hd:decide ((0:Int)<((0:Nat):Int))=false:=rfl;clear c0 c1 c2;go_upto_region 6 with(fail)
       refine wp_region_held_drew (S:=λw'=>True) (by kernel_rfl) trivial (λhH=>?_);refine ah (λw8 hW=>?_);have ik:Hid (Below w.heap.size w w8):=by rw[hW];exact EM.o.drew
       clear hW EM;refine aT 0 hH ?_;try simp only[ax]
       refine aT 1 hH ?_;try simp only[ax]
       refine aT 2 hH ?_;try simp only[ax]
       refine yY 3 hH ?_;try simp only[ax]
       refine yY 4 hH ?_;try simp only[ax]
       refine yY 5 hH ?_;try simp only[ax]
       refine yY 6 hH ?_;try simp only[ax]
       refine yY 7 hH ?_;try simp only[ax]
       refine yY 8 hH ?_;try simp only[ax]
       refine yY 9 hH ?_;try simp only[ax]
       refine yY 10 hH ?_;try simp only[ax]
       refine aT 11 hH ?_;try simp only[ax]
       refine wpAnyH_done (by kernel_rfl) ?_ _
       go_wp2_with fail;go_roundw
       case rel=>exact⟨0+1,by go_num,by omega,HE2,ik⟩
       case measure=>simp[intOf];omega
      ·obtain⟨j,rfl⟩:∃j,k=j+1:=⟨k-1,by omega⟩;have Te:j<ps.length:=by omega
       obtain⟨b',off',ya,yn,yc,yp,yq,yr,e,_,hc,hs,hm⟩:=HP.o.at (k:=j) (by omega);cases e;obtain⟨⟨⟨ym,ys⟩,yps⟩,ht⟩:∃t,t=ps.getD j gO:=⟨_,rfl⟩;rw[<-ht]at hc hm;have HCY:=hid hc;have Qm:=hid hm;have HTY:=hid ht;clear hc hm hs ht c0 c1 c2;have hd:decide ((0:Int)<((j+1:Nat):Int))=true:=decide_eq_true (by omega);have hw:IntKind.i64.wrap (j:Int)=(j:Int):=IntWalk.i64_in _ ⟨by omega,by omega⟩;have hjn:j<n:=by omega
       have hj1:0<=(j:Int)+1:=by omega
       have hj2:(j:Int)+1<(n:Int):=by omega
       have HY:Hid (aQ 0 yps=true):=by
        have h:=HE.o j (by omega);unfold ri wS at h;rw[<-HTY.o]at h;simp only[Bool.and_eq_true]at h;exact h.1.2
       obtain⟨z,hz⟩:∃z,iq yps Ts=z:=⟨_,rfl⟩;have HRG:Hid (z= -1∨z=0∨z=1):=by rw[Hid,<-hz];exact pW HY.o HD.o.symm
       have HO:Hid (ri ps (j+1)=(z==1)):=by
        unfold ri;rw[Hid,<-YT.o,HT.o,show j+1-1=j from rfl,<-HTY.o];show(true&& !false&&true&&(j+1==0||iq yps Ts==1))=(z==1);rw[hz];simp
       have SZ:=hid hz;clear hz;go_upto_region 6 with(fail)
       refine wp_region_held_drew (S:=λw'=>(w'.cell? ⟨wr.heap.size,0,none⟩=some (ai0 xm)/\ w'.cell? ⟨wr.heap.size,1,none⟩=some (ah9 xa xn xc)/\ w'.cell? ⟨wr.heap.size,2,none⟩=some (ah9 xp xq xr))/\ (w'.cell? ⟨b,off+j*3,none⟩=some (ai0 ym)/\ w'.cell? ⟨b,off+j*3+1,none⟩=some (ah9 ya yn yc)/\ w'.cell? ⟨b,off+j*3+2,none⟩=some (ah9 yp yq yr))) (by kernel_rfl) ⟨UN.o.c3,HCY.o _ EM.o.drew⟩ (λhH=>?_);refine ah (λw8 hW=>?_);have ik:Hid (Below w.heap.size w w8):=by rw[hW];exact EM.o.drew
       have HX8:Hid (aS w8 wr.heap.size [ai0 xm,ah9 xa xn xc,ah9 xp xq xr] 70):=by rw[hW];exact UN.o.below (ah8 _ _).drew
       rw[<-hW]at hH;clear hW EM UN;refine aT 0 hH ?_;try simp only[ax]
       refine aT 1 hH ?_;try simp only[ax]
       refine aT 2 hH ?_;try simp only[ax]
       refine aT 3 hH ?_;try simp only[ax]
       refine aT 4 hH ?_;try simp only[ax]
       refine aT 5 hH ?_;try simp only[ax]
       refine aT 6 hH ?_;try simp only[ax]
       refine aT 7 hH ?_;try simp only[ax]
       refine aT 8 hH ?_;try simp only[ax]
       refine ag 9 rfl (by kernel_rfl) (λKK hK=>?_);go_simp;refine(zG z (Qm.o.below ik.o) (HM.o.below ik.o) HY.o HD.o.symm SZ.o).mono ?_;rintro e w9 ⟨rfl,hB⟩;have lY:=hid (Below.ar ik.o hB);have HX9:=hid (HX8.o.below hB);clear hB ik HX8;go_wp2_with fail;clear hH;refine hK.o _ _ ⟨HX9.o.c3,HCY.o _ lY.o⟩ λhH=>?_;clear hK KK
       try simp only[ax]
       obtain⟨q,hq⟩:∃q,decide (z<=0)=q:=⟨_,rfl⟩
       have HQ:Hid ((z==1)= !q):=by
        rw[Hid,<-hq];rcases HRG.o with e|e|e<;>subst e<;>rfl
       cases q with
       |true=>
        have HR2:Hid (r=false):=by
         rw[Hid,<-HR.o];exact vB (j+1) AL (by rw[HO.o,HQ.o];rfl)
        refine aT 10 hH ?_;try simp only[ax]
        refine aT 11 hH ?_;try simp only[ax]
        refine wpAnyH_done (by kernel_rfl) ?_ _
        go_wp2_with fail;go_ret;have hr:=HR2.o;subst hr;exact⟨rfl,lY.o⟩
       |false=>
        have HE2:Hid (∀t,t<j+1+1->ri ps t=true):=λt ht=>by
         by_cases h:t<j+1
         ·exact HE.o t h
         ·obtain rfl:t=j+1:=by omega
          rw[HO.o,HQ.o];rfl
        refine aT 10 hH ?_;try simp only[ax]
        refine aT 11 hH ?_;try simp only[ax]
        refine wpAnyH_done (by kernel_rfl) ?_ _
        go_wp2_with fail;go_roundw
        case rel=>exact⟨j+1+1,by go_num,by omega,HE2,lY⟩
        case measure=>simp[intOf];omega
  ·obtain rfl:k=n:=by omega
   have HR2:Hid (r=true):=by
    rw[Hid,<-HR.o];exact decide_eq_true λt ht=>HE.o t (by rw[<-yu.o];exact ht)
   go_wp2_with fail;go_ret;have hr:=HR2.o;subst hr;exact⟨rfl,HB.o⟩
open Lib (hid)
theorem Pr.pc [Ol] {K:Nat} {w:ah6} {ao:Z'} {n ae:Nat} {p:List ai} (h:Pr w ao n ae (p.map ir)) (hk:∀t∈p.map ir,t.1.2.length<=K):Pc K w ao n ae p:=by
 obtain⟨bF,h1,h2⟩:=h.ex
 have h3:bV (gL K w) bF ((p.map ir).map iP):=by
  refine bV.map iP (λv a ha h=>?_) h2;obtain⟨t,ht,rfl⟩:=ai3.1 ha;obtain⟨ao,n,ae,bo,k,cb,e1,e2,e4⟩:=h
  have hb:Bd t.1 K:=by
   have h4:=hk _ ha;have h5:=dG (aq t.1.natAbs) e2.wf;rw[av]at h5;exact uD h5 h4
  rw[pT];exact⟨_,ao,n,ae,bo,k,cb,e1,⟨rfl,e2⟩,hb,e4⟩
 rw[List.map_map,show iP ∘ ir=id from funext pT,List.map_id]at h3;exact⟨bF,h1,h3⟩
theorem Pc.jY [Ol] {K:Nat} {w:ah6} {ao:Z'} {n ae:Nat} {p:List ai} (h:Pc K w ao n ae p):∀t∈p.map ir,t.1.2.length<=K:=by
 intro t ht;obtain⟨s,hs,rfl⟩:=ai3.1 ht;obtain⟨i,hi,rfl⟩:=List.mem_iff_getElem.1 hs;obtain⟨_,_,_,_,_,_,_,_,_,_,_,_,_,hb,_⟩:=h.at (k:=i) (by rw[<-h.len];exact hi);rw[gI _ hi]at hb;exact hb.len
theorem kJ [Ol] {K:Nat} {w:ah6} {ao:Z'} {n ae:Nat} {p:List ai} (h:Pc K w ao n ae p) (hf:bD p) (hK:K<=1000):Calls Tryz.prog 32 #[ah9 ao n ae] w (cr (ai0 true) w):=
 mD true h.TM (λt ht=>ai8 (h.jY t ht) hK) (zH hf)
def PE [Ol] (K:Nat) (w:ah6) (p:List ai) (er:Int) (e:Ending) (w':ah6):Prop:=∃ao n ae,e= .returned (.tuple #[ah9 ao n ae,.int .i64 er])/\ Pc K w' ao n ae p/\ Below w.heap.size w w'
section
variable {K:Nat} {ao bo:Option Addr} {n ae m cb:Nat} {p q:List ai} {ps qs:List kr} {w:ah6}
theorem LV [Ol] (hp:Pc K w ao n ae p) (hq:Pc K w bo m cb q) (hfp:bD p) (Di:bD q) (hnm:n+m<=1000000) (hK:K<=1000):
  Calls Tryz.prog 25 #[ah9 ao n ae,ah9 bo m cb] w (PE (K+1) w (eu p q) 0):=by
 have HP:=hid hp;have HQ:=hid hq;have FP:=hid hfp;have FQ:=hid Di;have HN:=hid hp.len;clear hp hq hfp Di;go_enter Tryz.func25,Tryz.ntmps25;go_wp2_with fail;refine(kJ HP.o FP.o hK).mono ?_;rintro e w1 ⟨rfl,hB⟩;have HB1:=hid hB;have MA:=hid (HP.o.below hB);have Qt:=hid (HQ.o.below hB);clear hB HP HQ;go_wp2_with fail;refine(kJ Qt.o FQ.o hK).mono ?_;rintro e w2 ⟨rfl,hB⟩;have HB2:=hid (Below.ar HB1.o hB);have Tt:=hid (MA.o.below hB);have UF:=hid (Qt.o.below hB);clear hB MA Qt HB1;go_wp2_with fail;refine(Dn Tt.o.LB (by omega) (by omega)).mono ?_;rintro e w3 ⟨po,pn,pc,rfl,h1,hB⟩;have HB3:=hid (Below.ar HB2.o hB);have Tu:=hid (h1.mono HB2.o.size (ai5 _));have UU:=hid (UF.o.below hB);clear h1 hB Tt UF HB2;go_wp2_with fail;refine(Dn UU.o.LB (by omega) (by omega)).mono ?_;rintro e w4 ⟨qo,qn,qc,rfl,h1,hB⟩
 have hne:∀g,eQ po=some g->eQ qo≠some g:=λg hg e=>by
  have h2:=(Tu.o.lt g hg).2;have h3:=(h1.lt g e).1;omega
 have hlen:pn+qn<=1000000:=by have e1:=Tu.o.len;have e2:=h1.len;have e3:=UU.o.len;have e4:=HN.o;omega
 have lx:=hid (Below.ar HB3.o hB);have hsp:=iG FP.o (bG FQ.o);have HJ:=hid (nM (Tu.o.below hB) h1.pc hlen (by omega) hne lx.o.size FP.o FQ.o hsp.1 hsp.2);have HL:=hid (Tu.o.below hB).lt;clear h1 hB Tu UU HB3 hne hlen hsp;go_wp2_with fail;refine HJ.o.mono ?_;rintro e w5 ⟨ro,rn,rc,rfl,h1,h2,_⟩;have HR:Hid (PE (K+1) w (eu p q) 0 (.returned (.tuple #[ah9 ro rn rc,.int .i64 0])) w5):=⟨ro,rn,rc,rfl,h1.pc,lx.o.grown h2 lx.o.size (λr e=>(HL.o r e).1)⟩;clear h1 h2 HJ lx HL;go_wp2_with fail;go_ret2;exact HR.o
theorem E6 [Ol] (hp:Pc K w ao n ae p) (hq:Pc K w bo m cb q) (hfp:bD p) (Di:bD q) (hn:n<=300000) (hm:m<=300000) (hnm:n*m<=1000000) (hK:K<=1000) (hf:AA p q=true):
  Calls Tryz.prog 26 #[ah9 ao n ae,ah9 bo m cb] w (PE (K+K+n+m) w (df p q) 0):=by
 have HP:=hid hp;have HQ:=hid hq;have FP:=hid hfp;have FQ:=hid Di;have HF:=hid hf;clear hp hq hfp Di hf;go_enter Tryz.func26,Tryz.ntmps26;go_wp2_with fail;refine(kJ HP.o FP.o hK).mono ?_;rintro e w1 ⟨rfl,hB⟩;have HB1:=hid hB;have MA:=hid (HP.o.below hB);have Qt:=hid (HQ.o.below hB);clear hB HP HQ;go_wp2_with fail;refine(kJ Qt.o FQ.o hK).mono ?_;rintro e w2 ⟨rfl,hB⟩;have HB2:=hid (Below.ar HB1.o hB);have Tt:=hid (MA.o.below hB);have UF:=hid (Qt.o.below hB);clear hB MA Qt HB1;go_wp2_with fail;refine(uC Tt.o FP.o (by omega)).mono ?_;rintro e w3 ⟨xo,xn,xc,xm,rfl,h1,h2,hB⟩;have HB3:=hid (Below.ar HB2.o hB);have HX:=hid (ah5 h1 h2);have Tu:=hid (Tt.o.below hB);have UU:=hid (UF.o.below hB);clear h1 h2 hB Tt UF HB2;go_wp2_with fail;refine(uC UU.o FQ.o (by omega)).mono ?_;rintro e w4 ⟨yo,yn,yc,ym,rfl,h1,h2,hB⟩;have lx:=hid (Below.ar HB3.o hB);have HY:=hid (ah5 h1 h2);have QS:=hid (ah5 (HX.o.1.below hB) HX.o.2);have Ir:=hid (Tu.o.below hB);have HQ4:=hid (UU.o.below hB);clear h1 h2 hB HX Tu UU HB3;have HJ:=hid (Nz FP.o FQ.o QS.o.2 HY.o.2);go_wp2_with fail;refine(tI QS.o.1 HY.o.1).mono ?_;rw[HJ.o,HF.o];rintro e w5 ⟨zo,zn,zc,rfl,h1,hB⟩;have oq:=hid (Below.ar lx.o hB);have HP5:=hid (Ir.o.below hB);have PT:=hid (HQ4.o.below hB);clear h1 hB QS HY lx HJ Ir HQ4;go_wp2_with fail;refine(Dl HP5.o PT.o FP.o FQ.o (oA.1 HF.o) hnm hn hm (by omega)).mono ?_;rintro e w6 ⟨ro,rn,rc,r,K',rfl,h1,h2,h3,h4,hB⟩;have hs:=ux (bG FP.o) (bG FQ.o) (oA.1 HF.o);have hr:r=df p q:=sf h2 hs.1 λρ=>by rw[h4,hs.2]
 rw[hr]at h1;have HR:Hid (PE (K+K+n+m) w (df p q) 0 (.returned (.tuple #[ah9 ro rn rc,.int .i64 0])) w6):=⟨ro,rn,rc,rfl,h1.pc.mono h3,Below.ar oq.o hB⟩;clear h1 h2 h3 h4 hs hr hB HP5 PT oq;go_wp2_with fail;go_ret2;exact HR.o
end
section
variable {K:Nat} {ao:Option Addr} {n ae:Nat} {p:List ai} {ps:List kr} {w:ah6}
end
end Go.Proofs.YtmenbpmciblnlaaGreatDoor

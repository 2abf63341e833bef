/- WLawPlain, PlDeg, PlProd, PlMay, PlFace, PCont, PlCont -/
import Derived.Test.YthdhjckangekoaaGreatGP4
set_option maxHeartbeats 40000000
set_option maxRecDepth 100000
namespace Go.Proofs.YthdhjckangekoaaGreat
open Go.RowKit
theorem Bd.tmod {x y:Int} {k:Nat} (h:Bd x k):Bd (x.tmod y) k:=by
 unfold Bd at*
 have e:(x.tmod y).natAbs=x.natAbs%y.natAbs:=by
  have h1:=RI (decide (x<0)) (decide (y<0)) x.natAbs y.natAbs;rw[qZ,qZ]at h1;rw[<-h1,jD]
 rw[e];exact Nat.lt_of_le_of_lt (Nat.mod_le _ _) h
open Lib (hid)
structure kM (l:List Term) (m:List (Int×Int)):Prop where
 may:aJ 0 m=true
 all:∀t∈l,∀v,av t.2 v<=av m v
 att:∀v,av m v=0∨ ∃t∈l,av t.2 v=av m v
theorem kM.nil:kM [] []:=⟨rfl,(fun t h=>by cases h),fun v=> .inl rfl⟩
theorem kM.next {l:List Term} {m:List (Int×Int)} {t:Term} (h:kM l m) (ht:aJ 0 t.2=true):kM (l++[t]) (joinL (fun x y=>max x y) (orM m) (orM t.2)):=by
 rw[rC h.may,rC ht];have hj:=nG (f:=fun x y=>max x y) (by rfl) h.may ht;refine⟨?_,fun s hs v=>?_,fun v=>?_⟩
 ·rw[rz];refine⟨qy (by rfl) h.may ht,fun v=>?_⟩;rw[hj];have h1:=eD h.may v;have h2:=eD ht v;omega
 ·rw[hj];rcases List.mem_append.1 hs with hs|hs
  ·have:=h.all s hs v;omega
  ·rw[List.mem_singleton.1 hs];omega
 ·rw[hj];by_cases hle:av t.2 v<=av m v
  ·rw[Int.max_eq_left hle];rcases h.att v with h0|⟨s,hs,h1⟩
   ·exact .inl h0
   ·exact .inr ⟨s,by simp[hs],h1⟩
  ·exact .inr ⟨t,by simp,by omega⟩
theorem TA {p q:List Term} {a b:List (Int×Int)} (hp:fall p) (hq:fall q) (ha:kM p a) (hb:kM q b):aJ 0 (joinL (fun x y=>x+y) a b)=true↔iA p q:=by
 have hm:aJ 0 (joinL (fun x y=>x+y) a b)=true↔ ∀v,av a v+av b v<=10000:=kg ha.may hb.may;rw[hm];constructor
 ·intro h t ht s hs;rw[kg (bM hp t ht) (bM hq s hs)];intro v;have h1:=h v;have h2:=ha.all t ht v;have h3:=hb.all s hs v;omega
 ·intro h v;have h1:=eD ha.may v;have h2:=eD hb.may v;rcases ha.att v with h0|⟨t,ht,e1⟩
  ·omega
  ·rcases hb.att v with h0|⟨s,hs,e2⟩
   ·omega
   ·have h3:=(kg (bM hp t ht) (bM hq s hs)).1 (h t ht s hs) v;omega
theorem y7 {p q:List Term} {a b:List (Int×Int)} (hp:fall p) (hq:fall q) (ha:kM p a) (hb:kM q b):(gD (fun x y=>x+y) 8 a b).2=if zI p q=true then 0 else 8:=by
 have h:=TA hp hq ha hb;have h2:zI p q=true↔iA p q:=by simp[zI,iA]
 rw[<-h2]at h;unfold gD;rw[if_pos ⟨ha.may,hb.may⟩];cases hm:aJ 0 (joinL (fun x y=>x+y) a b)<;>cases hf:zI p q<;>simp_all
def ae1 [Ol] (w:World) (p:List Term) (e:Ending) (V:World):Prop:=∃mo mn mc m,e= .returned (.slice mo mn mc)/\ Ml V mo mn mc m/\ kM p m/\ Below w.heap.size w V
theorem mP [Ol] {K:Nat} {ao:Option Addr} {n cap:Nat} {p:List Term} {w:World} (hp:Pc K w ao n cap p) (hf:fall p) (hn:n<=1000000):
  Calls Tryz.prog 154 #[.slice ao n cap] w (ae1 w p):=by
 have HP:=hid hp;have HF:=hid hf;clear hp hf;go_enter Tryz.func154,Tryz.ntmps154;go_wp2;go_loopw [3,8] (fun s3 s8 wr=>∃(k:Nat) (mo:Option Addr) (mn mc:Nat) (m:List (Int×Int)),s3= .slice mo mn mc/\ s8= .int .i64 k/\ k<=n/\ Hid (Ml wr mo mn mc m/\ kM (p.take k) m/\ Below w.heap.size w wr)) (fun _ s8 _=>n-(intOf s8).toNat)
 case atStart=>exact⟨0,none,0,0,[],rfl,rfl,Nat.zero_le _,Ml.zero _,kM.nil,Below.refl _ _⟩
 case round=>
  obtain⟨k,mo,mn,mc,m,rfl,rfl,hk,HI⟩:=hrel;by_cases hkm:k<n
  ·have hkp:k<p.length:=by rw[HP.out.len];exact hkm
   obtain⟨t,ht⟩:∃t,t=p.getD k (0,[]):=⟨_,rfl⟩;obtain⟨b,off,xm,xa,xn,xc,xp,xq,xr,Fh,hbl,hc,rH,hBd,kU⟩:=(HP.out.below HI.out.2.2).at (k:=k) hkm;subst Fh;rw[<-ht]at kU;obtain⟨c0,c1,c2⟩:=hc wr (Below.refl _ _);have hD:=HI.out.2.1.next (bM HF.out t (by rw[ht];exact getD_in _ hkp));rw[ht,bJ _ hkp,<-List.take_succ_eq_append_getElem hkp,<-bJ (0,[]) hkp,<-ht]at hD;have HT:=hid (And.intro kU hD);clear hc rH hBd kU hbl ht hD;go_upto_region 5 with(fail)
   refine au (fun W hW=>?_);obtain⟨a1,hB⟩:=pF wr [.bool xm,.slice xa xn xc,.slice xp xq xr] 54;rw[<-hW]at a1 hB;clear hW c0 c1 c2;have HB1:=hid (Below.steps HI.out.2.2 hB);have rE:=hid (And.intro (HI.out.1.below hB) (HT.out.1.below hB));have HD:=hid HT.out.2;obtain⟨c0,c1,c2⟩:=a1.c3;clear a1 hB HT HI;go_wp2_with fail;refine(AO rE.out.1 rE.out.2).mono ?_;rintro e w2 ⟨ro,rn,rc,rfl,h1,hB⟩;have HI2:Hid (Ml w2 ro rn rc _/\ kM (p.take (k+1)) _/\ Below w.heap.size w w2):=⟨h1,HD.out,Below.steps HB1.out hB⟩;clear h1 hB HB1 rE HD c0 c1 c2;go_wp2;go_roundw
   case rel=>exact⟨k+1,ro,rn,rc,_,rfl,by go_num,by omega,HI2.out⟩
   case measure=>simp[intOf];omega
  ·obtain rfl:n=k:=by omega
   have h:=HI.out;rw[List.take_of_length_le (by rw[HP.out.len];exact Nat.le_refl _)]at h;have HH:=hid h;clear h HI;go_wp2;go_ret;exact⟨_,_,_,_,rfl,HH.out.1,HH.out.2.1,HH.out.2.2⟩
open Lib (hid)
theorem BF {a b:List (Int×Int)} (ha:aJ 0 a=true) (hb:aJ 0 b=true) (h:aJ 0 (gH a b)=true):gD (fun x y=>x+y) 8 a b=(gH a b,0):=by
 unfold gD;rw[if_pos ⟨ha,hb⟩];exact if_pos h
theorem vP {t:Term} (h0:t.1≠0) (ht:aJ 0 t.2=true):∀{p:List Term},fall p->(∀s∈p,aJ 0 (gH s.2 t.2)=true)->fall (wP p t)/\ (∀ρ,ev (wP p t) ρ=ev p ρ*(t.1*wm t.2 ρ))/\ (wP p t).length=p.length
 |[],_,_=>⟨trivial,fun ρ=>by simp[wP,ev],rfl⟩
 |s::r,hp,hf=>by
  have ih:=vP h0 ht (p:=r) hp.2.2.2 (fun x hx=>hf x (by simp[hx]));refine⟨⟨Int.mul_ne_zero hp.1 h0,hf s (by simp),fun x hx=>?_,ih.1⟩,fun ρ=>?_,zy _ _⟩
  ·obtain⟨y,hy,rfl⟩:=List.mem_map.1 hx;exact Rq hp.2.1 (bM hp.2.2.2 y hy) ht (hp.2.2.1 y hy)
  ·have e:=ih.2.1 ρ;have:wP (s::r) t=(s.1*t.1,gH s.2 t.2)::wP r t:=rfl;rw[this];simp only[ev];rw[e,wW hp.2.1 ht]
   grind
theorem TB (ρ:Nat->Int) (q:List Term) {k:Nat} (hk:k<q.length):ev (q.take (k+1)) ρ=ev (q.take k) ρ+(q.getD k (0,[])).1*wm (q.getD k (0,[])).2 ρ:=by
 rw[List.take_succ_eq_append_getElem hk,iE,bJ _ hk];simp[ev]
structure Kk [Ol] (w:World) (K:Nat) (p q:List Term) (k K2:Nat) (so:Option Addr) (n2 cap2:Nat) (X2:List (List Value)) (ps2:List (List Term)) (V:World):Prop where
 pl:jr w.heap.size K2 V so n2 cap2 X2 ps2
 kk:K2+n2<=K+K+k
 k2:K+K<=K2
 nk:n2<=k
 vs:∀ρ,evs ps2 ρ=ev p ρ*ev (q.take k) ρ
 ln:lens ps2<=k*p.length
 bw:Below w.heap.size w V
theorem Kk.start [Ol] (w:World) (K:Nat) (p q:List Term):Kk w K p q 0 (K+K) none 0 0 [] [] w:=⟨jr.nil _ _ _,by omega,Nat.le_refl _,Nat.le_refl _,fun ρ=>by simp[evs,ev],by simp[lens],Below.refl _ _⟩
theorem Kk.below [Ol] {w:World} {K:Nat} {p q:List Term} {k K2:Nat} {so:Option Addr} {n2 cap2:Nat} {X2:List (List Value)} {ps2:List (List Term)} {V V':World} (h:Kk w K p q k K2 so n2 cap2 X2 ps2 V) (hb:Below V.heap.size V V'):Kk w K p q k K2 so n2 cap2 X2 ps2 V':={ h with pl:=h.pl.below hb,bw:=Below.steps h.bw hb }
theorem Kk.QF [Ol] {w:World} {K:Nat} {p q:List Term} {k K2:Nat} {so:Option Addr} {n2 cap2:Nat} {X2:List (List Value)} {ps2:List (List Term)} {V V':World} (h:Kk w K p q k K2 so n2 cap2 X2 ps2 V) {K':Nat} {ro:Option Addr} {rn rc:Nat} {r:List Term} (h1:Pw V.heap.size K' V' ro rn rc r):Off X2 (blk ro):=fun g hg vs hv e=>by
 have:=(h1.lt g hg).1;have:=IV h.pl.mem vs hv g e;omega
theorem Kk.next [Ol] {w:World} {K:Nat} {p q:List Term} {k K2:Nat} {so:Option Addr} {n2 cap2:Nat} {X2:List (List Value)} {ps2:List (List Term)} {V V':World} {e:Ending} (h:Kk w K p q k K2 so n2 cap2 X2 ps2 V) {r:List Term} {t:Term} (hw:IU w.heap.size K2 n2 V ps2 r e V') (hk:k<q.length) (ht:t=q.getD k (0,[])) (hr:∀ρ,ev r ρ=ev p ρ*(t.1*wm t.2 ρ)) (hl:r.length<=p.length):
  ∃VK n3 zU X3 X8 K3,e= .returned (.slice VK n3 zU)/\ Kk w K p q (k+1) K3 VK n3 zU X3 X8 V':=by
 obtain⟨VK,n3,zU,X3,X8,K3,rfl,h1,h2,h3,h4,h5,h6⟩:=hw;refine⟨VK,n3,zU,X3,X8,max K3 (K+K),rfl,⟨h1.mono (Nat.le_max_left _ _),?_,Nat.le_max_right _ _,by have:=h.nk;omega,fun ρ=>?_,?_,h.bw.trans h6⟩⟩
 ·have:=h.kk;have:=h.nk;omega
 ·rw[h4,h.vs,hr,TB ρ q hk,<-ht];grind
 ·have:=h.ln;rw[Nat.add_mul,Nat.one_mul];omega
def QG [Ol] (K n m:Nat) (w:World) (p q:List Term) (e:Ending) (V:World):Prop:=
 ∃ro rn rc r K',e= .returned (.slice ro rn rc)/\ Pw w.heap.size K' V ro rn rc r/\ fall r/\ K'<=K+K+n+m/\ (∀ρ,ev r ρ=ev p ρ*ev q ρ)/\ Below w.heap.size w V
theorem F9 [Ol] {K:Nat} {ao bo:Option Addr} {n cap m cb:Nat} {p q:List Term} {w:World} (hp:Pc K w ao n cap p) (hq:Pc K w bo m cb q) (hfp:fall p) (jM:fall q) (hf:iA p q) (hnm:n*m<=1000000) (hnn:n<=300000) (ae9:m<=300000) (hK:K<=100000):
  Calls Tryz.prog 155 #[.slice ao n cap,.slice bo m cb] w (QG K n m w p q):=by
 have HP:=hid hp;have HQ:=hid hq;have FP:=hid hfp;have FQ:=hid jM;have HF:∀t∈q,∀s∈p,aJ 0 (gH s.2 t.2)=true:=fun t ht s hs=>hf s hs t ht
 have HG:∀t∈p,∀s∈q,aJ 0 (gH s.2 t.2)=true:=fun t ht s hs=>by rw[KL (bM jM s hs) (bM hfp t ht)];exact hf t ht s hs
 have ak2:n<=1000000:=by omega
 have ak3:m<=1000000:=by omega
 have hmn:m*n<=1000000:=by rw[Nat.mul_comm];exact hnm
 clear hp hq hfp jM hf;by_cases hlt:n<m
 ·have hd:decide ((n:Int)<(m:Int))=true:=decide_eq_true (by omega);go_enter Tryz.func155,Tryz.ntmps155;go_wp2;go_loopw [5,17] (fun s5 Ru wr=>∃(k K2:Nat) (so:Option Addr) (n2 cap2:Nat) (X2:List (List Value)) (ps2:List (List Term)),s5= .slice so n2 cap2/\ Ru= .int .i64 k/\ k<=n/\ Hid (Kk w K q p k K2 so n2 cap2 X2 ps2 wr)) (fun _ Ru _=>n-(intOf Ru).toNat)
  case atStart=>exact⟨0,K+K,none,0,0,[],[],rfl,rfl,Nat.zero_le _,Kk.start _ _ _ _⟩
  case round=>
   obtain⟨k,K2,so,n2,cap2,X2,ps2,rfl,rfl,hk,HS⟩:=hrel;by_cases hkm:k<n
   ·have hkq:k<p.length:=by rw[HP.out.len];exact hkm
    obtain⟨t,ht⟩:∃t,t=p.getD k (0,[]):=⟨_,rfl⟩;obtain⟨b,off,xm,xa,xn,xc,xp,xq,xr,Fh,hbl,hc,rH,hBd,kU⟩:=(HP.out.below HS.out.bw).at (k:=k) hkm;subst Fh;rw[<-ht]at rH hBd kU;obtain⟨c0,c1,c2⟩:=hc wr (Below.refl _ _);have HT:=hid (And.intro rH (And.intro hBd kU));have Rf:=hid ht;have Gg:t∈p:=by rw[ht];exact getD_in _ hkq
    clear hc rH hBd kU hbl ht;go_upto_region 7 with(fail)
    refine au (fun W hW=>?_);obtain⟨a1,hB⟩:=pF wr [.bool xm,.slice xa xn xc,.slice xp xq xr] 54;rw[<-hW]at a1 hB;clear hW c0 c1 c2;have ig:=hid (HS.out.below hB);have HT1:=hid (And.intro (HT.out.1.below hB) (And.intro HT.out.2.1 (HT.out.2.2.below hB)));obtain⟨c0,c1,c2⟩:=a1.c3;clear a1 hB HT HS;have hfit:=HG t Gg;have hsp:=vP (mG FP.out t Gg) (bM FP.out t Gg) FQ.out hfit;have HR:=hid (Kc (HQ.out.below ig.out.bw) ak3 (by omega) (by omega) HT1.out.1 HT1.out.2.1 HT1.out.2.2 (fun s hs=>BF (bM FQ.out s hs) (bM FP.out t Gg) (hfit s hs)));have Dm:=hid (And.intro hsp (And.intro Gg hkq));clear hfit hsp Gg hkq;go_wp2_with fail;refine HR.out.mono ?_;rintro e w2 ⟨ro,rn,rc,rfl,h1,hB⟩;have HS2:=hid (ig.out.below hB);have HO:=hid (ig.out.QF h1);have HW:=hid (h1.mono (Nat.le_trans ig.out.bw.size (Nat.le_refl _)) ig.out.k2);clear h1 hB HR ig HT1 c0 c1 c2;have hm1:=HS2.out.kk;have hm2:=HS2.out.ln;have MJ:=Dm.out.1.2.2;have JG:=HQ.out.len;have hm5:(k+1)*m<=n*m:=Nat.mul_le_mul_right _ hkm;rw[Nat.add_mul,Nat.one_mul]at hm5;rw[JG]at hm2;have hm6:=HS2.out.nk;have HWI:=hid (F6 HS2.out.pl HW.out Dm.out.1.1 HO.out (by rw[MJ,JG];omega) (by omega) HS2.out.bw.size);clear hm1 hm2 MJ JG hm5 hm6 HO HW;go_wp2_with fail;refine HWI.out.mono ?_;rintro e w3 hwi;obtain⟨VK,n3,zU,X3,X8,K3,rfl,hps⟩:=HS2.out.next hwi (by rw[HP.out.len];exact hkm) Rf.out Dm.out.1.2.1 (by rw[Dm.out.1.2.2];exact Nat.le_refl _);have nA:=hid hps;clear hwi hps HWI HS2;go_wp2;go_roundw
    case rel=>exact⟨k+1,K3,VK,n3,zU,X3,X8,rfl,by go_num,by omega,nA.out⟩
    case measure=>simp[intOf];omega
   ·obtain rfl:n=k:=by omega
    have hm1:=HS.out.kk;have hm2:=HS.out.ln;have MJ:=HS.out.vs;rw[List.take_of_length_le (by rw[HP.out.len];exact Nat.le_refl _)]at MJ;have JG:=HQ.out.len;have HSU:=hid (Ki HS.out.pl (by rw[JG]at hm2;omega) (by omega) HS.out.bw.size);have HV:=hid (And.intro MJ hm1);have xk:=hid HS.out.bw;clear hm1 hm2 MJ JG HS;go_wp2_with fail;refine HSU.out.mono ?_;rintro e w2 ⟨ro,rn,rc,r,K3,rfl,h1,h2,h3,h4,h5,h6⟩;have Rh:Hid (QG K n m w p q (.returned (.slice ro rn rc)) w2):=⟨ro,rn,rc,r,K3,rfl,h1,h2,by have:=HV.out.2;omega,fun ρ=>by rw[h4,HV.out.1];exact Int.mul_comm _ _,xk.out.trans h6⟩;clear h1 h2 h3 h4 h5 h6 HSU HV xk;go_wp2;go_ret;exact Rh.out
 ·have hd:decide ((n:Int)<(m:Int))=false:=decide_eq_false (by omega);go_enter Tryz.func155,Tryz.ntmps155;go_wp2;go_loopw [5,17] (fun s5 Ru wr=>∃(k K2:Nat) (so:Option Addr) (n2 cap2:Nat) (X2:List (List Value)) (ps2:List (List Term)),s5= .slice so n2 cap2/\ Ru= .int .i64 k/\ k<=m/\ Hid (Kk w K p q k K2 so n2 cap2 X2 ps2 wr)) (fun _ Ru _=>m-(intOf Ru).toNat)
  case atStart=>exact⟨0,K+K,none,0,0,[],[],rfl,rfl,Nat.zero_le _,Kk.start _ _ _ _⟩
  case round=>
   obtain⟨k,K2,so,n2,cap2,X2,ps2,rfl,rfl,hk,HS⟩:=hrel;by_cases hkm:k<m
   ·have hkq:k<q.length:=by rw[HQ.out.len];exact hkm
    obtain⟨t,ht⟩:∃t,t=q.getD k (0,[]):=⟨_,rfl⟩;obtain⟨b,off,xm,xa,xn,xc,xp,xq,xr,Fh,hbl,hc,rH,hBd,kU⟩:=(HQ.out.below HS.out.bw).at (k:=k) hkm;subst Fh;rw[<-ht]at rH hBd kU;obtain⟨c0,c1,c2⟩:=hc wr (Below.refl _ _);have HT:=hid (And.intro rH (And.intro hBd kU));have Rf:=hid ht;have Gg:t∈q:=by rw[ht];exact getD_in _ hkq
    clear hc rH hBd kU hbl ht;go_upto_region 7 with(fail)
    refine au (fun W hW=>?_);obtain⟨a1,hB⟩:=pF wr [.bool xm,.slice xa xn xc,.slice xp xq xr] 54;rw[<-hW]at a1 hB;clear hW c0 c1 c2;have ig:=hid (HS.out.below hB);have HT1:=hid (And.intro (HT.out.1.below hB) (And.intro HT.out.2.1 (HT.out.2.2.below hB)));obtain⟨c0,c1,c2⟩:=a1.c3;clear a1 hB HT HS;have hfit:=HF t Gg;have hsp:=vP (mG FQ.out t Gg) (bM FQ.out t Gg) FP.out hfit;have HR:=hid (Kc (HP.out.below ig.out.bw) ak2 (by omega) (by omega) HT1.out.1 HT1.out.2.1 HT1.out.2.2 (fun s hs=>BF (bM FP.out s hs) (bM FQ.out t Gg) (hfit s hs)));have Dm:=hid (And.intro hsp (And.intro Gg hkq));clear hfit hsp Gg hkq;go_wp2_with fail;refine HR.out.mono ?_;rintro e w2 ⟨ro,rn,rc,rfl,h1,hB⟩;have HS2:=hid (ig.out.below hB);have HO:=hid (ig.out.QF h1);have HW:=hid (h1.mono (Nat.le_trans ig.out.bw.size (Nat.le_refl _)) ig.out.k2);clear h1 hB HR ig HT1 c0 c1 c2;have hm1:=HS2.out.kk;have hm2:=HS2.out.ln;have MJ:=Dm.out.1.2.2;have JG:=HP.out.len;have hm5:(k+1)*n<=m*n:=Nat.mul_le_mul_right _ hkm;rw[Nat.add_mul,Nat.one_mul]at hm5;rw[JG]at hm2;have hm6:=HS2.out.nk;have HWI:=hid (F6 HS2.out.pl HW.out Dm.out.1.1 HO.out (by rw[MJ,JG];omega) (by omega) HS2.out.bw.size);clear hm1 hm2 MJ JG hm5 hm6 HO HW;go_wp2_with fail;refine HWI.out.mono ?_;rintro e w3 hwi;obtain⟨VK,n3,zU,X3,X8,K3,rfl,hps⟩:=HS2.out.next hwi (by rw[HQ.out.len];exact hkm) Rf.out Dm.out.1.2.1 (by rw[Dm.out.1.2.2];exact Nat.le_refl _);have nA:=hid hps;clear hwi hps HWI HS2;go_wp2;go_roundw
    case rel=>exact⟨k+1,K3,VK,n3,zU,X3,X8,rfl,by go_num,by omega,nA.out⟩
    case measure=>simp[intOf];omega
   ·obtain rfl:m=k:=by omega
    have hm1:=HS.out.kk;have hm2:=HS.out.ln;have MJ:=HS.out.vs;rw[List.take_of_length_le (by rw[HQ.out.len];exact Nat.le_refl _)]at MJ;have JG:=HP.out.len;have HSU:=hid (Ki HS.out.pl (by rw[JG]at hm2;omega) (by omega) HS.out.bw.size);have HV:=hid (And.intro MJ hm1);have xk:=hid HS.out.bw;clear hm1 hm2 MJ JG HS;go_wp2_with fail;refine HSU.out.mono ?_;rintro e w2 ⟨ro,rn,rc,r,K3,rfl,h1,h2,h3,h4,h5,h6⟩;have Rh:Hid (QG K n m w p q (.returned (.slice ro rn rc)) w2):=⟨ro,rn,rc,r,K3,rfl,h1,h2,by have:=HV.out.2;omega,fun ρ=>by rw[h4,HV.out.1],xk.out.trans h6⟩;clear h1 h2 h3 h4 h5 h6 HSU HV xk;go_wp2;go_ret;exact Rh.out
open Lib (hid)
theorem qK [Ol] (r:Bool) {ao:Option Addr} {n cap:Nat} {ps:List Raw} {w:World} (hp:Pr w ao n cap ps) (hl:∀t∈ps,t.1.2.length<=1000) (h:iV ps=r):
  Calls Tryz.prog 45 #[.slice ao n cap] w (bN (.bool r) w):=by
 obtain⟨aW,hG,_⟩:=hp.ex;have hbig:=hG.big;have ni:=hid hp.len;have HP:=hid hp;have HR:=hid h;have HLL:=hid hl;clear hp hG h hl;go_enter Tryz.func45,Tryz.ntmps45;go_wp2;go_loopw [7] (fun i wr=>∃k:Nat,i= .int .i64 k/\ k<=n/\ Hid (∀t,t<k->kH ps t=true)/\ Hid (Below w.heap.size w wr)) (fun i _=>n-(intOf i).toNat)
 case atStart=>exact⟨0,rfl,Nat.zero_le _,fun t h=>by omega,Below.refl _ _⟩
 case round=>
  obtain⟨k,rfl,hk,HE,HB⟩:=hrel;by_cases hkn:k<n
  ·have oJ:k<ps.length:=by rw[ni.out];omega
   obtain⟨b,off,xa,xn,xc,xp,xq,xr,rfl,hbw,hc,hs,hm⟩:=HP.out.at hkn;have hlen:(ps.getD k eu).1.2.length<=1000:=HLL.out _ (getD_in eu oJ);obtain⟨⟨⟨xm,xs⟩,QO⟩,ht⟩:∃t,t=ps.getD k eu:=⟨_,rfl⟩;rw[<-ht]at hc hs hm hlen;have Yg:Hid (xs.length=xn):=hs.len;have HLK:Hid (xn<=1000):=by rw[Hid,<-Yg.out];exact hlen
   have HC:=hid hc;have HS:=hid hs;have HM:=hid hm;have HTK:=hid ht;clear hc hs hm ht hlen;obtain⟨A,hA⟩:∃A,A=rT xm xn xs:=⟨_,rfl⟩;obtain⟨s,hs⟩:∃s,(dV xm (val xs)).sign=s:=⟨_,rfl⟩;obtain⟨C,hC⟩:∃C,(s==0)=C:=⟨_,rfl⟩;obtain⟨D,hD⟩:∃D,D=aJ 0 QO:=⟨_,rfl⟩
   have HT:Hid (uJ ((xm,xs),QO)=(A&& !C&&D)):=by
    rw[Hid,Mj HS.out.wf,Yg.out,<-hA,hs,hC,<-hD]
   have HA:=hid hA;have mV:=hid hs;have HD:=hid hD;obtain⟨c0,c1,c2⟩:=HC.out _ HB.out;clear hA hD hs;go_upto_region 4 with(fail)
   refine au (fun W hW=>?_);obtain⟨a1,hB⟩:=pF wr [.bool xm,.slice xa xn xc,.slice xp xq xr] 54;rw[<-hW]at a1 hB;clear hW;have HX:=hid a1;have mW:=hid (Below.steps HB.out hB);clear a1 hB c0 c1 c2;obtain⟨c0,c1,c2⟩:=HX.out.c3;cases A with
   |false=>
    have HR2:Hid (r=false):=by
     rw[Hid,<-HR.out];exact mO k oJ (by unfold kH;rw[<-HTK.out,HT.out];rfl)
    go_wp2_with fail;refine(JF false (HS.out.below mW.out) HA.out.symm).mono ?_;rintro e w5 ⟨rfl,hB⟩;have lY:=hid (Below.steps mW.out hB);have Tz:=hid (HX.out.below hB);clear hB mW HX c0 c1 c2;go_wp2_with fail;go_ret;have hr:=HR2.out;subst hr;exact⟨rfl,lY.out⟩
   |true=>
    go_wp2_with fail;refine(JF true (HS.out.below mW.out) HA.out.symm).mono ?_;rintro e w5 ⟨rfl,hB⟩;have lY:=hid (Below.steps mW.out hB);have Tz:=hid (HX.out.below hB);clear hB mW HX c0 c1 c2;obtain⟨c0,c1,c2⟩:=Tz.out.c3;go_wp2_with fail;refine(uf s (x:=dV xm (val xs)) ⟨⟨xs,HS.out.below lY.out,rfl⟩,Nat.le_trans HLK.out (by omega)⟩ mV.out).mono ?_;rintro e w6 ⟨rfl,hB⟩;have q8:=hid (Below.steps lY.out hB);have HX6:=hid (Tz.out.below hB);clear hB lY Tz c0 c1 c2;obtain⟨c0,c1,c2⟩:=HX6.out.c3;cases C with
    |true=>
     have HR2:Hid (r=false):=by
      rw[Hid,<-HR.out];exact mO k oJ (by unfold kH;rw[<-HTK.out,HT.out];rfl)
     go_wp2_with fail;go_ret;have hr:=HR2.out;subst hr;exact⟨rfl,q8.out⟩
    |false=>
     go_wp2_with fail;refine(gJ D (HM.out.below q8.out) HD.out.symm).mono ?_;rintro e w7 ⟨rfl,hB⟩;have BR:=hid (Below.steps q8.out hB);have HX7:=hid (HX6.out.below hB);clear hB q8 HX6 c0 c1 c2;obtain⟨c0,c1,c2⟩:=HX7.out.c3;cases D with
     |false=>
      have HR2:Hid (r=false):=by
       rw[Hid,<-HR.out];exact mO k oJ (by unfold kH;rw[<-HTK.out,HT.out];rfl)
      go_wp2_with fail;go_ret;have hr:=HR2.out;subst hr;exact⟨rfl,BR.out⟩
     |true=>
      by_cases hk0:k=0
      ·subst hk0
       have HE2:Hid (∀t,t<0+1->kH ps t=true):=fun t ht=>by
        obtain rfl:t=0:=by omega
        unfold kH;rw[<-HTK.out,HT.out];rfl
       have hd:decide ((0:Int)<((0:Nat):Int))=false:=rfl;clear c0 c1 c2;go_upto_region 6 with(fail)
       refine wp_region_held_drew (S:=fun w'=>True) (by kernel_rfl) trivial (fun hH=>?_);refine ak (fun w8 hW=>?_);have gX:Hid (Below w.heap.size w w8):=by rw[hW];exact BR.out.drew
       clear hW BR;refine aB 0 hH ?_;try simp only[ai]
       refine aB 1 hH ?_;try simp only[ai]
       refine aB 2 hH ?_;try simp only[ai]
       refine jJ 3 hH ?_;try simp only[ai]
       refine jJ 4 hH ?_;try simp only[ai]
       refine jJ 5 hH ?_;try simp only[ai]
       refine jJ 6 hH ?_;try simp only[ai]
       refine jJ 7 hH ?_;try simp only[ai]
       refine jJ 8 hH ?_;try simp only[ai]
       refine jJ 9 hH ?_;try simp only[ai]
       refine jJ 10 hH ?_;try simp only[ai]
       refine aB 11 hH ?_;try simp only[ai]
       refine wpAnyH_done (by kernel_rfl) ?_ _
       go_wp2_with fail;go_roundw
       case rel=>exact⟨0+1,by go_num,by omega,HE2,gX⟩
       case measure=>simp[intOf];omega
      ·obtain⟨j,rfl⟩:∃j,k=j+1:=⟨k-1,by omega⟩;have zJ:j<ps.length:=by omega
       obtain⟨b',off',ya,yn,yc,yp,yq,yr,e,_,hc,hs,hm⟩:=HP.out.at (k:=j) (by omega);cases e;obtain⟨⟨⟨ym,ys⟩,yps⟩,ht⟩:∃t,t=ps.getD j eu:=⟨_,rfl⟩;rw[<-ht]at hc hm;have HCY:=hid hc;have DL:=hid hm;have HTY:=hid ht;clear hc hm hs ht c0 c1 c2;have hd:decide ((0:Int)<((j+1:Nat):Int))=true:=decide_eq_true (by omega);have hw:IntKind.i64.wrap (j:Int)=(j:Int):=IntWalk.i64_in _ ⟨by omega,by omega⟩;have hjn:j<n:=by omega
       have hj1:0<=(j:Int)+1:=by omega
       have hj2:(j:Int)+1<(n:Int):=by omega
       have HY:Hid (aJ 0 yps=true):=by
        have h:=HE.out j (by omega);unfold kH uJ at h;rw[<-HTY.out]at h;simp only[Bool.and_eq_true]at h;exact h.1.2
       obtain⟨z,hz⟩:∃z,gN yps QO=z:=⟨_,rfl⟩;have HRG:Hid (z= -1∨z=0∨z=1):=by rw[Hid,<-hz];exact kZ HY.out HD.out.symm
       have HO:Hid (kH ps (j+1)=(z==1)):=by
        unfold kH;rw[Hid,<-HTK.out,HT.out,show j+1-1=j from rfl,<-HTY.out];show(true&& !false&&true&&(j+1==0||gN yps QO==1))=(z==1);rw[hz];simp
       have NR:=hid hz;clear hz;go_upto_region 6 with(fail)
       refine wp_region_held_drew (S:=fun w'=>(w'.cell? ⟨wr.heap.size,0,none⟩=some (.bool xm)/\ w'.cell? ⟨wr.heap.size,1,none⟩=some (.slice xa xn xc)/\ w'.cell? ⟨wr.heap.size,2,none⟩=some (.slice xp xq xr))/\ (w'.cell? ⟨b,off+j*3,none⟩=some (.bool ym)/\ w'.cell? ⟨b,off+j*3+1,none⟩=some (.slice ya yn yc)/\ w'.cell? ⟨b,off+j*3+2,none⟩=some (.slice yp yq yr))) (by kernel_rfl) ⟨HX7.out.c3,HCY.out _ BR.out.drew⟩ (fun hH=>?_);refine ak (fun w8 hW=>?_);have gX:Hid (Below w.heap.size w w8):=by rw[hW];exact BR.out.drew
       have HX8:Hid (aN w8 wr.heap.size [.bool xm,.slice xa xn xc,.slice xp xq xr] 54):=by rw[hW];exact HX7.out.below (Below.refl _ _).drew
       rw[<-hW]at hH;clear hW BR HX7;refine aB 0 hH ?_;try simp only[ai]
       refine aB 1 hH ?_;try simp only[ai]
       refine aB 2 hH ?_;try simp only[ai]
       refine aB 3 hH ?_;try simp only[ai]
       refine aB 4 hH ?_;try simp only[ai]
       refine aB 5 hH ?_;try simp only[ai]
       refine aB 6 hH ?_;try simp only[ai]
       refine aB 7 hH ?_;try simp only[ai]
       refine aB 8 hH ?_;try simp only[ai]
       refine aj 9 rfl (by kernel_rfl) (fun KK hK=>?_);go_simp;refine(rJ z (DL.out.below gX.out) (HM.out.below gX.out) HY.out HD.out.symm NR.out).mono ?_;rintro e w9 ⟨rfl,hB⟩;have sF:=hid (Below.steps gX.out hB);have HX9:=hid (HX8.out.below hB);clear hB gX HX8;go_wp2_with fail;clear hH;refine hK.out _ _ ⟨HX9.out.c3,HCY.out _ sF.out⟩ fun hH=>?_;clear hK KK
       try simp only[ai]
       obtain⟨q,hq⟩:∃q,decide (z<=0)=q:=⟨_,rfl⟩
       have HQ:Hid ((z==1)= !q):=by
        rw[Hid,<-hq];rcases HRG.out with e|e|e<;>subst e<;>rfl
       cases q with
       |true=>
        have HR2:Hid (r=false):=by
         rw[Hid,<-HR.out];exact mO (j+1) oJ (by rw[HO.out,HQ.out];rfl)
        refine aB 10 hH ?_;try simp only[ai]
        refine aB 11 hH ?_;try simp only[ai]
        refine wpAnyH_done (by kernel_rfl) ?_ _
        go_wp2_with fail;go_ret;have hr:=HR2.out;subst hr;exact⟨rfl,sF.out⟩
       |false=>
        have HE2:Hid (∀t,t<j+1+1->kH ps t=true):=fun t ht=>by
         by_cases h:t<j+1
         ·exact HE.out t h
         ·obtain rfl:t=j+1:=by omega
          rw[HO.out,HQ.out];rfl
        refine aB 10 hH ?_;try simp only[ai]
        refine aB 11 hH ?_;try simp only[ai]
        refine wpAnyH_done (by kernel_rfl) ?_ _
        go_wp2_with fail;go_roundw
        case rel=>exact⟨j+1+1,by go_num,by omega,HE2,sF⟩
        case measure=>simp[intOf];omega
  ·obtain rfl:k=n:=by omega
   have HR2:Hid (r=true):=by
    rw[Hid,<-HR.out];exact decide_eq_true fun t ht=>HE.out t (by rw[<-ni.out];exact ht)
   go_wp2_with fail;go_ret;have hr:=HR2.out;subst hr;exact⟨rfl,HB.out⟩
open Lib (hid)
theorem Pr.pc [Ol] {K:Nat} {w:World} {ao:Option Addr} {n cap:Nat} {p:List Term} (h:Pr w ao n cap (p.map iL)) (hk:∀t∈p.map iL,t.1.2.length<=K):Pc K w ao n cap p:=by
 obtain⟨aW,h1,h2⟩:=h.ex
 have h3:bG (fP K w) aW ((p.map iL).map mQ):=by
  refine bG.map mQ (fun v a ha h=>?_) h2;obtain⟨t,ht,rfl⟩:=List.mem_map.1 ha;obtain⟨ao,n,cap,bo,k,cb,e1,e2,e4⟩:=h
  have hb:Bd t.1 K:=by
   have h4:=hk _ ha;have h5:=gu (limbs t.1.natAbs) e2.wf;rw[aC]at h5;exact wB h5 h4
  rw[qY];exact⟨_,ao,n,cap,bo,k,cb,e1,⟨rfl,e2⟩,hb,e4⟩
 rw[List.map_map,show mQ ∘ iL=id from funext qY,List.map_id]at h3;exact⟨aW,h1,h3⟩
theorem Pc.lens [Ol] {K:Nat} {w:World} {ao:Option Addr} {n cap:Nat} {p:List Term} (h:Pc K w ao n cap p):∀t∈p.map iL,t.1.2.length<=K:=by
 intro t ht;obtain⟨s,hs,rfl⟩:=List.mem_map.1 ht;obtain⟨i,hi,rfl⟩:=List.mem_iff_getElem.1 hs;obtain⟨_,_,_,_,_,_,_,_,_,_,_,_,_,hb,_⟩:=h.at (k:=i) (by rw[<-h.len];exact hi);rw[bJ _ hi]at hb;exact hb.len
theorem jF [Ol] {K:Nat} {w:World} {ao:Option Addr} {n cap:Nat} {p:List Term} (h:Pc K w ao n cap p) (hf:fall p) (hK:K<=1000):Calls Tryz.prog 45 #[.slice ao n cap] w (bN (.bool true) w):=
 qK true h.raw (fun t ht=>Nat.le_trans (h.lens t ht) hK) (qV hf)
def PE [Ol] (K:Nat) (w:World) (p:List Term) (er:Int) (e:Ending) (w':World):Prop:=∃ao n cap,e= .returned (.tuple #[.slice ao n cap,.int .i64 er])/\ Pc K w' ao n cap p/\ Below w.heap.size w w'
section
variable {K:Nat} {ao bo:Option Addr} {n cap m cb:Nat} {p q:List Term} {ps qs:List Raw} {w:World}
theorem E8 [Ol] (hp:Pc K w ao n cap p) (hq:Pc K w bo m cb q) (hfp:fall p) (jM:fall q) (hnm:n+m<=1000000) (hK:K<=1000):
  Calls Tryz.prog 47 #[.slice ao n cap,.slice bo m cb] w (PE (K+1) w (fD p q) 0):=by
 have HP:=hid hp;have HQ:=hid hq;have FP:=hid hfp;have FQ:=hid jM;have HN:=hid hp.len;clear hp hq hfp jM;go_enter Tryz.func47,Tryz.ntmps47;go_wp2_with fail;refine(jF HP.out FP.out hK).mono ?_;rintro e w1 ⟨rfl,hB⟩;have HB1:=hid hB;have zD:=hid (HP.out.below hB);have Ap:=hid (HQ.out.below hB);clear hB HP HQ;go_wp2_with fail;refine(jF Ap.out FQ.out hK).mono ?_;rintro e w2 ⟨rfl,hB⟩;have HB2:=hid (Below.steps HB1.out hB);have Dq:=hid (zD.out.below hB);have JW:=hid (Ap.out.below hB);clear hB zD Ap HB1;go_wp2_with fail;refine(og Dq.out.inn (by omega) (by omega)).mono ?_;rintro e w3 ⟨po,pn,pc,rfl,h1,hB⟩;have HB3:=hid (Below.steps HB2.out hB);have Gf:=hid (h1.mono HB2.out.size (Nat.le_refl _));have Fs:=hid (JW.out.below hB);clear h1 hB Dq JW HB2;go_wp2_with fail;refine(og Fs.out.inn (by omega) (by omega)).mono ?_;rintro e w4 ⟨qo,qn,qc,rfl,h1,hB⟩
 have hne:∀g,blk po=some g->blk qo≠some g:=fun g hg e=>by
  have h2:=(Gf.out.lt g hg).2;have h3:=(h1.lt g e).1;omega
 have hlen:pn+qn<=1000000:=by have e1:=Gf.out.len;have e2:=h1.len;have e3:=Fs.out.len;have e4:=HN.out;omega
 have mW:=hid (Below.steps HB3.out hB);have hsp:=fU FP.out (ah FQ.out);have HJ:=hid (pK (Gf.out.below hB) h1.pc hlen (by omega) hne mW.out.size FP.out FQ.out hsp.1 hsp.2);have HL:=hid (Gf.out.below hB).lt;clear h1 hB Gf Fs HB3 hne hlen hsp;go_wp2_with fail;refine HJ.out.mono ?_;rintro e w5 ⟨ro,rn,rc,rfl,h1,h2,_⟩;have HR:Hid (PE (K+1) w (fD p q) 0 (.returned (.tuple #[.slice ro rn rc,.int .i64 0])) w5):=⟨ro,rn,rc,rfl,h1.pc,mW.out.grown h2 mW.out.size (fun r e=>(HL.out r e).1)⟩;clear h1 h2 HJ mW HL;go_wp2_with fail;go_ret2;exact HR.out
theorem Qd [Ol] (hp:Pc K w ao n cap p) (hq:Pc K w bo m cb q) (hfp:fall p) (jM:fall q) (hnm:n+m<=1000000) (hK:K<=1000):
  Calls Tryz.prog 92 #[.slice ao n cap,.slice bo m cb] w (PE (K+1) w (uU p q) 0):=by
 have HP:=hid hp;have HQ:=hid hq;have FP:=hid hfp;have FQ:=hid jM;have HN:=hid hp.len;clear hp hq hfp jM;go_enter Tryz.func92,Tryz.ntmps92;go_wp2_with fail;refine(jF HP.out FP.out hK).mono ?_;rintro e w1 ⟨rfl,hB⟩;have HB1:=hid hB;have zD:=hid (HP.out.below hB);have Ap:=hid (HQ.out.below hB);clear hB HP HQ;go_wp2_with fail;refine(jF Ap.out FQ.out hK).mono ?_;rintro e w2 ⟨rfl,hB⟩;have HB2:=hid (Below.steps HB1.out hB);have Dq:=hid (zD.out.below hB);have JW:=hid (Ap.out.below hB);clear hB zD Ap HB1;go_wp2_with fail;refine(og Dq.out.inn (by omega) (by omega)).mono ?_;rintro e w3 ⟨po,pn,pc,rfl,h1,hB⟩;have HB3:=hid (Below.steps HB2.out hB);have Gf:=hid (h1.mono HB2.out.size (Nat.le_refl _));have Fs:=hid (JW.out.below hB);clear h1 hB Dq JW HB2;go_wp2_with fail;refine(og Fs.out.inn (by omega) (by omega)).mono ?_;rintro e w4 ⟨qo,qn,qc,rfl,h1,hB⟩
 have hne:∀g,blk po=some g->blk qo≠some g:=fun g hg e=>by
  have h2:=(Gf.out.lt g hg).2;have h3:=(h1.lt g e).1;omega
 have hlen:pn+qn<=1000000:=by have e1:=Gf.out.len;have e2:=h1.len;have e3:=Fs.out.len;have e4:=HN.out;omega
 have mW:=hid (Below.steps HB3.out hB);have hsp:=q9 FP.out (ah FQ.out);have HJ:=hid (F4 (Gf.out.below hB) h1.pc hlen (by omega) hne mW.out.size FP.out FQ.out hsp.1 hsp.2);have HL:=hid (Gf.out.below hB).lt;clear h1 hB Gf Fs HB3 hne hlen hsp;go_wp2_with fail;refine HJ.out.mono ?_;rintro e w5 ⟨ro,rn,rc,rfl,h1,h2,_⟩;have HR:Hid (PE (K+1) w (uU p q) 0 (.returned (.tuple #[.slice ro rn rc,.int .i64 0])) w5):=⟨ro,rn,rc,rfl,h1.pc,mW.out.grown h2 mW.out.size (fun r e=>(HL.out r e).1)⟩;clear h1 h2 HJ mW HL;go_wp2_with fail;go_ret2;exact HR.out
theorem MF [Ol] (hp:Pc K w ao n cap p) (hq:Pc K w bo m cb q) (hfp:fall p) (jM:fall q) (hn:n<=300000) (hm:m<=300000) (hK:K<=1000) (hf:zI p q=false):
  Calls Tryz.prog 127 #[.slice ao n cap,.slice bo m cb] w (PE 0 w [] 8):=by
 have HP:=hid hp;have HQ:=hid hq;have FP:=hid hfp;have FQ:=hid jM;have HF:=hid hf;clear hp hq hfp jM hf;go_enter Tryz.func127,Tryz.ntmps127;go_wp2_with fail;refine(jF HP.out FP.out hK).mono ?_;rintro e w1 ⟨rfl,hB⟩;have HB1:=hid hB;have zD:=hid (HP.out.below hB);have Ap:=hid (HQ.out.below hB);clear hB HP HQ;go_wp2_with fail;refine(jF Ap.out FQ.out hK).mono ?_;rintro e w2 ⟨rfl,hB⟩;have HB2:=hid (Below.steps HB1.out hB);have Dq:=hid (zD.out.below hB);have JW:=hid (Ap.out.below hB);clear hB zD Ap HB1;go_wp2_with fail;refine(mP Dq.out FP.out (by omega)).mono ?_;rintro e w3 ⟨xo,xn,xc,xm,rfl,h1,h2,hB⟩;have HB3:=hid (Below.steps HB2.out hB);have HX:=hid (And.intro h1 h2);have Fs:=hid (JW.out.below hB);clear h1 h2 hB Dq JW HB2;go_wp2_with fail;refine(mP Fs.out FQ.out (by omega)).mono ?_;rintro e w4 ⟨yo,yn,yc,ym,rfl,h1,h2,hB⟩;have mW:=hid (Below.steps HB3.out hB);have HY:=hid (And.intro h1 h2);have KN:=hid (And.intro (HX.out.1.below hB) HX.out.2);clear h1 h2 hB HX Fs HB3;have HJ:=hid (y7 FP.out FQ.out KN.out.2 HY.out.2);go_wp2_with fail;refine(lu KN.out.1 HY.out.1).mono ?_;rw[HJ.out,HF.out];rintro e w5 ⟨zo,zn,zc,rfl,h1,hB⟩;have lY:=hid (Below.steps mW.out hB);clear h1 hB KN HY mW HJ;go_wp2_with fail;go_ret2;exact⟨none,0,0,rfl,Pc.zero _ _,lY.out⟩
theorem yZ [Ol] (hp:Pc K w ao n cap p) (hq:Pc K w bo m cb q) (hfp:fall p) (jM:fall q) (hn:n<=300000) (hm:m<=300000) (hnm:n*m<=1000000) (hK:K<=1000) (hf:zI p q=true):
  Calls Tryz.prog 127 #[.slice ao n cap,.slice bo m cb] w (PE (K+K+n+m) w (aU p q) 0):=by
 have HP:=hid hp;have HQ:=hid hq;have FP:=hid hfp;have FQ:=hid jM;have HF:=hid hf;clear hp hq hfp jM hf;go_enter Tryz.func127,Tryz.ntmps127;go_wp2_with fail;refine(jF HP.out FP.out hK).mono ?_;rintro e w1 ⟨rfl,hB⟩;have HB1:=hid hB;have zD:=hid (HP.out.below hB);have Ap:=hid (HQ.out.below hB);clear hB HP HQ;go_wp2_with fail;refine(jF Ap.out FQ.out hK).mono ?_;rintro e w2 ⟨rfl,hB⟩;have HB2:=hid (Below.steps HB1.out hB);have Dq:=hid (zD.out.below hB);have JW:=hid (Ap.out.below hB);clear hB zD Ap HB1;go_wp2_with fail;refine(mP Dq.out FP.out (by omega)).mono ?_;rintro e w3 ⟨xo,xn,xc,xm,rfl,h1,h2,hB⟩;have HB3:=hid (Below.steps HB2.out hB);have HX:=hid (And.intro h1 h2);have Gf:=hid (Dq.out.below hB);have Fs:=hid (JW.out.below hB);clear h1 h2 hB Dq JW HB2;go_wp2_with fail;refine(mP Fs.out FQ.out (by omega)).mono ?_;rintro e w4 ⟨yo,yn,yc,ym,rfl,h1,h2,hB⟩;have mW:=hid (Below.steps HB3.out hB);have HY:=hid (And.intro h1 h2);have KN:=hid (And.intro (HX.out.1.below hB) HX.out.2);have HP4:=hid (Gf.out.below hB);have HQ4:=hid (Fs.out.below hB);clear h1 h2 hB HX Gf Fs HB3;have HJ:=hid (y7 FP.out FQ.out KN.out.2 HY.out.2);go_wp2_with fail;refine(lu KN.out.1 HY.out.1).mono ?_;rw[HJ.out,HF.out];rintro e w5 ⟨zo,zn,zc,rfl,h1,hB⟩;have lY:=hid (Below.steps mW.out hB);have HP5:=hid (HP4.out.below hB);have HQ5:=hid (HQ4.out.below hB);clear h1 hB KN HY mW HJ HP4 HQ4;go_wp2_with fail;refine(F9 HP5.out HQ5.out FP.out FQ.out (iM.1 HF.out) hnm hn hm (by omega)).mono ?_;rintro e w6 ⟨ro,rn,rc,r,K',rfl,h1,h2,h3,h4,hB⟩;have hs:=eO (ah FP.out) (ah FQ.out) (iM.1 HF.out);have hr:r=aU p q:=iN h2 hs.1 fun ρ=>by rw[h4,hs.2]
 rw[hr]at h1;have HR:Hid (PE (K+K+n+m) w (aU p q) 0 (.returned (.tuple #[.slice ro rn rc,.int .i64 0])) w6):=⟨ro,rn,rc,rfl,h1.pc.mono h3,Below.steps lY.out hB⟩;clear h1 h2 h3 h4 hs hr hB HP5 HQ5 lY;go_wp2_with fail;go_ret2;exact HR.out
end
section
variable {K:Nat} {ao:Option Addr} {n cap:Nat} {p:List Term} {ps:List Raw} {w:World}
end
end Go.Proofs.YthdhjckangekoaaGreat

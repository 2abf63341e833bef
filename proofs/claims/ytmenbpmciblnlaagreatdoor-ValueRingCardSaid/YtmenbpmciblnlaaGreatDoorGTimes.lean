import Derived.Test.YtmenbpmciblnlaaGreatDoorGNatB
import Derived.Test.YtmenbpmciblnlaaGreatDoorGLaw
set_option maxHeartbeats 0
set_option maxRecDepth 100000
open Go renaming World->ah5
open Go.RowKit renaming Below->ah6
open Go.Value renaming slice->ah7
open List renaming drop_of_length_le->ai0,getD->ai1,getElem?_append_right->ai3,getElem?_drop->ai2,length_replicate->ai9,length_take->ah8,mem_append->ai4,mem_of_mem_drop->ai6,mem_of_mem_take->ai5,mem_replicate->ai8,replicate->ai7,take_of_length_le->ah9
open Nat renaming add_assoc->ak5,add_mul->aj3,add_zero->ak2,le_refl->ak6,lt_of_le_of_lt->ak7,lt_or_ge->aj4,min_eq_left->aj9,mod_lt->ak4,mul_add->aj1,mul_assoc->aj0,mul_comm->aj8,mul_le_mul_right->ak0,mul_left_comm->aj7,mul_lt_mul''->aj6,mul_zero->ak1,pow_add->aj2,pow_le_pow_right->aj5,zero_add->ak8,zero_le->ak3
namespace Go.Proofs.YtmenbpmciblnlaaGreatDoor
section
theorem Eg {zs:List Nat} {p c S m:Nat} (hp:p<zs.length) (h:au zs+4294967296^p*c=S):
  au (zs.set p ((m+zs.getD p 0+c)%4294967296))+4294967296^(p+1)*((m+zs.getD p 0+c)/4294967296)=S+4294967296^p*m:=by
 have h1:=iA zs p ((m+zs.getD p 0+c)%4294967296) hp;generalize zs.getD p 0=u at*
 have h2:4294967296^p*((m+u+c)%4294967296)+4294967296^(p+1)*((m+u+c)/4294967296)=4294967296^p*m+4294967296^p*u+4294967296^p*c:=by
  rw[Nat.pow_succ,aj0,<-aj1,<-aj1,<-aj1]
  congr 1
  omega
 omega
theorem xx {x n z c:Nat} (hx:x<4294967296) (hn:n<4294967296) (hz:z<4294967296) (hc:c<4294967296):x*n<=18446744065119617025/\ x*n+z+c<18446744073709551616:=by
 have h:x*n<=4294967295*4294967295:=Nat.mul_le_mul (by omega) (by omega);omega
theorem Eh {S i k P x n:Nat} (T:Nat) (h:T=S+4294967296^i*(P*n)):T+4294967296^(i+k)*(x*n)=S+4294967296^i*((P+4294967296^k*x)*n):=by
 rw[h,aj2,aj3,aj1]
 have:4294967296^i*4294967296^k*(x*n)=4294967296^i*(4294967296^k*x*n):=by
  simp only[aj0]
 omega
theorem pE {n k:Nat} (h:n<4294967296^k):(aq n).length<=k:=by
 rcases aj4 k (aq n).length with hl|hl
 ·obtain⟨j,hj⟩:∃j,nl (aq n)=j+1:=⟨(aq n).length-1,by rw[eI];omega⟩;have h1:=eh j hj;rw[av]at h1;have h2:4294967296^k<=4294967296^j:=aj5 (by omega) (by rw[eI]at hj;omega);omega
 ·exact hl
theorem xE {a b m n:Nat} (ha:a<4294967296^m) (hb:b<4294967296^n):a*b<4294967296^(m+n):=by
 rw[aj2];exact aj6 ha hb
theorem ad9 (a0 a1 b0 b1 B:Nat):a0*b0+(a1*b1)*(B*B)+((a0+a1)*(b0+b1)-a0*b0-a1*b1)*B=(a0+B*a1)*(b0+B*b1):=by
 have h:(a0+a1)*(b0+b1)-a0*b0-a1*b1=a0*b1+a1*b0:=by
  rw[aj3,aj1,aj1];omega
 rw[h];simp only[aj3,aj1]
 have e1:a1*b1*(B*B)=B*a1*(B*b1):=by
  simp only[aj7,aj8]
 have e2:a0*b1*B=a0*(B*b1):=by
  simp only[aj7,aj8]
 have e3:a1*b0*B=B*a1*b0:=by
  simp only[aj7,aj8]
 omega
theorem zZ (xs:List Nat) (h:Nat) (hl:h<=xs.length):au xs=au (xs.take h)+4294967296^h*au (xs.drop h):=by
 have:=bW (xs.take h) (xs.drop h);rw[List.take_append_drop,ah8,aj9 hl]at this;exact this
theorem qJ {X p n:Nat} (h:X*4294967296^p<4294967296^n) (hp:p<=n):X<4294967296^(n-p):=by
 have e:(4294967296:Nat)^n=4294967296^(n-p)*4294967296^p:=by rw[<-aj2];congr 1;omega
 rw[e]at h;exact Nat.lt_of_mul_lt_mul_right h
structure Ei (A C na nb h A0 A1 C0 C1:Nat):Prop where
 a:A=A0+4294967296^h*A1
 c:C=C0+4294967296^h*C1
 l0:A0+C0<A+C
 l1:A1+C1<A+C
 lm:A0+A1+(C0+C1)<A+C
 sa:A0+A1<=A
 sc:C0+C1<=C
 la:A<4294967296^na
 lc:C<4294967296^nb
 xU:A0*C0<4294967296^(2*h)
 high:A1*C1<4294967296^(na+nb-2*h)
 mid:(A0+A1)*(C0+C1)-A0*C0-A1*C1<4294967296^(na+nb-h)
 s1:A0*C0<=(A0+A1)*(C0+C1)
 s2:A1*C1<=(A0+A1)*(C0+C1)-A0*C0
 all:A0*C0+4294967296^(2*h)*(A1*C1)+4294967296^h*((A0+A1)*(C0+C1)-A0*C0-A1*C1)=A*C
theorem xF (xs:List Nat) (hw:Wf xs) (h:Nat) (h1:1<=h):au xs=au (xs.take h)+4294967296^h*au (xs.drop h)/\ au (xs.take h)<4294967296^h/\ (h<nl xs->0<au (xs.drop h))/\ au (xs.take h)+au (xs.drop h)<=au xs:=by
 have e1:au xs=au (xs.take h)+4294967296^h*au (xs.drop h):=by
  rcases Nat.le_total h xs.length with hl|hl
  ·exact zZ xs h hl
  ·rw[ah9 hl,ai0 hl];simp[au]
 have e2:au (xs.take h)<4294967296^h:=by
  have:=dG _ (hw.take h);refine Nat.lt_of_lt_of_le this (aj5 (by omega) ?_);rw[ah8];omega
 refine⟨e1,e2,λhn=>?_,?_⟩
 ·rcases Nat.eq_zero_or_pos (au (xs.drop h))with h0|h0
  ·rw[h0]at e1;obtain⟨j,hj⟩:∃j,nl xs=j+1:=⟨nl xs-1,by omega⟩;have h3:=eh j hj;have h4:4294967296^h<=4294967296^j:=aj5 (by omega) (by omega);omega
  ·exact h0
 ·have:1*au (xs.drop h)<=4294967296^h*au (xs.drop h):=ak0 _ (Nat.pos_of_ne_zero (by simp));omega
theorem GV {h:Nat} (h1:1<=h):2<=4294967296^h:=by
 have:(4294967296:Nat)^1<=4294967296^h:=aj5 (by omega) h1;omega
theorem Lj {A C na nb h:Nat} (hA:(aq A).length=na) (hC:(aq C).length=nb) (h2:1<=h) (h3:h<na∨h<nb) (h4:2*h<=na+nb):
  Ei A C na nb h (au ((aq A).take h)) (au ((aq A).drop h)) (au ((aq C).take h)) (au ((aq C).drop h)):=by
 obtain⟨a1,a2,a3,a4⟩:=xF (aq A) (dv A) h h2;obtain⟨c1,c2,c3,c4⟩:=xF (aq C) (dv C) h h2;rw[eI,hA]at a3;rw[eI,hC]at c3;have na':=dG (aq A) (dv A);have nb':=dG (aq C) (dv C);rw[av]at a1 a4 c1 c4 na' nb';rw[hA]at na';rw[hC]at nb';generalize au ((aq A).take h)=A0 at*
 generalize au ((aq A).drop h)=A1 at*
 generalize au ((aq C).take h)=C0 at*
 generalize au ((aq C).drop h)=C1 at*
 have hP:=GV h2;have hAC:A*C<4294967296^(na+nb):=xE na' nb';have e2h:(4294967296:Nat)^(2*h)=4294967296^h*4294967296^h:=by rw[Nat.two_mul,aj2]
 have hall:A0*C0+4294967296^(2*h)*(A1*C1)+4294967296^h*((A0+A1)*(C0+C1)-A0*C0-A1*C1)=A*C:=by
  rw[a1,c1,<-ad9,e2h,aj8 (A1*C1),aj8 ((A0+A1)*(C0+C1)-A0*C0-A1*C1)]
 have hx:(A0+A1)*(C0+C1)=A0*C0+A1*C1+(A0*C1+A1*C0):=by rw[aj3,aj1,aj1];omega
 have hA1:A0+2*A1<=A:=by
  have:=ak0 A1 hP;omega
 have WN:C0+2*C1<=C:=by
  have:=ak0 C1 hP;omega
 refine⟨a1,c1,?_,?_,?_,a4,c4,na',nb',?_,?_,?_,?_,?_,hall⟩
 ·rcases h3 with h3|h3
  ·have:=a3 h3;omega
  ·have:=c3 h3;omega
 ·rcases h3 with h3|h3
  ·have:=a3 h3;omega
  ·have:=c3 h3;omega
 ·rcases h3 with h3|h3
  ·have:=a3 h3;omega
  ·have:=c3 h3;omega
 ·rw[e2h];exact aj6 a2 c2
 ·refine qJ ?_ h4
  rw[aj8];omega
 ·refine qJ ?_ (by omega);rw[aj8];omega
 ·omega
 ·omega
theorem qK {zs:List Nat} {k:Nat} (hz:∀t,k<=t->zs.getD t 0=0):au (zs.drop k)=0:=by
 have hd:∀(l:List Nat),(∀t,l.getD t 0=0)->au l=0:=by
  intro l;induction l with
  |nil=>intro _;rfl
  |cons x l ih=>
   intro hl;have h0:=hl 0;simp at h0;rw[bu,h0,ih (λt=>by have:=hl (t+1);simpa using this)]
 refine hd _ λt=>?_
 have:=hz (k+t) (by omega);simpa[ai1,ai2]using this
theorem BG {zs ys:List Nat} {k:Nat} (hz:∀t,k<=t->zs.getD t 0=0) (hl:k+ys.length<=zs.length):au (zs.take k++(ys++zs.drop (k+ys.length)))=au zs+4294967296^k*au ys:=by
 have h1:au (zs.drop (k+ys.length))=0:=qK λt ht=>hz t (by omega)
 have h2:au (zs.take k)=au zs:=by
  have:=zZ zs k (by omega);rw[qK hz]at this;omega
 rw[bW,bW,h1,h2,ah8,aj9 (by omega),ak1,ak2]
theorem OT {zs ys:List Nat} {k t:Nat} (hz:∀t,k<=t->zs.getD t 0=0) (hl:k+ys.length<=zs.length) (ht:k+ys.length<=t):(zs.take k++(ys++zs.drop (k+ys.length))).getD t 0=0:=by
 have h1:(zs.take k).length=k:=by rw[ah8];omega
 have:=hz t (by omega);simp only[ai1]at this ⊢;rw[ai3 (by omega),ai3 (by omega),h1,ai2,<-this]
 congr 2
 omega
theorem GG {zs ys:List Nat} {k:Nat} (hz:Wf zs) (hy:Wf ys):Wf (zs.take k++(ys++zs.drop (k+ys.length))):=by
 intro x hx;rcases ai4.1 hx with hx|hx
 ·exact hz x (ai5 hx)
 ·rcases ai4.1 hx with hx|hx
  ·exact hy x hx
  ·exact hz x (ai6 hx)
theorem BH {zs ys:List Nat} {k:Nat} (hl:k+ys.length<=zs.length):(zs.take k++(ys++zs.drop (k+ys.length))).length=zs.length:=by
 simp;omega
end
section
open Go.RowKit
def Od (w:ah5) (ys:List Nat) (k:Nat) (e:Ending) (w':ah5):Prop:=
 ∃ao n ae,e= .returned (ah7 ao n ae)/\ Sl w ao n ae ys/\ n<=k/\ w=w'
theorem Sl.take {w:ah5} {ao:Z'} {n ae:Nat} {xs:List Nat} (h:Sl w ao n ae xs) (k:Nat) (hk:k<=n):Sl w ao k ae (xs.take k):=
 ⟨by rw[ah8,h.len];omega,by have:=h.le;omega,by have:=h.big;omega,h.wf|>λhw x hx=>hw x (ai5 hx),h.nil,λad had t ht=>by
  rw[h.cells ad had t (by omega)]
  congr 3
  simp[ai1,ht]⟩
theorem su {xs:List Nat} (h:Wf xs):(eM (au xs)+31)/32=nl xs:=by
 by_cases h0:nl xs=0
 ·have:au xs=0:=iM.1 (jg h0);rw[this,h0];rfl
 ·obtain⟨k,hk⟩:∃k,nl xs=k+1:=⟨nl xs-1,by omega⟩;have h1:=zV h k hk
  have hlt:xs.getD k 0<4294967296:=by
   by_cases ht:k<xs.length
   ·simp only[ai1,List.getElem?_eq_getElem ht,Option.getD_some];exact h _ (List.getElem_mem ht)
   ·simp[ai1,List.getElem?_eq_none (by omega:xs.length<=k)]
  have h2:eM (xs.getD k 0)<=32:=sP (by omega)
  have h3:eM (xs.getD k 0)≠0:=by
   intro hz;have hz':=jG.1 hz;have:=km xs k (by have:=fV xs;omega) hz';have h5:=fV (xs.take k);rw[ah8]at h5
   have h6:nl (xs.take (k+1))=k+1:=by
    have e:xs.take (k+1)=bE xs:=by rw[cF,hk]
    rw[e];unfold nl;have:=cF (bE xs);have h7:bE (bE xs)=bE xs:=by rw[cq xs h,jH]
    rw[h7];exact hk
   omega
  omega
theorem mW (ao:Z') (n ae:Nat) (xs:List Nat) (w:ah5) (hs:Sl w ao n ae xs):
  Calls Tryz.prog 213 #[ah7 ao n ae] w (Od w (aq (au xs)) n):=by
 have hle:=hs.le;have hbig:=hs.big;have hnl:nl xs<=n:=by have:=fV xs;rw[hs.len]at this;exact this
 have HT:Hid (aq (au xs)=xs.take (nl xs)):=by show _=_;rw[<-cq xs hs.wf,cF]
 have hup:=su hs.wf;obtain⟨b,hb⟩:∃b,b=eM (au xs):=⟨_,rfl⟩;obtain⟨m,hm⟩:∃m,m=nl xs:=⟨_,rfl⟩;rw[<-hb,<-hm]at hup;rw[<-hm]at HT hnl;have HB:=Lib.hid hb;have hbl:b<=32*m:=by omega
 have hdv:(((b:Nat):Int)+32-1)/32=((m:Nat):Int):=by omega
 have HM:=Lib.hid hm;clear hb hup hm;go_enter Tryz.func213,Tryz.ntmps213;by_cases h0:m=0
 ·subst h0;go_wp2_with fail;refine(fJ b _ _ _ _ _ hs HB.o.symm).mono ?_;rintro e w' ⟨rfl,rfl⟩;go_wp2_with fail;go_ret;exact⟨_,_,_,rfl,by rw[HT.o];exact Sl.none _,ak3 _,rfl⟩
 ·have hb0:(((m:Nat):Int)==0)=false:=by simp;omega
  go_wp2_with fail;refine(fJ b _ _ _ _ _ hs HB.o.symm).mono ?_;rintro e w' ⟨rfl,rfl⟩;go_wp2_with fail;go_ret;exact⟨_,_,_,rfl,by rw[HT.o];exact hs.take m hnl,hnl,rfl⟩
theorem xG (B:Nat) (ao:Z') (n ae:Nat) (xs:List Nat) (w:ah5) (h:bX B w ao n ae xs):
  Calls Tryz.prog 213 #[ah7 ao n ae] w (C8 B w (aq (au xs))):=by
 have hs:=h.sl;have hle:=hs.le;have hbig:=hs.big;have hnl:nl xs<=n:=by have:=fV xs;rw[hs.len]at this;exact this
 have HT:Hid (aq (au xs)=xs.take (nl xs)):=by show _=_;rw[<-cq xs hs.wf,cF]
 have hup:=su hs.wf;obtain⟨b,hb⟩:∃b,b=eM (au xs):=⟨_,rfl⟩;obtain⟨m,hm⟩:∃m,m=nl xs:=⟨_,rfl⟩;rw[<-hb,<-hm]at hup;rw[<-hm]at HT hnl;have HB:=Lib.hid hb;have hbl:b<=32*m:=by omega
 have hdv:(((b:Nat):Int)+32-1)/32=((m:Nat):Int):=by omega
 clear hb hup hm;go_enter Tryz.func213,Tryz.ntmps213;by_cases h0:m=0
 ·subst h0;go_wp2_with fail;refine(fJ b _ _ _ _ _ hs HB.o.symm).mono ?_;rintro e w' ⟨rfl,rfl⟩;go_wp2_with fail;go_ret;exact⟨_,_,_,rfl,by rw[HT.o];exact bX.nil _ _,rfl⟩
 ·have hb0:(((m:Nat):Int)==0)=false:=by simp;omega
  go_wp2_with fail;refine(fJ b _ _ _ _ _ hs HB.o.symm).mono ?_;rintro e w' ⟨rfl,rfl⟩;go_wp2_with fail;go_ret;exact⟨_,_,_,rfl,by rw[HT.o];exact h.take m hnl (by omega),rfl⟩
end
section
open Lib (hid)
open Go.RowKit
def OU (w0:ah5) (g N:Nat) (zs:List Nat) (p S c:Nat) (w':ah5):Prop:=
 ∃ys,bX w0.heap.size w' (some ⟨g,0,none⟩) N N ys/\ ah6 w0.heap.size w0 w'/\ au ys+4294967296^p*c=S/\∀t,p<=t->ys.getD t 0=zs.getD t 0
def VG (w0:ah5) (g N:Nat) (zs:List Nat) (p S:Nat) (e:Ending) (w':ah5):Prop:=
 ∃c:Nat,e= .returned (.int .u32 (c:Int))/\ c<4294967296/\ OU w0 g N zs p S c w'
theorem xH (w0 w:ah5) (g N i:Nat) (zs:List Nat) (a0:Z') (la ca:Nat) (xs:List Nat) (n:Nat) (ha:Sl w0 a0 la ca xs) (hB:ah6 w0.heap.size w0 w)
  (hO:bX w0.heap.size w (some ⟨g,0,none⟩) N N zs) (hg:w0.heap.size<=g) (hfit:i+la<=N) (hn:n<4294967296):
  Calls Tryz.prog 236 #[ah7 (some ⟨g,i,none⟩) (N-i) (N-i),ah7 a0 la ca,.int .u32 (n:Int)] w (VG w0 g N zs (i+la) (au zs+4294967296^i*(au xs*n))):=by
 have b1:=ha.big;have l1:=ha.le;have hNb:=hO.big;have HX:Hid (xs.take la=xs):=cE xs la ha.len;have hI:OU w0 g N zs (i+0) (au zs+4294967296^i*(au (xs.take 0)*n)) 0 w:=⟨zs,hO,hB,by simp[au],λ_ _=>rfl⟩;go_enter Tryz.func236,Tryz.ntmps236;clear hO hB;go_wp2_with fail;go_loopw [7,8,9,10,13] (λc _ _ _ j wr=>∃k cc:Nat,k<=la/\ j= .int .i64 k/\ c= .int .u64 cc/\ cc<4294967296/\ OU w0 g N zs (i+k) (au zs+4294967296^i*(au (xs.take k)*n)) cc wr) (λ_ _ _ _ j _=>la-(intOf j).toNat)
 case atStart=>exact⟨0,0,ak3 _,rfl,rfl,by omega,hI⟩
 case round=>
  clear hI;obtain⟨k,cc,hk,rfl,rfl,hcc,ys,hO,hB,hV,hZ⟩:=hrel;by_cases hkl:k<la
  ·obtain⟨b,off,rfl,hbb,hcb⟩:=ha.at (by omega);have hxc:wr.cell? ⟨b,off+k,none⟩=some (.int .u32 (xs.getD k 0:Nat)):=(hB.cell (by exact hbb)).trans (hcb k (by omega));have hzc:=hO.cell (i+k) (by omega);have vy:=hO.frozen (i+k);have hxl:=ha.bJ k;have hzl:=hO.bJ (i+k);have hstep:=Eg (m:=xs.getD k 0*n) (by rw[hO.len];omega) hV;obtain⟨x,hx⟩:∃x,x=xs.getD k 0:=⟨_,rfl⟩;obtain⟨z,hz⟩:∃z,z=ys.getD (i+k) 0:=⟨_,rfl⟩;rw[<-hx]at hxc hxl hstep;rw[<-hz]at hzc hzl hstep;have HX:=hid hx;have HST:=hid hstep;have HZ:=hid hZ;obtain⟨hw1,hw2⟩:=xx hxl hn hzl hcc;obtain⟨m,hm⟩:∃m,m=x*n:=⟨_,rfl⟩;rw[<-hm]at hw1 hw2;have HM:=hid hm;have UG:((x:Nat):Int)*((n:Nat):Int)=((m:Nat):Int):=by rw[hm];simp
   clear hx hz hV hZ hstep hcb hm;go_wp2;go_roundw
   case rel=>
    have e1:(((m:Nat):Int)+((z:Nat):Int)+((cc:Nat):Int))/4294967296=(((x*n+z+cc)/4294967296:Nat):Int):=by rw[<-HM.o];omega
    have e2:(((m:Nat):Int)+((z:Nat):Int)+((cc:Nat):Int))%4294967296=(((x*n+z+cc)%4294967296:Nat):Int):=by rw[<-HM.o];omega
    refine⟨k+1,(x*n+z+cc)/4294967296,by omega,by go_num,by rw[e1],by rw[<-HM.o];omega,?_⟩;rw[e2];refine⟨_,hO.set (i+k) _ (ak4 _ (by omega)),hB.setCell hg _,?_,λt ht=>?_⟩
    ·rw[<-ak5,HST.o,bC xs k (by rw[ha.len];omega),<-HX.o];exact Eh _ rfl
    ·rw[eH,if_neg (by omega)];exact HZ.o t (by omega)
   case measure=>simp[intOf];omega
  ·obtain rfl:k=la:=by omega
   rw[HX.o]at hV;have HV:=hid hV;have HZ:=hid hZ;clear hV hZ;go_wp2;go_ret;refine⟨cc,fe (by omega),hcc,ys,hO,hB,HV.o,HZ.o⟩
end
section
open Lib (hid)
open Go.RowKit
def vG (B g N la:Nat) (w:ah5) (S k:Nat) (wr:ah5):Prop:=
 ∃zs,bX B wr (some ⟨g,0,none⟩) N N zs/\ ah6 B w wr/\ au zs=S/\∀t,k+la<=t->zs.getD t 0=0
theorem Aa {ys:List Nat} {p S c N:Nat} (h:au ys+4294967296^p*c=S) (hl:ys.length=N) (hp:p<N) (h0:ys.getD p 0=0):au (ys.set p c)=S:=by
 have:=iA ys p c (by omega);rw[h0]at this;omega
theorem Sh (a0 b0:Z') (la ca lb cb:Nat) (xs ys:List Nat) (w:ah5) (ha:Sl w a0 la ca xs) (hb:Sl w b0 lb cb ys) (hge:(aq (au ys)).length<=(aq (au xs)).length) (ra:la<=1000000000000) (rb:lb<=1000000000000):
  Calls Tryz.prog 214 #[ah7 a0 la ca,ah7 b0 lb cb] w (fW w (aq (au xs*au ys))):=by
 obtain⟨i0,hi,hz0,hz1,hz2⟩:=info_parts Tryz.fx;go_enter Tryz.func214,Tryz.ntmps214;go_wp2_with fail;refine(mW _ _ _ _ _ ha).mono ?_;rintro e w' ⟨a1,n1,c1,rfl,hA,hn1,rfl⟩;go_wp2_with fail;refine(mW _ _ _ _ _ hb).mono ?_;rintro e w' ⟨b1,m1,d1,rfl,hB,hm1,rfl⟩;rw[hA.len,hB.len]at hge;go_wp2_with (at_make;refine wpList_make_full _ rfl _ _ 27 rfl w.heap.size 192 i0 (.int .u32 0) 1 Tryz.underlying27 hi hz0 hz1 _ _ _ _ (n1+m1) rfl rfl (by omega) (by omega) ?b2 ?b3 (ak6 _) ?_)
 case b2=>rw[hz2];omega
 case b3=>unfold maxLen;omega
 intro w1 hown1 hgrow1;rw[gX]at hown1;have hb1:ah6 w.heap.size w w1:=(Below.refl _ _).grown hgrow1 (ak6 _) (λk h=>by cases h)
 have mK:bX w.heap.size w1 (some ⟨w.heap.size,0,none⟩) (n1+m1) (n1+m1) (ai7 (n1+m1) 0):=
  ⟨hown1,by omega,λx hx=>by rw[(ai8.1 hx).2];omega⟩
 have hI:vG w.heap.size w.heap.size (n1+m1) n1 w (au xs*au ((aq (au ys)).take 0)) 0 w1:=
  ⟨_,mK,hb1,by rw[fG];simp[au],λt _=>dp _ _⟩
 have Zm:Hid ((aq (au ys)).take m1=aq (au ys)):=cE _ _ hB.len;have HXS:Hid (au (aq (au xs))=au xs):=av _;clear hown1 hgrow1 hb1 mK;go_wp2_with fail;go_loopw [6,7,27] (λ_ _ j wr=>∃k:Nat,k<=m1/\ j= .int .i64 k/\ vG w.heap.size w.heap.size (n1+m1) n1 w (au xs*au ((aq (au ys)).take k)) k wr) (λ_ _ j _=>m1-(intOf j).toNat)
 case atStart=>exact⟨0,ak3 _,rfl,hI⟩
 case round=>
  clear hI;obtain⟨k,hk,rfl,zs,hO,hBl,hV,hZ⟩:=hrel;by_cases hkm:k<m1
  ·obtain⟨b,off,rfl,hbb,hcb⟩:=hB.at (by omega);have GX:wr.cell? ⟨b,off+k,none⟩=some (.int .u32 ((aq (au ys)).getD k 0:Nat)):=(hBl.cell (by exact hbb)).trans (hcb k (by omega));have hyl:=hB.bJ k;have Zn:=hid (bC (aq (au ys)) k (by rw[hB.len];omega));obtain⟨y,hy⟩:∃y,y=(aq (au ys)).getD k 0:=⟨_,rfl⟩;rw[<-hy]at GX hyl Zn;have HV:=hid hV;have HZ:=hid hZ;have OV:=hid (xH w wr w.heap.size (n1+m1) k zs a1 n1 c1 _ y hA hBl hO (ak6 _) (by omega) hyl);clear hy hV hZ hcb;go_wp2_with fail;refine OV.o.mono ?_;rintro e w2 ⟨cc,rfl,hcc,us,hO2,hB2,hV2,hZ2⟩;have vy:=hO2.frozen (k+n1);have hzc:=hO2.cell (k+n1) (by omega);have LN:=hid hV2;have HZ2:=hid hZ2;clear hV2 hZ2 OV;have HZ0:Hid (us.getD (k+n1) 0=0):=by show _=_;rw[HZ2.o _ (ak6 _)];exact HZ.o _ (ak6 _)
   rw[HZ0.o]at hzc;go_wp2_with fail;go_roundw
   case rel=>
    refine⟨k+1,by omega,by go_num,_,hO2.set (k+n1) cc hcc,hB2.setCell (ak6 _) _,?_,λt ht=>?_⟩
    ·rw[Aa LN.o hO2.len (by omega) HZ0.o,HV.o,HXS.o,Zn.o,aj1]
     congr 1
     rw[aj7]
    ·rw[eH,if_neg (by omega),HZ2.o t (by omega)];exact HZ.o t (by omega)
   case measure=>simp[intOf];omega
  ·obtain rfl:k=m1:=by omega
   rw[Zm.o,av]at hV;have hbare:=xG _ _ _ _ _ _ hO;rw[hV]at hbare;have QV:=hid hbare;clear hbare hV hZ;go_wp2_with fail;refine QV.o.mono λe w' h=>?_
   obtain⟨ao,kk,ae,rfl,h3,rfl⟩:=h;go_wp2_with fail;go_ret;exact⟨_,_,_,rfl,h3,hBl⟩
theorem Si (a0 b0:Z') (la ca lb cb:Nat) (xs ys:List Nat) (w:ah5) (ha:Sl w a0 la ca xs) (hb:Sl w b0 lb cb ys) (hge:(aq (au ys)).length<(aq (au xs)).length) (ra:la<=1000000000000) (rb:lb<=1000000000000):
  Calls Tryz.prog 214 #[ah7 b0 lb cb,ah7 a0 la ca] w (fW w (aq (au xs*au ys))):=by
 obtain⟨i0,hi,hz0,hz1,hz2⟩:=info_parts Tryz.fx;go_enter Tryz.func214,Tryz.ntmps214;go_wp2_with fail;refine(mW _ _ _ _ _ hb).mono ?_;rintro e w' ⟨b1,m1,d1,rfl,hB,hm1,rfl⟩;go_wp2_with fail;refine(mW _ _ _ _ _ ha).mono ?_;rintro e w' ⟨a1,n1,c1,rfl,hA,hn1,rfl⟩;rw[hA.len,hB.len]at hge;go_wp2_with (at_make;refine wpList_make_full _ rfl _ _ 27 rfl w.heap.size 192 i0 (.int .u32 0) 1 Tryz.underlying27 hi hz0 hz1 _ _ _ _ (n1+m1) rfl rfl (by omega) (by omega) ?b2 ?b3 (ak6 _) ?_)
 case b2=>rw[hz2];omega
 case b3=>unfold maxLen;omega
 intro w1 hown1 hgrow1;rw[gX]at hown1;have hb1:ah6 w.heap.size w w1:=(Below.refl _ _).grown hgrow1 (ak6 _) (λk h=>by cases h)
 have mK:bX w.heap.size w1 (some ⟨w.heap.size,0,none⟩) (n1+m1) (n1+m1) (ai7 (n1+m1) 0):=
  ⟨hown1,by omega,λx hx=>by rw[(ai8.1 hx).2];omega⟩
 have hI:vG w.heap.size w.heap.size (n1+m1) n1 w (au xs*au ((aq (au ys)).take 0)) 0 w1:=
  ⟨_,mK,hb1,by rw[fG];simp[au],λt _=>dp _ _⟩
 have Zm:Hid ((aq (au ys)).take m1=aq (au ys)):=cE _ _ hB.len;have HXS:Hid (au (aq (au xs))=au xs):=av _;clear hown1 hgrow1 hb1 mK;go_wp2_with fail;go_loopw [6,7,27] (λ_ _ j wr=>∃k:Nat,k<=m1/\ j= .int .i64 k/\ vG w.heap.size w.heap.size (n1+m1) n1 w (au xs*au ((aq (au ys)).take k)) k wr) (λ_ _ j _=>m1-(intOf j).toNat)
 case atStart=>exact⟨0,ak3 _,rfl,hI⟩
 case round=>
  clear hI;obtain⟨k,hk,rfl,zs,hO,hBl,hV,hZ⟩:=hrel;by_cases hkm:k<m1
  ·obtain⟨b,off,rfl,hbb,hcb⟩:=hB.at (by omega);have GX:wr.cell? ⟨b,off+k,none⟩=some (.int .u32 ((aq (au ys)).getD k 0:Nat)):=(hBl.cell (by exact hbb)).trans (hcb k (by omega));have hyl:=hB.bJ k;have Zn:=hid (bC (aq (au ys)) k (by rw[hB.len];omega));obtain⟨y,hy⟩:∃y,y=(aq (au ys)).getD k 0:=⟨_,rfl⟩;rw[<-hy]at GX hyl Zn;have HV:=hid hV;have HZ:=hid hZ;have OV:=hid (xH w wr w.heap.size (n1+m1) k zs a1 n1 c1 _ y hA hBl hO (ak6 _) (by omega) hyl);clear hy hV hZ hcb;go_wp2_with fail;refine OV.o.mono ?_;rintro e w2 ⟨cc,rfl,hcc,us,hO2,hB2,hV2,hZ2⟩;have vy:=hO2.frozen (k+n1);have hzc:=hO2.cell (k+n1) (by omega);have LN:=hid hV2;have HZ2:=hid hZ2;clear hV2 hZ2 OV;have HZ0:Hid (us.getD (k+n1) 0=0):=by show _=_;rw[HZ2.o _ (ak6 _)];exact HZ.o _ (ak6 _)
   rw[HZ0.o]at hzc;go_wp2_with fail;go_roundw
   case rel=>
    refine⟨k+1,by omega,by go_num,_,hO2.set (k+n1) cc hcc,hB2.setCell (ak6 _) _,?_,λt ht=>?_⟩
    ·rw[Aa LN.o hO2.len (by omega) HZ0.o,HV.o,HXS.o,Zn.o,aj1]
     congr 1
     rw[aj7]
    ·rw[eH,if_neg (by omega),HZ2.o t (by omega)];exact HZ.o t (by omega)
   case measure=>simp[intOf];omega
  ·obtain rfl:k=m1:=by omega
   rw[Zm.o,av]at hV;have hbare:=xG _ _ _ _ _ _ hO;rw[hV]at hbare;have QV:=hid hbare;clear hbare hV hZ;go_wp2_with fail;refine QV.o.mono λe w' h=>?_
   obtain⟨ao,kk,ae,rfl,h3,rfl⟩:=h;go_wp2_with fail;go_ret;exact⟨_,_,_,rfl,h3,hBl⟩
theorem OW (a0 b0:Z') (la ca lb cb:Nat) (xs ys:List Nat) (w:ah5) (ha:Sl w a0 la ca xs) (hb:Sl w b0 lb cb ys) (ra:la<=1000000000000) (rb:lb<=1000000000000):
  Calls Tryz.prog 214 #[ah7 a0 la ca,ah7 b0 lb cb] w (fW w (aq (au xs*au ys))):=by
 by_cases h:(aq (au ys)).length<=(aq (au xs)).length
 ·exact Sh a0 b0 la ca lb cb xs ys w ha hb h ra rb
 ·rw[aj8];exact Si b0 a0 lb cb la ca ys xs w hb ha (by omega) rb ra
end
section
open Lib (hid)
open Go.RowKit
theorem IY {w:ah5} {b off n ae:Nat} {xs:List Nat} (h:Sl w (some ⟨b,off,none⟩) n ae xs) (k:Nat) (hk:k<=n):Sl w (some ⟨b,off+k,none⟩) (n-k) (ae-k) (xs.drop k):=by
 have hl:=h.le;have hb:=h.big;refine Sl.eK (by rw[List.length_drop,h.len]) (by omega) (by omega) (λx hx=>h.wf x (ai6 hx)) λt ht=>?_
 have:=h.cells _ rfl (k+t) (by omega);rw[Addr.add_lit]at this;rw[ak5,this]
 congr 3
 simp[ai1,ai2]
def Sj (w:ah5) (lo hi:List Nat) (n:Nat) (e:Ending) (w':ah5):Prop:=
 ∃a0 la ca b0 lb cb q,e= .returned (.tuple #[ah7 a0 la ca,ah7 b0 lb cb])/\ Sl w' a0 la ca lo/\ Sl w' b0 lb cb hi/\ la<=n/\ lb<=n/\ w'=w.drewN q
theorem Ac (ao:Z') (n ae:Nat) (xs:List Nat) (k:Nat) (w:ah5) (hs:Sl w ao n ae xs):
  Calls Tryz.prog 237 #[ah7 ao n ae,.int .i64 (k:Int)] w (Sj w (xs.take k) (xs.drop k) n):=by
 have hle:=hs.le;have hbig:=hs.big;by_cases hk:n<=k
 ·have H1:Hid (xs.take k=xs):=ah9 (by rw[hs.len];exact hk);have H2:Hid (xs.drop k=[]):=ai0 (by rw[hs.len];exact hk);go_enter Tryz.func237,Tryz.ntmps237;go_wp2;go_ret2;exact⟨_,_,_,_,_,_,0,rfl,by rw[H1.o];exact hs,by rw[H2.o];exact Sl.none _,ak6 _,ak3 _,rfl⟩
 ·obtain⟨b,off,rfl,hb,_⟩:=hs.at (by omega);have S1:=hid (hs.take k (by omega));have S2:=hid (IY hs k (by omega));have hd:decide ((n:Int)<=(k:Int))=false:=by simp;omega
  have hck:(ae==k)=false:=by simp;omega
  have ac6:¬(ae=k):=by omega
  go_enter Tryz.func237,Tryz.ntmps237;go_wp2;go_quiet (fail);go_wp2;go_ret2;exact⟨_,_,_,_,_,_,_,rfl,S1.o.drewN _,S2.o.drewN _,by omega,by omega,rfl⟩
theorem Ej (a0 b0:Z') (la ca lb cb:Nat) (xs ys:List Nat) (w:ah5) (ha:Sl w a0 la ca xs) (hb:Sl w b0 lb cb ys) (hge:au ys<=au xs):
  Calls Tryz.prog 238 #[ah7 a0 la ca,ah7 b0 lb cb] w (fW w (aq (au xs-au ys))):=by
 go_enter Tryz.func238,Tryz.ntmps238;go_wp2_with fail;refine(kg _ _ _ _ _ _ _ _ _ ha hb hge).mono ?_;rintro e w1 ⟨c0,n,c,rfl,hO,hB⟩;go_wp2_with fail;go_ret;exact⟨_,_,_,rfl,hO,hB⟩
def vH (w0:ah5) (g N p S c:Nat) (w':ah5):Prop:=
 ∃ys,bX w0.heap.size w' (some ⟨g,0,none⟩) N N ys/\ ah6 w0.heap.size w0 w'/\ au ys+4294967296^p*c=S
def Sk (w0:ah5) (g N S:Nat) (e:Ending) (w':ah5):Prop:=
 ∃ys,e= .returned (.tuple #[])/\ bX w0.heap.size w' (some ⟨g,0,none⟩) N N ys/\ ah6 w0.heap.size w0 w'/\ au ys=S
theorem Ek (w0 w:ah5) (g N i:Nat) (zs:List Nat) (a0:Z') (la ca:Nat) (xs:List Nat) (ha:Sl w0 a0 la ca xs) (hB:ah6 w0.heap.size w0 w)
  (hO:bX w0.heap.size w (some ⟨g,0,none⟩) N N zs) (hg:w0.heap.size<=g) (hfit:i+la<=N) (hS:au zs+4294967296^i*au xs<4294967296^N):
  Calls Tryz.prog 239 #[ah7 (some ⟨g,i,none⟩) (N-i) (N-i),ah7 a0 la ca] w (Sk w0 g N (au zs+4294967296^i*au xs)):=by
 have b1:=ha.big;have l1:=ha.le;have hNb:=hO.big;have HX:Hid (xs.take la=xs):=cE xs la ha.len;have HS:=hid hS;have hI:vH w0 g N (i+0) (au zs+4294967296^i*au (xs.take 0)) 0 w:=⟨zs,hO,hB,by simp[au]⟩;go_enter Tryz.func239,Tryz.ntmps239;clear hO hB hS;go_wp2_with fail;go_loopw [4,5,6,10] (λc _ _ j wr=>∃k cc:Nat,k<=la/\ j= .int .i64 k/\ c= .int .u32 cc/\ cc<=1/\ vH w0 g N (i+k) (au zs+4294967296^i*au (xs.take k)) cc wr) (λ_ _ _ j _=>la-(intOf j).toNat)
 case atStart=>exact⟨0,0,ak3 _,rfl,rfl,by omega,hI⟩
 case round=>
  clear hI;obtain⟨k,cc,hk,rfl,rfl,hcc,hinv⟩:=hrel;by_cases hkl:k<la
  ·obtain⟨ys,hO,hB,hV⟩:=hinv;obtain⟨b,off,rfl,hbb,hcb⟩:=ha.at (by omega);have hxc:wr.cell? ⟨b,off+k,none⟩=some (.int .u32 (xs.getD k 0:Nat)):=(hB.cell (by exact hbb)).trans (hcb k (by omega));have hzc:=hO.cell (i+k) (by omega);have vy:=hO.frozen (i+k);have hxl:=ha.bJ k;have hzl:=hO.bJ (i+k);have hstep:=jM (y:=xs.getD k 0) (by rw[hO.len];omega) hV;rw[show(4294967296:Nat)^(i+k)*xs.getD k 0=4294967296^i*(4294967296^k*xs.getD k 0)from by rw[aj2,aj0],<-aj1,<-bC xs k (by rw[ha.len];omega)]at hstep;obtain⟨x,hx⟩:∃x,x=xs.getD k 0:=⟨_,rfl⟩;obtain⟨z,hz⟩:∃z,z=ys.getD (i+k) 0:=⟨_,rfl⟩;rw[<-hx]at hxc hxl hstep;rw[<-hz]at hzc hzl hstep;have HST:=hid hstep;clear hx hz hV hstep hcb;go_wp2_with (go_at_call 180;refine(jz z x cc _ hzl hxl hcc).mono ?_;rintro e w' ⟨rfl,rfl⟩);go_roundw
   case rel=>exact⟨k+1,(z+x+cc)/4294967296,by omega,by go_num,by go_num,by omega,_,hO.set (i+k) _ (ak4 _ (by omega)),hB.setCell hg _,HST.o⟩
   case measure=>simp[intOf];omega
  ·obtain rfl:k=la:=by omega
   have yK:vH w0 g N (i+k) (au zs+4294967296^i*au xs) cc wr:=by
    rwa[HX.o]at hinv
   clear hinv;go_wp2;go_loopw [4,7] (λc j wr=>∃k cc:Nat,i+k<=N/\ j= .int .i64 k/\ c= .int .u32 cc/\ cc<=1/\ vH w0 g N (i+k) (au zs+4294967296^i*au xs) cc wr) (λ_ j _=>N+1-(intOf j).toNat)
   case atStart=>exact⟨k,cc,hfit,rfl,rfl,hcc,yK⟩
   case round=>
    clear yK;obtain⟨k,cc,hk,rfl,rfl,hcc,ys,hO,hB,hV⟩:=hrel;by_cases hc0:cc=0
    ·have hb0:(((cc:Nat):Int) !=0)=false:=by simp;omega
     have HV:Hid (au ys=au zs+4294967296^i*au xs):=by
      rw[hc0]at hV;show _=_;omega
     clear hV hc0;go_wp2;go_end0;exact⟨ys,rfl,hO,hB,HV.o⟩
    ·have hb0:(((cc:Nat):Int) !=0)=true:=by simp;omega
     have hkn:i+k<N:=by
      rcases aj4 (i+k) N with h|h
      ·exact h
      ·have h1:4294967296^N<=4294967296^(i+k):=aj5 (by omega) h;have h2:4294967296^(i+k)*1<=4294967296^(i+k)*cc:=Nat.mul_le_mul_left _ (by omega);have:=HS.o;omega
     have hzc:=hO.cell (i+k) (by omega);have vy:=hO.frozen (i+k);have hstep:=jM (y:=0) (by rw[hO.len];omega) hV;rw[ak1,ak2 (4294967296^i*au xs)]at hstep;have hzl:=hO.bJ (i+k);obtain⟨z,hz⟩:∃z,z=ys.getD (i+k) 0:=⟨_,rfl⟩;rw[<-hz]at hzc hzl hstep;have HST:=hid hstep;clear hz hV hstep hc0;go_wp2_with (go_at_call 180;refine(jz z 0 cc _ hzl (by omega) hcc).mono ?_;rintro e w' ⟨rfl,rfl⟩);go_roundw
     case rel=>exact⟨k+1,(z+0+cc)/4294967296,by omega,by go_num,by go_num,by omega,_,hO.set (i+k) _ (ak4 _ (by omega)),hB.setCell hg _,HST.o⟩
     case measure=>simp[intOf];omega
end
section
open Lib (hid)
open Go.RowKit
def xI (k V:Nat):Prop:=
 ∀(a0 b0:Option Addr) (la ca lb cb:Nat) (xs ys:List Nat) (w:ah5),Sl w a0 la ca xs->Sl w b0 lb cb ys->au xs+au ys<V->la<=1000000000000->lb<=1000000000000->
  Calls Tryz.prog 184 #[.int .i64 (k:Int),ah7 a0 la ca,ah7 b0 lb cb] w (fW w (aq (au xs*au ys)))
theorem pI {n k:Nat} (h:n<4294967296^k):(aq n).length<=k:=pE h
theorem tR (zs ys:List Nat) (k:Nat):splice (cellsOf zs) k (cellsOf ys)=cellsOf (zs.take k++(ys++zs.drop (k+ys.length))):=by
 unfold splice;rw[eW,eW,ki,sB,bq]
theorem DK {B:Nat} {w:ah5} {g n:Nat} {ys:List Nat} (h:bX B w (some ⟨g,0,none⟩) n n ys):Hid (w.heap[g]? =some (.cells (cellsOf ys).toArray 192 (0,0))):=sD h.row
theorem Sl.Ce {w:ah5} {ao:Z'} {n ae:Nat} {xs:List Nat} (h:Sl w ao n ae xs) (h0:0<(cellsOf xs).length):∃ad,ao=some ad/\∀j v,(cellsOf xs)[j]? =some v->w.cell? (ad.add j)=some v:=by
 rw[bq,h.len]at h0;have:=h.src n (ak6 _) h0;rwa[cE xs n h.len]at this
theorem Sn (k A C:Nat) (a0 b0:Z') (la ca lb cb:Nat) (w:ah5) (ha:Sl w a0 la ca (aq A)) (hb:Sl w b0 lb cb (aq C)) (ha2:2<=la) (hb2:2<=lb) (ra:la<=1000000000000) (rb:lb<=1000000000000) (WU:xI k (A+C)):
  Calls Tryz.prog 215 #[ah7 a0 la ca,ah7 b0 lb cb,.func (.func 184) #[.int .i64 (k:Int)] #[]] w (fW w (aq (A*C))):=by
 obtain⟨i0,hi,hz0,hz1,hz2⟩:=info_parts Tryz.fx;obtain⟨h,hh,h1,h2,h3,h4⟩:∃h:Nat,(max (la:Int) (lb:Int)+1)/2=(h:Int)/\ 1<=h/\ (h<la∨h<lb)/\ 2*h<la+lb/\ h<=la+lb:=⟨(max la lb+1)/2,by omega,by omega,by omega,by omega,by omega⟩;have HF:Hid (Ei A C la lb h _ _ _ _):=Lj (h:=h) ha.len hb.len h1 h2 (by omega);obtain⟨xs,hxs⟩:∃xs,xs=aq A:=⟨_,rfl⟩;obtain⟨ys,hys⟩:∃ys,ys=aq C:=⟨_,rfl⟩;rw[<-hxs]at ha;rw[<-hys]at hb;rw[<-hxs,<-hys]at HF;clear hxs hys;have Vf:=hid (qC.cons ha (qC.cons hb (qC.nil _)));have HB0:=hid (Below.refl w.heap.size w);clear ha hb;go_enter Tryz.func215,Tryz.ntmps215;go_wp2_with fail;refine(Ac _ _ _ _ h _ Vf.o.head).mono ?_;rintro e w1 ⟨p0,pn,pc,px,pm,pd,q,rfl,hX,hY,hp1,hp2,hq⟩;have hB:ah6 w.heap.size w w1:=by rw[hq];exact below_drewN _ _ _
 have Ok:=hid (qC.cons hX (qC.cons hY (Vf.o.below hB)));have HB1:=hid (Below.ar HB0.o hB);clear hX hY hq hB Vf HB0;go_wp2_with fail;refine(Ac _ _ _ _ h _ Ok.o.tl.tl.tl.head).mono ?_;rintro e w2 ⟨r0,rn,rc,rx,rm,rd,q,rfl,hX,hY,hr1,hr2,hq⟩;have hB:ah6 w1.heap.size w1 w2:=by rw[hq];exact below_drewN _ _ _
 have HL2:=hid (qC.cons hX (qC.cons hY (Ok.o.below hB)));have HB2:=hid (Below.ar HB1.o hB);clear hX hY hq hB Ok HB1;go_wp2_with fail;refine((WU _ _ _ _ _ _ _ _ _ HL2.o.tl.tl.head HL2.o.head HF.o.l0 (by omega) (by omega))).mono ?_;rintro e w3 ⟨lo0,lon,loc,rfl,hX,hB⟩;have hlo:lon<=2*h:=by rw[<-hX.len];exact pI HF.o.xU
 have TD:=hid (qC.cons hX.sl (HL2.o.below hB));have HB3:=hid (Below.ar HB2.o hB);clear hX hB HL2 HB2;go_wp2_with fail;refine((WU _ _ _ _ _ _ _ _ _ TD.o.tl.tl.tl.tl.head TD.o.tl.tl.head HF.o.l1 (by omega) (by omega))).mono ?_;rintro e w4 ⟨hg0,hgn,hgc,rfl,hX,hB⟩;have hhg:hgn<=la+lb-2*h:=by rw[<-hX.len];exact pI HF.o.high
 have HL4:=hid (qC.cons hX.sl (TD.o.below hB));have lx:=hid (Below.ar HB3.o hB);clear hX hB TD HB3;go_wp2_with fail;refine(pX _ _ _ _ _ _ _ _ _ HL4.o.tl.tl.tl.tl.head HL4.o.tl.tl.tl.tl.tl.head (by omega) (by omega)).mono ?_;rintro e w5 ⟨sa0,san,sac,rfl,hX,hB⟩;have af2:san<=la:=by rw[<-hX.len];exact pI (ak7 HF.o.sa HF.o.la)
 have WI:=hid (qC.cons hX.sl (HL4.o.below hB));have oq:=hid (Below.ar lx.o hB);clear hX hB HL4 lx;go_wp2_with fail;refine(pX _ _ _ _ _ _ _ _ _ WI.o.tl.tl.tl.head WI.o.tl.tl.tl.tl.head (by omega) (by omega)).mono ?_;rintro e w6 ⟨sc0,scn,scc,rfl,hX,hB⟩;have af3:scn<=lb:=by rw[<-hX.len];exact pI (ak7 HF.o.sc HF.o.lc)
 have HL6:=hid (qC.cons hX.sl (WI.o.below hB));have uU:=hid (Below.ar oq.o hB);clear hX hB WI oq;go_wp2_with fail;refine((WU _ _ _ _ _ _ _ _ _ HL6.o.tl.head HL6.o.head (by rw[av,av];exact HF.o.lm) (by omega) (by omega))).mono ?_;rintro e w7 ⟨mx0,mxn,mxc,rfl,hX,hB⟩;rw[av,av]at hX;have HL7:=hid (qC.cons hX.sl (HL6.o.below hB));have EM:=hid (Below.ar uU.o hB);clear hX hB HL6 uU;go_wp2_with fail;refine(Ej _ _ _ _ _ _ _ _ _ HL7.o.head HL7.o.tl.tl.tl.tl.head (by rw[av,av];exact HF.o.s1)).mono ?_;rintro e w8 ⟨d10,d1n,d1c,rfl,hX,hB⟩;rw[av,av]at hX;have HL8:=hid (qC.cons hX.sl (HL7.o.below hB));have ik:=hid (Below.ar EM.o hB);clear hX hB HL7 EM;go_wp2_with fail;refine(Ej _ _ _ _ _ _ _ _ _ HL8.o.head HL8.o.tl.tl.tl.tl.head (by rw[av,av];exact HF.o.s2)).mono ?_;rintro e w9 ⟨d20,d2n,d2c,rfl,hX,hB⟩;rw[av,av]at hX;have hmd:d2n<=la+lb-h:=by rw[<-hX.len];exact pI HF.o.mid
 have HL9:=hid (qC.cons hX.sl (HL8.o.below hB));have lY:=hid (Below.ar ik.o hB);clear hX hB HL8 ik;go_wp2_with (at_make;refine wpList_make_full _ rfl _ _ 27 rfl w9.heap.size 192 i0 (.int .u32 0) 1 Tryz.underlying27 hi hz0 hz1 _ _ _ _ (la+lb) rfl rfl (by omega) (by omega) ?b2 ?b3 (ak6 _) ?_)
 case b2=>rw[hz2];omega
 case b3=>unfold maxLen;omega
 intro v1 hown1 hgrow1;rw[gX]at hown1;have hb1:ah6 w9.heap.size w9 v1:=(Below.refl _ _).grown hgrow1 (ak6 _) (λk h=>by cases h)
 have mK:bX w9.heap.size v1 (some ⟨w9.heap.size,0,none⟩) (la+lb) (la+lb) (ai7 (la+lb) 0):=
  ⟨hown1,by omega,λx hx=>by rw[(ai8.1 hx).2];omega⟩
 have hZ1:∀t,0<=t->(ai7 (la+lb) 0).getD t 0=0:=λt _=>dp _ _
 have SLO:=hid HL9.o.tl.tl.tl.tl.tl.tl.head;have SHI:=hid HL9.o.tl.tl.tl.tl.tl.head;have SMD:=hid HL9.o.head;have LM:=DK mK;have Lk:=SLO.o.len;have Sp:=SHI.o.len;have e1:=BG (ys:=aq (au (xs.take h)*au (ys.take h))) hZ1 (by rw[Lk];simp;omega);have z1:∀t,0+(aq (au (xs.take h)*au (ys.take h))).length<=t->_:=λt=>OT (t:=t) hZ1 (by rw[Lk];simp;omega)
 have f1:Wf _:=GG (k:=0) mK.wf (dv (au (xs.take h)*au (ys.take h)));have g1:=BH (zs:=ai7 (la+lb) 0) (ys:=aq (au (xs.take h)*au (ys.take h))) (k:=0) (by rw[Lk];simp;omega);have DJ:=hid (tR (ai7 (la+lb) 0) (aq (au (xs.take h)*au (ys.take h))) 0);obtain⟨TE,Zo⟩:∃TE,TE=(ai7 (la+lb) 0).take 0++(aq (au (xs.take h)*au (ys.take h))++(ai7 (la+lb) 0).drop (0+(aq (au (xs.take h)*au (ys.take h))).length)):=⟨_,rfl⟩;rw[<-Zo]at e1 z1 f1 g1 DJ;rw[fG,av,ak8,Nat.pow_zero,Nat.one_mul]at e1;rw[ai9]at g1;rw[ak8,Lk]at z1;have hZ2:∀t,2*h<=t->TE.getD t 0=0:=λt ht=>z1 t (by omega)
 have e2:=BG (ys:=aq (au (xs.drop h)*au (ys.drop h))) hZ2 (by rw[Sp,g1];omega);have f2:Wf _:=GG (k:=2*h) f1 (dv (au (xs.drop h)*au (ys.drop h)));have g2:=BH (zs:=TE) (ys:=aq (au (xs.drop h)*au (ys.drop h))) (k:=2*h) (by rw[Sp,g1];omega);have OX:=hid (tR TE (aq (au (xs.drop h)*au (ys.drop h))) (2*h));obtain⟨Tz,Zp⟩:∃Tz,Tz=TE.take (2*h)++(aq (au (xs.drop h)*au (ys.drop h))++TE.drop (2*h+(aq (au (xs.drop h)*au (ys.drop h))).length)):=⟨_,rfl⟩;rw[<-Zp]at e2 f2 g2 OX;rw[e1,av]at e2;rw[g1]at g2;obtain⟨cz,hcz⟩:∃cz,cz=cellsOf (ai7 (la+lb) 0):=⟨_,rfl⟩;have Zq:Hid (cz.length=la+lb):=by show _=_;rw[hcz,bq,ai9]
 rw[<-hcz]at LM DJ;obtain⟨cl,hcl⟩:∃cl,cl=cellsOf (aq (au (xs.take h)*au (ys.take h))):=⟨_,rfl⟩;have VH:Hid (cl.length=lon):=by show _=_;rw[hcl,bq,Lk]
 have Zr:Hid (0<cl.length->∃ad,lo0=some ad/\∀j v,cl[j]? =some v->v1.cell? (ad.add j)=some v):=by rw[hcl];exact λh0=>(SLO.o.below hb1).Ce h0
 have Zs:Hid (∀v∈cl,v.oneCell'=true):=by rw[hcl];exact fY _
 rw[<-hcl]at DJ;obtain⟨c1,hc1⟩:∃c1,c1=cellsOf TE:=⟨_,rfl⟩;have Zt:Hid (c1.length=la+lb):=by show _=_;rw[hc1,bq,g1]
 rw[<-hc1]at DJ OX;obtain⟨ch,hch⟩:∃ch,ch=cellsOf (aq (au (xs.drop h)*au (ys.drop h))):=⟨_,rfl⟩;have VI:Hid (ch.length=hgn):=by show _=_;rw[hch,bq,Sp]
 have Zu:Hid (∀v2,ah6 w9.heap.size w9 v2->0<ch.length->∃ad,hg0=some ad/\∀j v,ch[j]? =some v->v2.cell? (ad.add j)=some v):=by rw[hch];exact λv2 hb h0=>(SHI.o.below hb).Ce h0
 have Zv:Hid (∀v∈ch,v.oneCell'=true):=by rw[hch];exact fY _
 rw[<-hch]at OX;have LN:=hid e2;have HF2:=hid f2;have HL2:=hid g2;have xZ:=lY;clear Zo Zp e1 e2 f1 f2 g1 g2 z1 hZ1 hZ2 Lk Sp hcz hcl hc1 hch hown1 hgrow1 mK
 go_wp2_with (first
  |((with_reducible refine wpList_copy_splice rfl (.tmp 62) (.tmp 63) 27 27 rfl 192 rfl Tryz.mP _ _ _ _ _ _ rfl rfl w9.heap.size 0 cz 192 LM.o cl (by rw[VH.o];exact(aj9 (by omega)).symm) (λh=>⟨rfl,Zr.o h⟩) (by rw[VH.o,Zq.o];omega) Zs.o w9.heap.size w9 hb1 (ak6 _) ?_);intro v2 HG2 hb2;rw[DJ.o]at HG2;clear LM VH Zr Zs Zq DJ hb1)
  |((with_reducible refine wpList_copy_splice rfl (.tmp 68) (.tmp 69) 27 27 rfl 192 rfl Tryz.mP _ _ _ _ _ _ rfl rfl w9.heap.size (2*h) c1 192 HG2.o ch (by rw[VI.o];exact(aj9 (by omega)).symm) (λh=>⟨rfl,Zu.o _ hb2 h⟩) (by rw[VI.o,Zt.o];omega) Zv.o w9.heap.size w9 hb2 (ak6 _) ?_);intro v3 HG3 hb3;rw[OX.o]at HG3;clear HG2 VI Zu Zv Zt OX hb2))
 have LJ:Hid (bX w9.heap.size v3 (some ⟨w9.heap.size,0,none⟩) (la+lb) (la+lb) Tz):=bX.wW (ak6 _) HL2.o (by omega) HF2.o HG3.o;have OY:=hid (Ek w9 v3 w9.heap.size (la+lb) h Tz _ _ _ _ SMD.o hb3 LJ.o (ak6 _) (by omega) (by rw[LN.o,av,HF.o.all];exact xE HF.o.la HF.o.lc));rw[LN.o,av,HF.o.all]at OY;clear HG3 LJ LN HF2 HL2;go_wp2_with fail;refine OY.o.mono ?_;rintro e v4 ⟨zs4,rfl,hO4,hb4,hv4⟩;have hbare:=xG _ _ _ _ _ _ hO4;rw[hv4]at hbare;have QV:=hid hbare;clear hbare hv4 OY hO4;go_wp2_with fail;refine QV.o.mono λe w' h=>?_
 obtain⟨ao,kk,ae,rfl,h3,rfl⟩:=h;go_wp2_with fail;go_ret;exact⟨_,_,_,rfl,h3.mono xZ.o.size,Below.ar xZ.o hb4⟩
end
section
open Go.RowKit
theorem Ll (k V:Nat) (hk:2<=k) (hk2:k<=1000000) (WU:xI k V):xI k (V+1):=by
 intro a0 b0 la ca lb cb xs ys w ha hb hV ra rb;have HIH:Hid (xI k (au xs+au ys)):=λa0 b0 la ca lb cb xs' ys' w ha hb h ra rb=>WU a0 b0 la ca lb cb xs' ys' w ha hb (by omega) ra rb
 clear WU;have HV:=Lib.hid hV;clear hV;go_enter Tryz.func184,Tryz.ntmps184;go_wp2_with fail;refine(mW _ _ _ _ _ ha).mono ?_;rintro e w' ⟨a1,n1,c1,rfl,hA,hn1,rfl⟩;go_wp2_with fail;refine(mW _ _ _ _ _ hb).mono ?_;rintro e w' ⟨b1,m1,d1,rfl,hB,hm1,rfl⟩;by_cases hlt:min n1 m1<k
 ·have d1:decide (min (n1:Int) (m1:Int)<(k:Int))=true:=by simp;omega
  go_wp2_with fail;have h:=OW _ _ _ _ _ _ _ _ _ hA hB (by omega) (by omega);rw[av,av]at h;refine h.mono ?_;rintro e w1 ⟨c0,cn,cc,rfl,hC,hb1⟩;go_wp2_with fail;go_ret;exact⟨_,_,_,rfl,hC,hb1⟩
 ·have d1:decide (min (n1:Int) (m1:Int)<(k:Int))=false:=by simp;omega
  go_wp2_with fail;refine(Sn k _ _ _ _ _ _ _ _ _ hA hB (by omega) (by omega) (by omega) (by omega) HIH.o).mono ?_;rintro e w1 ⟨c0,cn,cc,rfl,hC,hb1⟩;go_wp2_with fail;go_ret;exact⟨_,_,_,rfl,hC,hb1⟩
theorem Sq (k:Nat) (hk:2<=k) (hk2:k<=1000000) (V:Nat):xI k V:=by
 induction V with
 |zero=>intro a0 b0 la ca lb cb xs ys w ha hb hV;omega
 |succ V ih=>exact Ll k V hk hk2 ih
theorem OZ (k:Nat) (hk:2<=k) (hk2:k<=1000000) (a0 b0:Z') (la ca lb cb:Nat) (xs ys:List Nat) (w:ah5) (ha:Sl w a0 la ca xs) (hb:Sl w b0 lb cb ys) (ra:la<=1000000000000) (rb:lb<=1000000000000):
  Calls Tryz.prog 184 #[.int .i64 (k:Int),ah7 a0 la ca,ah7 b0 lb cb] w (fW w (aq (au xs*au ys))):=
 Sq k hk hk2 (au xs+au ys+1) a0 b0 la ca lb cb xs ys w ha hb (by omega) ra rb
theorem ql (a0 b0:Z') (la ca lb cb:Nat) (xs ys:List Nat) (w:ah5) (ha:Sl w a0 la ca xs) (hb:Sl w b0 lb cb ys) (ra:la<=1000000000000) (rb:lb<=1000000000000):
  Calls Tryz.prog 133 #[ah7 a0 la ca,ah7 b0 lb cb] w (fW w (aq (au xs*au ys))):=by
 go_enter Tryz.func133,Tryz.ntmps133;go_wp2_with fail;refine(OZ 24 (by omega) (by omega) _ _ _ _ _ _ _ _ _ ha hb ra rb).mono ?_;rintro e w1 ⟨c0,cn,cc,rfl,hC,hb1⟩;go_wp2_with fail;go_ret;exact⟨_,_,_,rfl,hC,hb1⟩
end
end Go.Proofs.YtmenbpmciblnlaaGreatDoor

/- TPlain, Bare, AddRow, TRows, TParts, TCut, TMul -/
import Derived.Test.YtmenbpmciblnlaaGreatDoorGNatB
import Derived.Test.YtmenbpmciblnlaaGreatDoorGLaw
set_option maxHeartbeats 0
set_option maxRecDepth 100000
open Go.Value renaming slice->a0a
open List renaming drop_of_length_le->a0d,getD->a0e,getElem?_append_right->a0g,getElem?_drop->a0f,length_replicate->a0m,length_take->a0b,mem_append->a0h,mem_of_mem_drop->a0j,mem_of_mem_take->a0i,mem_replicate->a0l,replicate->a0k,take_of_length_le->a0c
open Nat renaming add_assoc->a0C,add_mul->a0q,add_zero->a0z,le_refl->a0D,lt_of_le_of_lt->a0E,lt_or_ge->a0r,min_eq_left->a0w,mod_lt->a0B,mul_add->a0o,mul_assoc->a0n,mul_comm->a0v,mul_le_mul_right->a0x,mul_left_comm->a0u,mul_lt_mul''->a0t,mul_zero->a0y,pow_add->a0p,pow_le_pow_right->a0s,zero_add->a0F,zero_le->a0A
/- Plain lemmas for layer 2: rows, parts, sums of parts. -/
namespace Go.Proofs.YtmenbpmciblnlaaGreatDoor
section
theorem IX {zs:List Nat} {p c S m:Nat} (hp:p<zs.length) (h:val zs+4294967296^p*c=S):
  val (zs.set p ((m+zs.getD p 0+c)%4294967296))+4294967296^(p+1)*((m+zs.getD p 0+c)/4294967296)=S+4294967296^p*m:=by
 have h1:=jW zs p ((m+zs.getD p 0+c)%4294967296) hp;generalize zs.getD p 0=u at*
 have h2:4294967296^p*((m+u+c)%4294967296)+4294967296^(p+1)*((m+u+c)/4294967296)=4294967296^p*m+4294967296^p*u+4294967296^p*c:=by
  rw[Nat.pow_succ,a0n,<-a0o,<-a0o,<-a0o]
  congr 1
  omega
 omega
theorem BD {x n z c:Nat} (hx:x<4294967296) (hn:n<4294967296) (hz:z<4294967296) (hc:c<4294967296):x*n<=18446744065119617025/\ x*n+z+c<18446744073709551616:=by
 have h:x*n<=4294967295*4294967295:=Nat.mul_le_mul (by omega) (by omega);omega
theorem IY {S i k P x n:Nat} (T:Nat) (h:T=S+4294967296^i*(P*n)):T+4294967296^(i+k)*(x*n)=S+4294967296^i*((P+4294967296^k*x)*n):=by
 rw[h,a0p,a0q,a0o]
 have:4294967296^i*4294967296^k*(x*n)=4294967296^i*(4294967296^k*x*n):=by
  simp only[a0n]
 omega
theorem sD {n k:Nat} (h:n<4294967296^k):(limbs n).length<=k:=by
 rcases a0r k (limbs n).length with hl|hl
 ·obtain⟨j,hj⟩:∃j,nl (limbs n)=j+1:=⟨(limbs n).length-1,by rw[fQ];omega⟩;have h1:=fC j hj;rw[au]at h1;have h2:4294967296^k<=4294967296^j:=a0s (by omega) (by rw[fQ]at hj;omega);omega
 ·exact hl
theorem BM {a b m n:Nat} (ha:a<4294967296^m) (hb:b<4294967296^n):a*b<4294967296^(m+n):=by
 rw[a0p];exact a0t ha hb
theorem ak4 (a0 a1 b0 b1 B:Nat):a0*b0+(a1*b1)*(B*B)+((a0+a1)*(b0+b1)-a0*b0-a1*b1)*B=(a0+B*a1)*(b0+B*b1):=by
 have h:(a0+a1)*(b0+b1)-a0*b0-a1*b1=a0*b1+a1*b0:=by
  rw[a0q,a0o,a0o];omega
 rw[h];simp only[a0q,a0o]
 have e1:a1*b1*(B*B)=B*a1*(B*b1):=by
  simp only[a0u,a0v]
 have e2:a0*b1*B=a0*(B*b1):=by
  simp only[a0u,a0v]
 have e3:a1*b0*B=B*a1*b0:=by
  simp only[a0u,a0v]
 omega
theorem Ec (xs:List Nat) (h:Nat) (hl:h<=xs.length):val xs=val (xs.take h)+4294967296^h*val (xs.drop h):=by
 have:=val_append (xs.take h) (xs.drop h);rw[List.take_append_drop,a0b,a0w hl]at this;exact this
theorem uH {X p n:Nat} (h:X*4294967296^p<4294967296^n) (hp:p<=n):X<4294967296^(n-p):=by
 have e:(4294967296:Nat)^n=4294967296^(n-p)*4294967296^p:=by rw[<-a0p];congr 1;omega
 rw[e]at h;exact Nat.lt_of_mul_lt_mul_right h
structure IZ (A C na nb h A0 A1 C0 C1:Nat):Prop where
 a:A=A0+4294967296^h*A1
 c:C=C0+4294967296^h*C1
 l0:A0+C0<A+C
 l1:A1+C1<A+C
 lm:A0+A1+(C0+C1)<A+C
 sa:A0+A1<=A
 sc:C0+C1<=C
 la:A<4294967296^na
 lc:C<4294967296^nb
 low:A0*C0<4294967296^(2*h)
 high:A1*C1<4294967296^(na+nb-2*h)
 mid:(A0+A1)*(C0+C1)-A0*C0-A1*C1<4294967296^(na+nb-h)
 s1:A0*C0<=(A0+A1)*(C0+C1)
 s2:A1*C1<=(A0+A1)*(C0+C1)-A0*C0
 all:A0*C0+4294967296^(2*h)*(A1*C1)+4294967296^h*((A0+A1)*(C0+C1)-A0*C0-A1*C1)=A*C
theorem BN (xs:List Nat) (hw:Wf xs) (h:Nat) (h1:1<=h):val xs=val (xs.take h)+4294967296^h*val (xs.drop h)/\ val (xs.take h)<4294967296^h/\ (h<nl xs->0<val (xs.drop h))/\ val (xs.take h)+val (xs.drop h)<=val xs:=by
 have e1:val xs=val (xs.take h)+4294967296^h*val (xs.drop h):=by
  rcases Nat.le_total h xs.length with hl|hl
  ·exact Ec xs h hl
  ·rw[a0c hl,a0d hl];simp[val]
 have e2:val (xs.take h)<4294967296^h:=by
  have:=eG _ (hw.take h);refine Nat.lt_of_lt_of_le this (a0s (by omega) ?_);rw[a0b];omega
 refine⟨e1,e2,λhn=>?_,?_⟩
 ·rcases Nat.eq_zero_or_pos (val (xs.drop h))with h0|h0
  ·rw[h0]at e1;obtain⟨j,hj⟩:∃j,nl xs=j+1:=⟨nl xs-1,by omega⟩;have h3:=fC j hj;have h4:4294967296^h<=4294967296^j:=a0s (by omega) (by omega);omega
  ·exact h0
 ·have:1*val (xs.drop h)<=4294967296^h*val (xs.drop h):=a0x _ (Nat.pos_of_ne_zero (by simp));omega
theorem KX {h:Nat} (h1:1<=h):2<=4294967296^h:=by
 have:(4294967296:Nat)^1<=4294967296^h:=a0s (by omega) h1;omega
theorem O8 {A C na nb h:Nat} (hA:(limbs A).length=na) (hC:(limbs C).length=nb) (h2:1<=h) (h3:h<na∨h<nb) (h4:2*h<=na+nb):
  IZ A C na nb h (val ((limbs A).take h)) (val ((limbs A).drop h)) (val ((limbs C).take h)) (val ((limbs C).drop h)):=by
 obtain⟨a1,a2,a3,a4⟩:=BN (limbs A) (eF A) h h2;obtain⟨c1,c2,c3,c4⟩:=BN (limbs C) (eF C) h h2;rw[fQ,hA]at a3;rw[fQ,hC]at c3;have na':=eG (limbs A) (eF A);have nb':=eG (limbs C) (eF C);rw[au]at a1 a4 c1 c4 na' nb';rw[hA]at na';rw[hC]at nb';generalize val ((limbs A).take h)=A0 at*
 generalize val ((limbs A).drop h)=A1 at*
 generalize val ((limbs C).take h)=C0 at*
 generalize val ((limbs C).drop h)=C1 at*
 have hP:=KX h2;have hAC:A*C<4294967296^(na+nb):=BM na' nb';have e2h:(4294967296:Nat)^(2*h)=4294967296^h*4294967296^h:=by rw[Nat.two_mul,a0p]
 have hall:A0*C0+4294967296^(2*h)*(A1*C1)+4294967296^h*((A0+A1)*(C0+C1)-A0*C0-A1*C1)=A*C:=by
  rw[a1,c1,<-ak4,e2h,a0v (A1*C1),a0v ((A0+A1)*(C0+C1)-A0*C0-A1*C1)]
 have hx:(A0+A1)*(C0+C1)=A0*C0+A1*C1+(A0*C1+A1*C0):=by rw[a0q,a0o,a0o];omega
 have hA1:A0+2*A1<=A:=by
  have:=a0x A1 hP;omega
 have hC1:C0+2*C1<=C:=by
  have:=a0x C1 hP;omega
 refine⟨a1,c1,?_,?_,?_,a4,c4,na',nb',?_,?_,?_,?_,?_,hall⟩
 ·rcases h3 with h3|h3
  ·have:=a3 h3;omega
  ·have:=c3 h3;omega
 ·rcases h3 with h3|h3
  ·have:=a3 h3;omega
  ·have:=c3 h3;omega
 ·rcases h3 with h3|h3
  ·have:=a3 h3;omega
  ·have:=c3 h3;omega
 ·rw[e2h];exact a0t a2 c2
 ·refine uH ?_ h4
  rw[a0v];omega
 ·refine uH ?_ (by omega);rw[a0v];omega
 ·omega
 ·omega
theorem uI {zs:List Nat} {k:Nat} (hz:∀t,k<=t->zs.getD t 0=0):val (zs.drop k)=0:=by
 have hd:∀(l:List Nat),(∀t,l.getD t 0=0)->val l=0:=by
  intro l;induction l with
  |nil=>intro _;rfl
  |cons x l ih=>
   intro hl;have h0:=hl 0;simp at h0;rw[bB,h0,ih (λt=>by have:=hl (t+1);simpa using this)]
 refine hd _ λt=>?_
 have:=hz (k+t) (by omega);simpa[a0e,a0f]using this
theorem FI {zs ys:List Nat} {k:Nat} (hz:∀t,k<=t->zs.getD t 0=0) (hl:k+ys.length<=zs.length):val (zs.take k++(ys++zs.drop (k+ys.length)))=val zs+4294967296^k*val ys:=by
 have h1:val (zs.drop (k+ys.length))=0:=uI λt ht=>hz t (by omega)
 have h2:val (zs.take k)=val zs:=by
  have:=Ec zs k (by omega);rw[uI hz]at this;omega
 rw[val_append,val_append,h1,h2,a0b,a0w (by omega),a0y,a0z]
theorem Ty {zs ys:List Nat} {k t:Nat} (hz:∀t,k<=t->zs.getD t 0=0) (hl:k+ys.length<=zs.length) (ht:k+ys.length<=t):(zs.take k++(ys++zs.drop (k+ys.length))).getD t 0=0:=by
 have h1:(zs.take k).length=k:=by rw[a0b];omega
 have:=hz t (by omega);simp only[a0e]at this ⊢;rw[a0g (by omega),a0g (by omega),h1,a0f,<-this]
 congr 2
 omega
theorem KQ {zs ys:List Nat} {k:Nat} (hz:Wf zs) (hy:Wf ys):Wf (zs.take k++(ys++zs.drop (k+ys.length))):=by
 intro x hx;rcases a0h.1 hx with hx|hx
 ·exact hz x (a0i hx)
 ·rcases a0h.1 hx with hx|hx
  ·exact hy x hx
  ·exact hz x (a0j hx)
theorem FJ {zs ys:List Nat} {k:Nat} (hl:k+ys.length<=zs.length):(zs.take k++(ys++zs.drop (k+ys.length))).length=zs.length:=by
 simp;omega
end
/- The contract of times.bare: the limbs without the noughts at the end, not copied. -/
section
open Go.RowKit
def SC (w:World) (ys:List Nat) (k:Nat) (e:Ending) (w':World):Prop:=
 ∃ao n cap,e= .returned (a0a ao n cap)/\ Sl w ao n cap ys/\ n<=k/\ w=w'
theorem Sl.take {w:World} {ao:Option Addr} {n cap:Nat} {xs:List Nat} (h:Sl w ao n cap xs) (k:Nat) (hk:k<=n):Sl w ao k cap (xs.take k):=
 ⟨by rw[a0b,h.len];omega,by have:=h.le;omega,by have:=h.big;omega,h.wf|>λhw x hx=>hw x (a0i hx),h.nil,λad had t ht=>by
  rw[h.cells ad had t (by omega)]
  congr 3
  simp[a0e,ht]⟩
theorem wF {xs:List Nat} (h:Wf xs):(nbits (val xs)+31)/32=nl xs:=by
 by_cases h0:nl xs=0
 ·have:val xs=0:=kz.1 (kL h0);rw[this,h0];rfl
 ·obtain⟨k,hk⟩:∃k,nl xs=k+1:=⟨nl xs-1,by omega⟩;have h1:=D7 h k hk
  have hlt:xs.getD k 0<4294967296:=by
   by_cases ht:k<xs.length
   ·simp only[a0e,List.getElem?_eq_getElem ht,Option.getD_some];exact h _ (List.getElem_mem ht)
   ·simp[a0e,List.getElem?_eq_none (by omega:xs.length<=k)]
  have h2:nbits (xs.getD k 0)<=32:=wV (by omega)
  have h3:nbits (xs.getD k 0)≠0:=by
   intro hz;have hz':=lN.1 hz;have:=mI xs k (by have:=iP xs;omega) hz';have h5:=iP (xs.take k);rw[a0b]at h5
   have h6:nl (xs.take (k+1))=k+1:=by
    have e:xs.take (k+1)=bG xs:=by rw[dA,hk]
    rw[e];unfold nl;have:=dA (bG xs);have h7:bG (bG xs)=bG xs:=by rw[di xs h,lQ]
    rw[h7];exact hk
   omega
  omega
theorem pY (ao:Option Addr) (n cap:Nat) (xs:List Nat) (w:World) (hs:Sl w ao n cap xs):
  Calls Tryz.prog 213 #[a0a ao n cap] w (SC w (limbs (val xs)) n):=by
 have hle:=hs.le;have hbig:=hs.big;have hnl:nl xs<=n:=by have:=iP xs;rw[hs.len]at this;exact this
 have HT:Hid (limbs (val xs)=xs.take (nl xs)):=by show _=_;rw[<-di xs hs.wf,dA]
 have hup:=wF hs.wf;obtain⟨b,hb⟩:∃b,b=nbits (val xs):=⟨_,rfl⟩;obtain⟨m,hm⟩:∃m,m=nl xs:=⟨_,rfl⟩;rw[<-hb,<-hm]at hup;rw[<-hm]at HT hnl;have HB:=Lib.hid hb;have hbl:b<=32*m:=by omega
 have hdv:(((b:Nat):Int)+32-1)/32=((m:Nat):Int):=by omega
 have HM:=Lib.hid hm;clear hb hup hm;go_enter Tryz.func213,Tryz.ntmps213;by_cases h0:m=0
 ·subst h0;go_wp2_with fail;refine(iC b _ _ _ _ _ hs HB.out.symm).mono ?_;rintro e w' ⟨rfl,rfl⟩;go_wp2_with fail;go_ret;exact⟨_,_,_,rfl,by rw[HT.out];exact Sl.none _,a0A _,rfl⟩
 ·have hb0:(((m:Nat):Int)==0)=false:=by simp;omega
  go_wp2_with fail;refine(iC b _ _ _ _ _ hs HB.out.symm).mono ?_;rintro e w' ⟨rfl,rfl⟩;go_wp2_with fail;go_ret;exact⟨_,_,_,rfl,by rw[HT.out];exact hs.take m hnl,hnl,rfl⟩
theorem BO (B:Nat) (ao:Option Addr) (n cap:Nat) (xs:List Nat) (w:World) (h:Own B w ao n cap xs):
  Calls Tryz.prog 213 #[a0a ao n cap] w (wE B w (limbs (val xs))):=by
 have hs:=h.sl;have hle:=hs.le;have hbig:=hs.big;have hnl:nl xs<=n:=by have:=iP xs;rw[hs.len]at this;exact this
 have HT:Hid (limbs (val xs)=xs.take (nl xs)):=by show _=_;rw[<-di xs hs.wf,dA]
 have hup:=wF hs.wf;obtain⟨b,hb⟩:∃b,b=nbits (val xs):=⟨_,rfl⟩;obtain⟨m,hm⟩:∃m,m=nl xs:=⟨_,rfl⟩;rw[<-hb,<-hm]at hup;rw[<-hm]at HT hnl;have HB:=Lib.hid hb;have hbl:b<=32*m:=by omega
 have hdv:(((b:Nat):Int)+32-1)/32=((m:Nat):Int):=by omega
 clear hb hup hm;go_enter Tryz.func213,Tryz.ntmps213;by_cases h0:m=0
 ·subst h0;go_wp2_with fail;refine(iC b _ _ _ _ _ hs HB.out.symm).mono ?_;rintro e w' ⟨rfl,rfl⟩;go_wp2_with fail;go_ret;exact⟨_,_,_,rfl,by rw[HT.out];exact Own.nil _ _,rfl⟩
 ·have hb0:(((m:Nat):Int)==0)=false:=by simp;omega
  go_wp2_with fail;refine(iC b _ _ _ _ _ hs HB.out.symm).mono ?_;rintro e w' ⟨rfl,rfl⟩;go_wp2_with fail;go_ret;exact⟨_,_,_,rfl,by rw[HT.out];exact h.take m hnl (by omega),rfl⟩
end
/- The contract of times.addRow: a row's products are added to limbs of the call's own. -/
section
open Lib (hid)
open Go.RowKit
def Tz (w0:World) (g N:Nat) (zs:List Nat) (p S c:Nat) (w':World):Prop:=
 ∃ys,Own w0.heap.size w' (some ⟨g,0,none⟩) N N ys/\ Below w0.heap.size w0 w'/\ val ys+4294967296^p*c=S/\∀t,p<=t->ys.getD t 0=zs.getD t 0
def Zm (w0:World) (g N:Nat) (zs:List Nat) (p S:Nat) (e:Ending) (w':World):Prop:=
 ∃c:Nat,e= .returned (.int .u32 (c:Int))/\ c<4294967296/\ Tz w0 g N zs p S c w'
theorem BP (w0 w:World) (g N i:Nat) (zs:List Nat) (a0:Option Addr) (la ca:Nat) (xs:List Nat) (n:Nat) (ha:Sl w0 a0 la ca xs) (hB:Below w0.heap.size w0 w)
  (hO:Own w0.heap.size w (some ⟨g,0,none⟩) N N zs) (hg:w0.heap.size<=g) (hfit:i+la<=N) (hn:n<4294967296):
  Calls Tryz.prog 236 #[a0a (some ⟨g,i,none⟩) (N-i) (N-i),a0a a0 la ca,.int .u32 (n:Int)] w (Zm w0 g N zs (i+la) (val zs+4294967296^i*(val xs*n))):=by
 have b1:=ha.big;have l1:=ha.le;have hNb:=hO.big;have HX:Hid (xs.take la=xs):=dz xs la ha.len;have hI:Tz w0 g N zs (i+0) (val zs+4294967296^i*(val (xs.take 0)*n)) 0 w:=⟨zs,hO,hB,by simp[val],λ_ _=>rfl⟩;go_enter Tryz.func236,Tryz.ntmps236;clear hO hB;go_wp2_with fail;go_loopw [7,8,9,10,13] (λc _ _ _ j wr=>∃k cc:Nat,k<=la/\ j= .int .i64 k/\ c= .int .u64 cc/\ cc<4294967296/\ Tz w0 g N zs (i+k) (val zs+4294967296^i*(val (xs.take k)*n)) cc wr) (λ_ _ _ _ j _=>la-(intOf j).toNat)
 case atStart=>exact⟨0,0,a0A _,rfl,rfl,by omega,hI⟩
 case round=>
  clear hI;obtain⟨k,cc,hk,rfl,rfl,hcc,ys,hO,hB,hV,hZ⟩:=hrel;by_cases hkl:k<la
  ·obtain⟨b,off,rfl,hbb,hcb⟩:=ha.at (by omega);have hxc:wr.cell? ⟨b,off+k,none⟩=some (.int .u32 (xs.getD k 0:Nat)):=(hB.cell (by exact hbb)).trans (hcb k (by omega));have hzc:=hO.cell (i+k) (by omega);have zH:=hO.frozen (i+k);have hxl:=ha.getD_lt k;have hzl:=hO.getD_lt (i+k);have hstep:=IX (m:=xs.getD k 0*n) (by rw[hO.len];omega) hV;obtain⟨x,hx⟩:∃x,x=xs.getD k 0:=⟨_,rfl⟩;obtain⟨z,hz⟩:∃z,z=ys.getD (i+k) 0:=⟨_,rfl⟩;rw[<-hx]at hxc hxl hstep;rw[<-hz]at hzc hzl hstep;have HX:=hid hx;have HST:=hid hstep;have HZ:=hid hZ;obtain⟨hw1,hw2⟩:=BD hxl hn hzl hcc;obtain⟨m,hm⟩:∃m,m=x*n:=⟨_,rfl⟩;rw[<-hm]at hw1 hw2;have HM:=hid hm;have U9:((x:Nat):Int)*((n:Nat):Int)=((m:Nat):Int):=by rw[hm];simp
   clear hx hz hV hZ hstep hcb hm;go_wp2;go_roundw
   case rel=>
    have e1:(((m:Nat):Int)+((z:Nat):Int)+((cc:Nat):Int))/4294967296=(((x*n+z+cc)/4294967296:Nat):Int):=by rw[<-HM.out];omega
    have e2:(((m:Nat):Int)+((z:Nat):Int)+((cc:Nat):Int))%4294967296=(((x*n+z+cc)%4294967296:Nat):Int):=by rw[<-HM.out];omega
    refine⟨k+1,(x*n+z+cc)/4294967296,by omega,by go_num,by rw[e1],by rw[<-HM.out];omega,?_⟩;rw[e2];refine⟨_,hO.set (i+k) _ (a0B _ (by omega)),hB.setCell hg _,?_,λt ht=>?_⟩
    ·rw[<-a0C,HST.out,bE xs k (by rw[ha.len];omega),<-HX.out];exact IY _ rfl
    ·rw[fP,if_neg (by omega)];exact HZ.out t (by omega)
   case measure=>simp[intOf];omega
  ·obtain rfl:k=la:=by omega
   rw[HX.out]at hV;have HV:=hid hV;have HZ:=hid hZ;clear hV hZ;go_wp2;go_ret;refine⟨cc,fZ (by omega),hcc,ys,hO,hB,HV.out,HZ.out⟩
end
/- The contract of times.Rows. -/
section
open Lib (hid)
open Go.RowKit
def zO (B g N la:Nat) (w:World) (S k:Nat) (wr:World):Prop:=
 ∃zs,Own B wr (some ⟨g,0,none⟩) N N zs/\ Below B w wr/\ val zs=S/\∀t,k+la<=t->zs.getD t 0=0
theorem Ed {ys:List Nat} {p S c N:Nat} (h:val ys+4294967296^p*c=S) (hl:ys.length=N) (hp:p<N) (h0:ys.getD p 0=0):val (ys.set p c)=S:=by
 have:=jW ys p c (by omega);rw[h0]at this;omega
theorem V9 (a0 b0:Option Addr) (la ca lb cb:Nat) (xs ys:List Nat) (w:World) (ha:Sl w a0 la ca xs) (hb:Sl w b0 lb cb ys) (hge:(limbs (val ys)).length<=(limbs (val xs)).length) (ra:la<=1000000000000) (rb:lb<=1000000000000):
  Calls Tryz.prog 214 #[a0a a0 la ca,a0a b0 lb cb] w (gP w (limbs (val xs*val ys))):=by
 obtain⟨i0,hi,hz0,hz1,hz2⟩:=info_parts Tryz.gV;go_enter Tryz.func214,Tryz.ntmps214;go_wp2_with fail;refine(pY _ _ _ _ _ ha).mono ?_;rintro e w' ⟨a1,n1,c1,rfl,hA,hn1,rfl⟩;go_wp2_with fail;refine(pY _ _ _ _ _ hb).mono ?_;rintro e w' ⟨b1,m1,d1,rfl,hB,hm1,rfl⟩;rw[hA.len,hB.len]at hge;go_wp2_with (at_make;refine wpList_make_full _ rfl _ _ 27 rfl w.heap.size 192 i0 (.int .u32 0) 1 Tryz.underlying27 hi hz0 hz1 _ _ _ _ (n1+m1) rfl rfl (by omega) (by omega) ?b2 ?b3 (a0D _) ?_)
 case b2=>rw[hz2];omega
 case b3=>unfold maxLen;omega
 intro w1 hown1 hgrow1;rw[jy]at hown1;have hb1:Below w.heap.size w w1:=(Below.refl _ _).grown hgrow1 (a0D _) (λk h=>by cases h)
 have oq:Own w.heap.size w1 (some ⟨w.heap.size,0,none⟩) (n1+m1) (n1+m1) (a0k (n1+m1) 0):=
  ⟨hown1,by omega,λx hx=>by rw[(a0l.1 hx).2];omega⟩
 have hI:zO w.heap.size w.heap.size (n1+m1) n1 w (val xs*val ((limbs (val ys)).take 0)) 0 w1:=
  ⟨_,oq,hb1,by rw[iA];simp[val],λt _=>eB _ _⟩
 have HYL:Hid ((limbs (val ys)).take m1=limbs (val ys)):=dz _ _ hB.len;have HXS:Hid (val (limbs (val xs))=val xs):=au _;clear hown1 hgrow1 hb1 oq;go_wp2_with fail;go_loopw [6,7,27] (λ_ _ j wr=>∃k:Nat,k<=m1/\ j= .int .i64 k/\ zO w.heap.size w.heap.size (n1+m1) n1 w (val xs*val ((limbs (val ys)).take k)) k wr) (λ_ _ j _=>m1-(intOf j).toNat)
 case atStart=>exact⟨0,a0A _,rfl,hI⟩
 case round=>
  clear hI;obtain⟨k,hk,rfl,zs,hO,hBl,hV,hZ⟩:=hrel;by_cases hkm:k<m1
  ·obtain⟨b,off,rfl,hbb,hcb⟩:=hB.at (by omega);have KY:wr.cell? ⟨b,off+k,none⟩=some (.int .u32 ((limbs (val ys)).getD k 0:Nat)):=(hBl.cell (by exact hbb)).trans (hcb k (by omega));have hyl:=hB.getD_lt k;have HTS:=hid (bE (limbs (val ys)) k (by rw[hB.len];omega));obtain⟨y,hy⟩:∃y,y=(limbs (val ys)).getD k 0:=⟨_,rfl⟩;rw[<-hy]at KY hyl HTS;have HV:=hid hV;have HZ:=hid hZ;have TA:=hid (BP w wr w.heap.size (n1+m1) k zs a1 n1 c1 _ y hA hBl hO (a0D _) (by omega) hyl);clear hy hV hZ hcb;go_wp2_with fail;refine TA.out.mono ?_;rintro e w2 ⟨cc,rfl,hcc,us,hO2,hB2,hV2,hZ2⟩;have zH:=hO2.frozen (k+n1);have hzc:=hO2.cell (k+n1) (by omega);have Px:=hid hV2;have HZ2:=hid hZ2;clear hV2 hZ2 TA;have HZ0:Hid (us.getD (k+n1) 0=0):=by show _=_;rw[HZ2.out _ (a0D _)];exact HZ.out _ (a0D _)
   rw[HZ0.out]at hzc;go_wp2_with fail;go_roundw
   case rel=>
    refine⟨k+1,by omega,by go_num,_,hO2.set (k+n1) cc hcc,hB2.setCell (a0D _) _,?_,λt ht=>?_⟩
    ·rw[Ed Px.out hO2.len (by omega) HZ0.out,HV.out,HXS.out,HTS.out,a0o]
     congr 1
     rw[a0u]
    ·rw[fP,if_neg (by omega),HZ2.out t (by omega)];exact HZ.out t (by omega)
   case measure=>simp[intOf];omega
  ·obtain rfl:k=m1:=by omega
   rw[HYL.out,au]at hV;have hbare:=BO _ _ _ _ _ _ hO;rw[hV]at hbare;have U0:=hid hbare;clear hbare hV hZ;go_wp2_with fail;refine U0.out.mono λe w' h=>?_
   obtain⟨ao,kk,cap,rfl,h3,rfl⟩:=h;go_wp2_with fail;go_ret;exact⟨_,_,_,rfl,h3,hBl⟩
theorem Wd (a0 b0:Option Addr) (la ca lb cb:Nat) (xs ys:List Nat) (w:World) (ha:Sl w a0 la ca xs) (hb:Sl w b0 lb cb ys) (hge:(limbs (val ys)).length<(limbs (val xs)).length) (ra:la<=1000000000000) (rb:lb<=1000000000000):
  Calls Tryz.prog 214 #[a0a b0 lb cb,a0a a0 la ca] w (gP w (limbs (val xs*val ys))):=by
 obtain⟨i0,hi,hz0,hz1,hz2⟩:=info_parts Tryz.gV;go_enter Tryz.func214,Tryz.ntmps214;go_wp2_with fail;refine(pY _ _ _ _ _ hb).mono ?_;rintro e w' ⟨b1,m1,d1,rfl,hB,hm1,rfl⟩;go_wp2_with fail;refine(pY _ _ _ _ _ ha).mono ?_;rintro e w' ⟨a1,n1,c1,rfl,hA,hn1,rfl⟩;rw[hA.len,hB.len]at hge;go_wp2_with (at_make;refine wpList_make_full _ rfl _ _ 27 rfl w.heap.size 192 i0 (.int .u32 0) 1 Tryz.underlying27 hi hz0 hz1 _ _ _ _ (n1+m1) rfl rfl (by omega) (by omega) ?b2 ?b3 (a0D _) ?_)
 case b2=>rw[hz2];omega
 case b3=>unfold maxLen;omega
 intro w1 hown1 hgrow1;rw[jy]at hown1;have hb1:Below w.heap.size w w1:=(Below.refl _ _).grown hgrow1 (a0D _) (λk h=>by cases h)
 have oq:Own w.heap.size w1 (some ⟨w.heap.size,0,none⟩) (n1+m1) (n1+m1) (a0k (n1+m1) 0):=
  ⟨hown1,by omega,λx hx=>by rw[(a0l.1 hx).2];omega⟩
 have hI:zO w.heap.size w.heap.size (n1+m1) n1 w (val xs*val ((limbs (val ys)).take 0)) 0 w1:=
  ⟨_,oq,hb1,by rw[iA];simp[val],λt _=>eB _ _⟩
 have HYL:Hid ((limbs (val ys)).take m1=limbs (val ys)):=dz _ _ hB.len;have HXS:Hid (val (limbs (val xs))=val xs):=au _;clear hown1 hgrow1 hb1 oq;go_wp2_with fail;go_loopw [6,7,27] (λ_ _ j wr=>∃k:Nat,k<=m1/\ j= .int .i64 k/\ zO w.heap.size w.heap.size (n1+m1) n1 w (val xs*val ((limbs (val ys)).take k)) k wr) (λ_ _ j _=>m1-(intOf j).toNat)
 case atStart=>exact⟨0,a0A _,rfl,hI⟩
 case round=>
  clear hI;obtain⟨k,hk,rfl,zs,hO,hBl,hV,hZ⟩:=hrel;by_cases hkm:k<m1
  ·obtain⟨b,off,rfl,hbb,hcb⟩:=hB.at (by omega);have KY:wr.cell? ⟨b,off+k,none⟩=some (.int .u32 ((limbs (val ys)).getD k 0:Nat)):=(hBl.cell (by exact hbb)).trans (hcb k (by omega));have hyl:=hB.getD_lt k;have HTS:=hid (bE (limbs (val ys)) k (by rw[hB.len];omega));obtain⟨y,hy⟩:∃y,y=(limbs (val ys)).getD k 0:=⟨_,rfl⟩;rw[<-hy]at KY hyl HTS;have HV:=hid hV;have HZ:=hid hZ;have TA:=hid (BP w wr w.heap.size (n1+m1) k zs a1 n1 c1 _ y hA hBl hO (a0D _) (by omega) hyl);clear hy hV hZ hcb;go_wp2_with fail;refine TA.out.mono ?_;rintro e w2 ⟨cc,rfl,hcc,us,hO2,hB2,hV2,hZ2⟩;have zH:=hO2.frozen (k+n1);have hzc:=hO2.cell (k+n1) (by omega);have Px:=hid hV2;have HZ2:=hid hZ2;clear hV2 hZ2 TA;have HZ0:Hid (us.getD (k+n1) 0=0):=by show _=_;rw[HZ2.out _ (a0D _)];exact HZ.out _ (a0D _)
   rw[HZ0.out]at hzc;go_wp2_with fail;go_roundw
   case rel=>
    refine⟨k+1,by omega,by go_num,_,hO2.set (k+n1) cc hcc,hB2.setCell (a0D _) _,?_,λt ht=>?_⟩
    ·rw[Ed Px.out hO2.len (by omega) HZ0.out,HV.out,HXS.out,HTS.out,a0o]
     congr 1
     rw[a0u]
    ·rw[fP,if_neg (by omega),HZ2.out t (by omega)];exact HZ.out t (by omega)
   case measure=>simp[intOf];omega
  ·obtain rfl:k=m1:=by omega
   rw[HYL.out,au]at hV;have hbare:=BO _ _ _ _ _ _ hO;rw[hV]at hbare;have U0:=hid hbare;clear hbare hV hZ;go_wp2_with fail;refine U0.out.mono λe w' h=>?_
   obtain⟨ao,kk,cap,rfl,h3,rfl⟩:=h;go_wp2_with fail;go_ret;exact⟨_,_,_,rfl,h3,hBl⟩
theorem TB (a0 b0:Option Addr) (la ca lb cb:Nat) (xs ys:List Nat) (w:World) (ha:Sl w a0 la ca xs) (hb:Sl w b0 lb cb ys) (ra:la<=1000000000000) (rb:lb<=1000000000000):
  Calls Tryz.prog 214 #[a0a a0 la ca,a0a b0 lb cb] w (gP w (limbs (val xs*val ys))):=by
 by_cases h:(limbs (val ys)).length<=(limbs (val xs)).length
 ·exact V9 a0 b0 la ca lb cb xs ys w ha hb h ra rb
 ·rw[a0v];exact Wd b0 a0 lb cb la ca ys xs w hb ha (by omega) rb ra
end
/- The contracts of times.parts, times.less and times.addInto. -/
section
open Lib (hid)
open Go.RowKit
theorem Mj {w:World} {b off n cap:Nat} {xs:List Nat} (h:Sl w (some ⟨b,off,none⟩) n cap xs) (k:Nat) (hk:k<=n):Sl w (some ⟨b,off+k,none⟩) (n-k) (cap-k) (xs.drop k):=by
 have hl:=h.le;have hb:=h.big;refine Sl.of_cells (by rw[List.length_drop,h.len]) (by omega) (by omega) (λx hx=>h.wf x (a0j hx)) λt ht=>?_
 have:=h.cells _ rfl (k+t) (by omega);rw[Addr.add_lit]at this;rw[a0C,this]
 congr 3
 simp[a0e,a0f]
def Wh (w:World) (lo hi:List Nat) (n:Nat) (e:Ending) (w':World):Prop:=
 ∃a0 la ca b0 lb cb q,e= .returned (.tuple #[a0a a0 la ca,a0a b0 lb cb])/\ Sl w' a0 la ca lo/\ Sl w' b0 lb cb hi/\ la<=n/\ lb<=n/\ w'=w.drewN q
theorem Ee (ao:Option Addr) (n cap:Nat) (xs:List Nat) (k:Nat) (w:World) (hs:Sl w ao n cap xs):
  Calls Tryz.prog 237 #[a0a ao n cap,.int .i64 (k:Int)] w (Wh w (xs.take k) (xs.drop k) n):=by
 have hle:=hs.le;have hbig:=hs.big;by_cases hk:n<=k
 ·have H1:Hid (xs.take k=xs):=a0c (by rw[hs.len];exact hk);have H2:Hid (xs.drop k=[]):=a0d (by rw[hs.len];exact hk);go_enter Tryz.func237,Tryz.ntmps237;go_wp2;go_ret2;exact⟨_,_,_,_,_,_,0,rfl,by rw[H1.out];exact hs,by rw[H2.out];exact Sl.none _,a0D _,a0A _,rfl⟩
 ·obtain⟨b,off,rfl,hb,_⟩:=hs.at (by omega);have S1:=hid (hs.take k (by omega));have S2:=hid (Mj hs k (by omega));have hd:decide ((n:Int)<=(k:Int))=false:=by simp;omega
  have hck:(cap==k)=false:=by simp;omega
  have aj5:¬(cap=k):=by omega
  go_enter Tryz.func237,Tryz.ntmps237;go_wp2;go_quiet (fail);go_wp2;go_ret2;exact⟨_,_,_,_,_,_,_,rfl,S1.out.drewN _,S2.out.drewN _,by omega,by omega,rfl⟩
theorem I4 (a0 b0:Option Addr) (la ca lb cb:Nat) (xs ys:List Nat) (w:World) (ha:Sl w a0 la ca xs) (hb:Sl w b0 lb cb ys) (hge:val ys<=val xs):
  Calls Tryz.prog 238 #[a0a a0 la ca,a0a b0 lb cb] w (gP w (limbs (val xs-val ys))):=by
 go_enter Tryz.func238,Tryz.ntmps238;go_wp2_with fail;refine(mD _ _ _ _ _ _ _ _ _ ha hb hge).mono ?_;rintro e w1 ⟨c0,n,c,rfl,hO,hB⟩;go_wp2_with fail;go_ret;exact⟨_,_,_,rfl,hO,hB⟩
def zP (w0:World) (g N p S c:Nat) (w':World):Prop:=
 ∃ys,Own w0.heap.size w' (some ⟨g,0,none⟩) N N ys/\ Below w0.heap.size w0 w'/\ val ys+4294967296^p*c=S
def Wi (w0:World) (g N S:Nat) (e:Ending) (w':World):Prop:=
 ∃ys,e= .returned (.tuple #[])/\ Own w0.heap.size w' (some ⟨g,0,none⟩) N N ys/\ Below w0.heap.size w0 w'/\ val ys=S
theorem I5 (w0 w:World) (g N i:Nat) (zs:List Nat) (a0:Option Addr) (la ca:Nat) (xs:List Nat) (ha:Sl w0 a0 la ca xs) (hB:Below w0.heap.size w0 w)
  (hO:Own w0.heap.size w (some ⟨g,0,none⟩) N N zs) (hg:w0.heap.size<=g) (hfit:i+la<=N) (hS:val zs+4294967296^i*val xs<4294967296^N):
  Calls Tryz.prog 239 #[a0a (some ⟨g,i,none⟩) (N-i) (N-i),a0a a0 la ca] w (Wi w0 g N (val zs+4294967296^i*val xs)):=by
 have b1:=ha.big;have l1:=ha.le;have hNb:=hO.big;have HX:Hid (xs.take la=xs):=dz xs la ha.len;have HS:=hid hS;have hI:zP w0 g N (i+0) (val zs+4294967296^i*val (xs.take 0)) 0 w:=⟨zs,hO,hB,by simp[val]⟩;go_enter Tryz.func239,Tryz.ntmps239;clear hO hB hS;go_wp2_with fail;go_loopw [4,5,6,10] (λc _ _ j wr=>∃k cc:Nat,k<=la/\ j= .int .i64 k/\ c= .int .u32 cc/\ cc<=1/\ zP w0 g N (i+k) (val zs+4294967296^i*val (xs.take k)) cc wr) (λ_ _ _ j _=>la-(intOf j).toNat)
 case atStart=>exact⟨0,0,a0A _,rfl,rfl,by omega,hI⟩
 case round=>
  clear hI;obtain⟨k,cc,hk,rfl,rfl,hcc,hinv⟩:=hrel;by_cases hkl:k<la
  ·obtain⟨ys,hO,hB,hV⟩:=hinv;obtain⟨b,off,rfl,hbb,hcb⟩:=ha.at (by omega);have hxc:wr.cell? ⟨b,off+k,none⟩=some (.int .u32 (xs.getD k 0:Nat)):=(hB.cell (by exact hbb)).trans (hcb k (by omega));have hzc:=hO.cell (i+k) (by omega);have zH:=hO.frozen (i+k);have hxl:=ha.getD_lt k;have hzl:=hO.getD_lt (i+k);have hstep:=lX (y:=xs.getD k 0) (by rw[hO.len];omega) hV;rw[show(4294967296:Nat)^(i+k)*xs.getD k 0=4294967296^i*(4294967296^k*xs.getD k 0)from by rw[a0p,a0n],<-a0o,<-bE xs k (by rw[ha.len];omega)]at hstep;obtain⟨x,hx⟩:∃x,x=xs.getD k 0:=⟨_,rfl⟩;obtain⟨z,hz⟩:∃z,z=ys.getD (i+k) 0:=⟨_,rfl⟩;rw[<-hx]at hxc hxl hstep;rw[<-hz]at hzc hzl hstep;have HST:=hid hstep;clear hx hz hV hstep hcb;go_wp2_with (go_at_call 180;refine(lF z x cc _ hzl hxl hcc).mono ?_;rintro e w' ⟨rfl,rfl⟩);go_roundw
   case rel=>exact⟨k+1,(z+x+cc)/4294967296,by omega,by go_num,by go_num,by omega,_,hO.set (i+k) _ (a0B _ (by omega)),hB.setCell hg _,HST.out⟩
   case measure=>simp[intOf];omega
  ·obtain rfl:k=la:=by omega
   have CP:zP w0 g N (i+k) (val zs+4294967296^i*val xs) cc wr:=by
    rwa[HX.out]at hinv
   clear hinv;go_wp2;go_loopw [4,7] (λc j wr=>∃k cc:Nat,i+k<=N/\ j= .int .i64 k/\ c= .int .u32 cc/\ cc<=1/\ zP w0 g N (i+k) (val zs+4294967296^i*val xs) cc wr) (λ_ j _=>N+1-(intOf j).toNat)
   case atStart=>exact⟨k,cc,hfit,rfl,rfl,hcc,CP⟩
   case round=>
    clear CP;obtain⟨k,cc,hk,rfl,rfl,hcc,ys,hO,hB,hV⟩:=hrel;by_cases hc0:cc=0
    ·have hb0:(((cc:Nat):Int) !=0)=false:=by simp;omega
     have HV:Hid (val ys=val zs+4294967296^i*val xs):=by
      rw[hc0]at hV;show _=_;omega
     clear hV hc0;go_wp2;go_end0;exact⟨ys,rfl,hO,hB,HV.out⟩
    ·have hb0:(((cc:Nat):Int) !=0)=true:=by simp;omega
     have hkn:i+k<N:=by
      rcases a0r (i+k) N with h|h
      ·exact h
      ·have h1:4294967296^N<=4294967296^(i+k):=a0s (by omega) h;have h2:4294967296^(i+k)*1<=4294967296^(i+k)*cc:=Nat.mul_le_mul_left _ (by omega);have:=HS.out;omega
     have hzc:=hO.cell (i+k) (by omega);have zH:=hO.frozen (i+k);have hstep:=lX (y:=0) (by rw[hO.len];omega) hV;rw[a0y,a0z (4294967296^i*val xs)]at hstep;have hzl:=hO.getD_lt (i+k);obtain⟨z,hz⟩:∃z,z=ys.getD (i+k) 0:=⟨_,rfl⟩;rw[<-hz]at hzc hzl hstep;have HST:=hid hstep;clear hz hV hstep hc0;go_wp2_with (go_at_call 180;refine(lF z 0 cc _ hzl (by omega) hcc).mono ?_;rintro e w' ⟨rfl,rfl⟩);go_roundw
     case rel=>exact⟨k+1,(z+0+cc)/4294967296,by omega,by go_num,by go_num,by omega,_,hO.set (i+k) _ (a0B _ (by omega)),hB.setCell hg _,HST.out⟩
     case measure=>simp[intOf];omega
end
/- The contracts of times.cut and of product: the product by the parts' products. -/
section
open Lib (hid)
open Go.RowKit
def BQ (k V:Nat):Prop:=
 ∀(a0 b0:Option Addr) (la ca lb cb:Nat) (xs ys:List Nat) (w:World),Sl w a0 la ca xs->Sl w b0 lb cb ys->val xs+val ys<V->la<=1000000000000->lb<=1000000000000->
  Calls Tryz.prog 184 #[.int .i64 (k:Int),a0a a0 la ca,a0a b0 lb cb] w (gP w (limbs (val xs*val ys)))
theorem sI {n k:Nat} (h:n<4294967296^k):(limbs n).length<=k:=sD h
theorem xU (zs ys:List Nat) (k:Nat):splice (cellsOf zs) k (cellsOf ys)=cellsOf (zs.take k++(ys++zs.drop (k+ys.length))):=by
 unfold splice;rw[gJ,gJ,mG,wK,bq]
theorem Iy {B:Nat} {w:World} {g n:Nat} {ys:List Nat} (h:Own B w (some ⟨g,0,none⟩) n n ys):Hid (w.heap[g]? =some (.cells (cellsOf ys).toArray 192 (0,0))):=wL h.row
theorem Sl.hpos {w:World} {ao:Option Addr} {n cap:Nat} {xs:List Nat} (h:Sl w ao n cap xs) (h0:0<(cellsOf xs).length):∃ad,ao=some ad/\∀j v,(cellsOf xs)[j]? =some v->w.cell? (ad.add j)=some v:=by
 rw[bq,h.len]at h0;have:=h.src n (a0D _) h0;rwa[dz xs n h.len]at this
theorem Wj (k A C:Nat) (a0 b0:Option Addr) (la ca lb cb:Nat) (w:World) (ha:Sl w a0 la ca (limbs A)) (hb:Sl w b0 lb cb (limbs C)) (ha2:2<=la) (hb2:2<=lb) (ra:la<=1000000000000) (rb:lb<=1000000000000) (Z7:BQ k (A+C)):
  Calls Tryz.prog 215 #[a0a a0 la ca,a0a b0 lb cb,.func (.func 184) #[.int .i64 (k:Int)] #[]] w (gP w (limbs (A*C))):=by
 obtain⟨i0,hi,hz0,hz1,hz2⟩:=info_parts Tryz.gV;obtain⟨h,hh,h1,h2,h3,h4⟩:∃h:Nat,(max (la:Int) (lb:Int)+1)/2=(h:Int)/\ 1<=h/\ (h<la∨h<lb)/\ 2*h<la+lb/\ h<=la+lb:=⟨(max la lb+1)/2,by omega,by omega,by omega,by omega,by omega⟩;have HF:Hid (IZ A C la lb h _ _ _ _):=O8 (h:=h) ha.len hb.len h1 h2 (by omega);obtain⟨xs,hxs⟩:∃xs,xs=limbs A:=⟨_,rfl⟩;obtain⟨ys,hys⟩:∃ys,ys=limbs C:=⟨_,rfl⟩;rw[<-hxs]at ha;rw[<-hys]at hb;rw[<-hxs,<-hys]at HF;clear hxs hys;have YS:=hid (All.cons ha (All.cons hb (All.nil _)));have HB0:=hid (Below.refl w.heap.size w);clear ha hb;go_enter Tryz.func215,Tryz.ntmps215;go_wp2_with fail;refine(Ee _ _ _ _ h _ YS.out.head).mono ?_;rintro e w1 ⟨p0,pn,pc,px,pm,pd,q,rfl,hX,hY,hp1,hp2,hq⟩;have hB:Below w.heap.size w w1:=by rw[hq];exact below_drewN _ _ _
 have SK:=hid (All.cons hX (All.cons hY (YS.out.below hB)));have HB1:=hid (Below.steps HB0.out hB);clear hX hY hq hB YS HB0;go_wp2_with fail;refine(Ee _ _ _ _ h _ SK.out.tl.tl.tl.head).mono ?_;rintro e w2 ⟨r0,rn,rc,rx,rm,rd,q,rfl,hX,hY,hr1,hr2,hq⟩;have hB:Below w1.heap.size w1 w2:=by rw[hq];exact below_drewN _ _ _
 have HL2:=hid (All.cons hX (All.cons hY (SK.out.below hB)));have HB2:=hid (Below.steps HB1.out hB);clear hX hY hq hB SK HB1;go_wp2_with fail;refine((Z7 _ _ _ _ _ _ _ _ _ HL2.out.tl.tl.head HL2.out.head HF.out.l0 (by omega) (by omega))).mono ?_;rintro e w3 ⟨lo0,lon,loc,rfl,hX,hB⟩;have hlo:lon<=2*h:=by rw[<-hX.len];exact sI HF.out.low
 have HL3:=hid (All.cons hX.sl (HL2.out.below hB));have HB3:=hid (Below.steps HB2.out hB);clear hX hB HL2 HB2;go_wp2_with fail;refine((Z7 _ _ _ _ _ _ _ _ _ HL3.out.tl.tl.tl.tl.head HL3.out.tl.tl.head HF.out.l1 (by omega) (by omega))).mono ?_;rintro e w4 ⟨hg0,hgn,hgc,rfl,hX,hB⟩;have hhg:hgn<=la+lb-2*h:=by rw[<-hX.len];exact sI HF.out.high
 have HL4:=hid (All.cons hX.sl (HL3.out.below hB));have qP:=hid (Below.steps HB3.out hB);clear hX hB HL3 HB3;go_wp2_with fail;refine(tK _ _ _ _ _ _ _ _ _ HL4.out.tl.tl.tl.tl.head HL4.out.tl.tl.tl.tl.tl.head (by omega) (by omega)).mono ?_;rintro e w5 ⟨sa0,san,sac,rfl,hX,hB⟩;have al0:san<=la:=by rw[<-hX.len];exact sI (a0E HF.out.sa HF.out.la)
 have ZX:=hid (All.cons hX.sl (HL4.out.below hB));have og:=hid (Below.steps qP.out hB);clear hX hB HL4 qP;go_wp2_with fail;refine(tK _ _ _ _ _ _ _ _ _ ZX.out.tl.tl.tl.head ZX.out.tl.tl.tl.tl.head (by omega) (by omega)).mono ?_;rintro e w6 ⟨sc0,scn,scc,rfl,hX,hB⟩;have al1:scn<=lb:=by rw[<-hX.len];exact sI (a0E HF.out.sc HF.out.lc)
 have HL6:=hid (All.cons hX.sl (ZX.out.below hB));have xD:=hid (Below.steps og.out hB);clear hX hB ZX og;go_wp2_with fail;refine((Z7 _ _ _ _ _ _ _ _ _ HL6.out.tl.head HL6.out.head (by rw[au,au];exact HF.out.lm) (by omega) (by omega))).mono ?_;rintro e w7 ⟨mx0,mxn,mxc,rfl,hX,hB⟩;rw[au,au]at hX;have HL7:=hid (All.cons hX.sl (HL6.out.below hB));have Ag:=hid (Below.steps xD.out hB);clear hX hB HL6 xD;go_wp2_with fail;refine(I4 _ _ _ _ _ _ _ _ _ HL7.out.head HL7.out.tl.tl.tl.tl.head (by rw[au,au];exact HF.out.s1)).mono ?_;rintro e w8 ⟨d10,d1n,d1c,rfl,hX,hB⟩;rw[au,au]at hX;have HL8:=hid (All.cons hX.sl (HL7.out.below hB));have jl:=hid (Below.steps Ag.out hB);clear hX hB HL7 Ag;go_wp2_with fail;refine(I4 _ _ _ _ _ _ _ _ _ HL8.out.head HL8.out.tl.tl.tl.tl.head (by rw[au,au];exact HF.out.s2)).mono ?_;rintro e w9 ⟨d20,d2n,d2c,rfl,hX,hB⟩;rw[au,au]at hX;have hmd:d2n<=la+lb-h:=by rw[<-hX.len];exact sI HF.out.mid
 have HL9:=hid (All.cons hX.sl (HL8.out.below hB));have oP:=hid (Below.steps jl.out hB);clear hX hB HL8 jl;go_wp2_with (at_make;refine wpList_make_full _ rfl _ _ 27 rfl w9.heap.size 192 i0 (.int .u32 0) 1 Tryz.underlying27 hi hz0 hz1 _ _ _ _ (la+lb) rfl rfl (by omega) (by omega) ?b2 ?b3 (a0D _) ?_)
 case b2=>rw[hz2];omega
 case b3=>unfold maxLen;omega
 intro v1 hown1 hgrow1;rw[jy]at hown1;have hb1:Below w9.heap.size w9 v1:=(Below.refl _ _).grown hgrow1 (a0D _) (λk h=>by cases h)
 have oq:Own w9.heap.size v1 (some ⟨w9.heap.size,0,none⟩) (la+lb) (la+lb) (a0k (la+lb) 0):=
  ⟨hown1,by omega,λx hx=>by rw[(a0l.1 hx).2];omega⟩
 have hZ1:∀t,0<=t->(a0k (la+lb) 0).getD t 0=0:=λt _=>eB _ _
 have SLO:=hid HL9.out.tl.tl.tl.tl.tl.tl.head;have SHI:=hid HL9.out.tl.tl.tl.tl.tl.head;have SMD:=hid HL9.out.head;have Z5:=Iy oq;have O9:=SLO.out.len;have Wm:=SHI.out.len;have e1:=FI (ys:=limbs (val (xs.take h)*val (ys.take h))) hZ1 (by rw[O9];simp;omega);have z1:∀t,0+(limbs (val (xs.take h)*val (ys.take h))).length<=t->_:=λt=>Ty (t:=t) hZ1 (by rw[O9];simp;omega)
 have f1:Wf _:=KQ (k:=0) oq.wf (eF (val (xs.take h)*val (ys.take h)));have g1:=FJ (zs:=a0k (la+lb) 0) (ys:=limbs (val (xs.take h)*val (ys.take h))) (k:=0) (by rw[O9];simp;omega);have Iw:=hid (xU (a0k (la+lb) 0) (limbs (val (xs.take h)*val (ys.take h))) 0);obtain⟨Xo,ag1⟩:∃Xo,Xo=(a0k (la+lb) 0).take 0++(limbs (val (xs.take h)*val (ys.take h))++(a0k (la+lb) 0).drop (0+(limbs (val (xs.take h)*val (ys.take h))).length)):=⟨_,rfl⟩;rw[<-ag1]at e1 z1 f1 g1 Iw;rw[iA,au,a0F,Nat.pow_zero,Nat.one_mul]at e1;rw[a0m]at g1;rw[a0F,O9]at z1;have hZ2:∀t,2*h<=t->Xo.getD t 0=0:=λt ht=>z1 t (by omega)
 have e2:=FI (ys:=limbs (val (xs.drop h)*val (ys.drop h))) hZ2 (by rw[Wm,g1];omega);have f2:Wf _:=KQ (k:=2*h) f1 (eF (val (xs.drop h)*val (ys.drop h)));have g2:=FJ (zs:=Xo) (ys:=limbs (val (xs.drop h)*val (ys.drop h))) (k:=2*h) (by rw[Wm,g1];omega);have TD:=hid (xU Xo (limbs (val (xs.drop h)*val (ys.drop h))) (2*h));obtain⟨Xm,ag2⟩:∃Xm,Xm=Xo.take (2*h)++(limbs (val (xs.drop h)*val (ys.drop h))++Xo.drop (2*h+(limbs (val (xs.drop h)*val (ys.drop h))).length)):=⟨_,rfl⟩;rw[<-ag2]at e2 f2 g2 TD;rw[e1,au]at e2;rw[g1]at g2;obtain⟨cz,hcz⟩:∃cz,cz=cellsOf (a0k (la+lb) 0):=⟨_,rfl⟩;have ag3:Hid (cz.length=la+lb):=by show _=_;rw[hcz,bq,a0m]
 rw[<-hcz]at Z5 Iw;obtain⟨cl,hcl⟩:∃cl,cl=cellsOf (limbs (val (xs.take h)*val (ys.take h))):=⟨_,rfl⟩;have Zn:Hid (cl.length=lon):=by show _=_;rw[hcl,bq,O9]
 have ag4:Hid (0<cl.length->∃ad,lo0=some ad/\∀j v,cl[j]? =some v->v1.cell? (ad.add j)=some v):=by rw[hcl];exact λh0=>(SLO.out.below hb1).hpos h0
 have ag5:Hid (∀v∈cl,v.oneCell'=true):=by rw[hcl];exact iR _
 rw[<-hcl]at Iw;obtain⟨c1,hc1⟩:∃c1,c1=cellsOf Xo:=⟨_,rfl⟩;have ag6:Hid (c1.length=la+lb):=by show _=_;rw[hc1,bq,g1]
 rw[<-hc1]at Iw TD;obtain⟨ch,hch⟩:∃ch,ch=cellsOf (limbs (val (xs.drop h)*val (ys.drop h))):=⟨_,rfl⟩;have Zo:Hid (ch.length=hgn):=by show _=_;rw[hch,bq,Wm]
 have ag7:Hid (∀v2,Below w9.heap.size w9 v2->0<ch.length->∃ad,hg0=some ad/\∀j v,ch[j]? =some v->v2.cell? (ad.add j)=some v):=by rw[hch];exact λv2 hb h0=>(SHI.out.below hb).hpos h0
 have ag8:Hid (∀v∈ch,v.oneCell'=true):=by rw[hch];exact iR _
 rw[<-hch]at TD;have Px:=hid e2;have HF2:=hid f2;have HL2:=hid g2;have Xg:=oP;clear ag1 ag2 e1 e2 f1 f2 g1 g2 z1 hZ1 hZ2 O9 Wm hcz hcl hc1 hch hown1 hgrow1 oq
 go_wp2_with (first
  |((with_reducible refine wpList_copy_splice rfl (.tmp 62) (.tmp 63) 27 27 rfl 192 rfl Tryz.pR _ _ _ _ _ _ rfl rfl w9.heap.size 0 cz 192 Z5.out cl (by rw[Zn.out];exact(a0w (by omega)).symm) (λh=>⟨rfl,ag4.out h⟩) (by rw[Zn.out,ag3.out];omega) ag5.out w9.heap.size w9 hb1 (a0D _) ?_);intro v2 HG2 hb2;rw[Iw.out]at HG2;clear Z5 Zn ag4 ag5 ag3 Iw hb1)
  |((with_reducible refine wpList_copy_splice rfl (.tmp 68) (.tmp 69) 27 27 rfl 192 rfl Tryz.pR _ _ _ _ _ _ rfl rfl w9.heap.size (2*h) c1 192 HG2.out ch (by rw[Zo.out];exact(a0w (by omega)).symm) (λh=>⟨rfl,ag7.out _ hb2 h⟩) (by rw[Zo.out,ag6.out];omega) ag8.out w9.heap.size w9 hb2 (a0D _) ?_);intro v3 HG3 hb3;rw[TD.out]at HG3;clear HG2 Zo ag7 ag8 ag6 TD hb2))
 have Pq:Hid (Own w9.heap.size v3 (some ⟨w9.heap.size,0,none⟩) (la+lb) (la+lb) Xm):=Own.Ba (a0D _) HL2.out (by omega) HF2.out HG3.out;have TF:=hid (I5 w9 v3 w9.heap.size (la+lb) h Xm _ _ _ _ SMD.out hb3 Pq.out (a0D _) (by omega) (by rw[Px.out,au,HF.out.all];exact BM HF.out.la HF.out.lc));rw[Px.out,au,HF.out.all]at TF;clear HG3 Pq Px HF2 HL2;go_wp2_with fail;refine TF.out.mono ?_;rintro e v4 ⟨zs4,rfl,hO4,hb4,hv4⟩;have hbare:=BO _ _ _ _ _ _ hO4;rw[hv4]at hbare;have U0:=hid hbare;clear hbare hv4 TF hO4;go_wp2_with fail;refine U0.out.mono λe w' h=>?_
 obtain⟨ao,kk,cap,rfl,h3,rfl⟩:=h;go_wp2_with fail;go_ret;exact⟨_,_,_,rfl,h3.mono Xg.out.size,Below.steps Xg.out hb4⟩
end
/- The contract of times.Mul. -/
section
open Go.RowKit
theorem Pb (k V:Nat) (hk:2<=k) (hk2:k<=1000000) (Z7:BQ k V):BQ k (V+1):=by
 intro a0 b0 la ca lb cb xs ys w ha hb hV ra rb;have HIH:Hid (BQ k (val xs+val ys)):=λa0 b0 la ca lb cb xs' ys' w ha hb h ra rb=>Z7 a0 b0 la ca lb cb xs' ys' w ha hb (by omega) ra rb
 clear Z7;have HV:=Lib.hid hV;clear hV;go_enter Tryz.func184,Tryz.ntmps184;go_wp2_with fail;refine(pY _ _ _ _ _ ha).mono ?_;rintro e w' ⟨a1,n1,c1,rfl,hA,hn1,rfl⟩;go_wp2_with fail;refine(pY _ _ _ _ _ hb).mono ?_;rintro e w' ⟨b1,m1,d1,rfl,hB,hm1,rfl⟩;by_cases hlt:min n1 m1<k
 ·have d1:decide (min (n1:Int) (m1:Int)<(k:Int))=true:=by simp;omega
  go_wp2_with fail;have h:=TB _ _ _ _ _ _ _ _ _ hA hB (by omega) (by omega);rw[au,au]at h;refine h.mono ?_;rintro e w1 ⟨c0,cn,cc,rfl,hC,hb1⟩;go_wp2_with fail;go_ret;exact⟨_,_,_,rfl,hC,hb1⟩
 ·have d1:decide (min (n1:Int) (m1:Int)<(k:Int))=false:=by simp;omega
  go_wp2_with fail;refine(Wj k _ _ _ _ _ _ _ _ _ hA hB (by omega) (by omega) (by omega) (by omega) HIH.out).mono ?_;rintro e w1 ⟨c0,cn,cc,rfl,hC,hb1⟩;go_wp2_with fail;go_ret;exact⟨_,_,_,rfl,hC,hb1⟩
theorem Wn (k:Nat) (hk:2<=k) (hk2:k<=1000000) (V:Nat):BQ k V:=by
 induction V with
 |zero=>intro a0 b0 la ca lb cb xs ys w ha hb hV;omega
 |succ V ih=>exact Pb k V hk hk2 ih
theorem TG (k:Nat) (hk:2<=k) (hk2:k<=1000000) (a0 b0:Option Addr) (la ca lb cb:Nat) (xs ys:List Nat) (w:World) (ha:Sl w a0 la ca xs) (hb:Sl w b0 lb cb ys) (ra:la<=1000000000000) (rb:lb<=1000000000000):
  Calls Tryz.prog 184 #[.int .i64 (k:Int),a0a a0 la ca,a0a b0 lb cb] w (gP w (limbs (val xs*val ys))):=
 Wn k hk hk2 (val xs+val ys+1) a0 b0 la ca lb cb xs ys w ha hb (by omega) ra rb
theorem tY (a0 b0:Option Addr) (la ca lb cb:Nat) (xs ys:List Nat) (w:World) (ha:Sl w a0 la ca xs) (hb:Sl w b0 lb cb ys) (ra:la<=1000000000000) (rb:lb<=1000000000000):
  Calls Tryz.prog 133 #[a0a a0 la ca,a0a b0 lb cb] w (gP w (limbs (val xs*val ys))):=by
 go_enter Tryz.func133,Tryz.ntmps133;go_wp2_with fail;refine(TG 24 (by omega) (by omega) _ _ _ _ _ _ _ _ _ ha hb ra rb).mono ?_;rintro e w1 ⟨c0,cn,cc,rfl,hC,hb1⟩;go_wp2_with fail;go_ret;exact⟨_,_,_,rfl,hC,hb1⟩
end
end Go.Proofs.YtmenbpmciblnlaaGreatDoor

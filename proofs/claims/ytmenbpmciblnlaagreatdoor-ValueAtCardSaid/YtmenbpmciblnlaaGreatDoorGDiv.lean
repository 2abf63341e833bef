/- DPlain, Div32, DBare, DRow, DGuess, DTake, DPut, DTold, DLong, DLimb, DDiv -/
import Derived.Test.YtmenbpmciblnlaaGreatDoorGTimes
set_option maxHeartbeats 0
set_option maxRecDepth 100000
open Go.Lib renaming bitLen->a0b,hid->a0a
open Go.Value renaming slice->a0c
open List renaming drop_eq_nil_of_le->a0o,drop_zero->a0p,getD->a0e,length_replicate->a0m,length_set->a0k,length_take->a0f,mem_replicate->a0n,replicate->a0l,set_append_right->a0i,take_add->a0h,take_append_drop->a0j,take_left'->a0g,take_of_length_le->a0d
open Nat renaming add_assoc->a0H,add_mul->a0x,add_mul_mod_self_left->a0O,add_sub_cancel->a0z,add_zero->a0S,div_add_mod->a0u,div_eq_of_lt->a0R,div_lt_iff_lt_mul->a0T,eq_zero_or_pos->a0I,le_refl->a0W,le_trans->a0C,lt_of_lt_of_le->a0D,lt_or_ge->a0B,mod_eq_of_lt->a0K,mod_lt->a0v,mul_add->a0q,mul_add_mod->a0J,mul_assoc->a0t,mul_comm->a0w,mul_le_mul->a0E,mul_le_mul_left->a0y,mul_le_mul_right->a0A,mul_left_comm->a0s,mul_lt_mul_of_pos_right->a0M,mul_one->a0r,pow_add->a0L,pow_le_pow_right->a0G,pow_succ->a0F,pow_zero->a0Q,two_pow_pos->a0N,zero_add->a0P,zero_le->a0U,zero_mul->a0V
/- Plain lemmas for layer 3: the guess of a limb, a row less a multiple of the divisor, the divisor put back. -/
namespace Go.Proofs.YtmenbpmciblnlaaGreatDoor
section
structure dU (r V P v1 v2 u0 u1 u2 vl rl:Nat):Prop where
 ev:V=P*(v1*4294967296+v2)+vl
 vlt:vl<P
 er:r=P*((u0*4294967296+u1)*4294967296+u2)+rl
 rlt:rl<P
 lt:r<4294967296*V
 top:2147483648<=v1
 bv1:v1<4294967296
 bv2:v2<4294967296
 bu0:u0<4294967296
 bu1:u1<4294967296
 bu2:u2<4294967296
structure kJ (r V v1 W g s:Nat):Prop where
 sum:g*v1+s=W
 low:r<(g+1)*V
theorem dU.Mf {r V P v1 v2 u0 u1 u2 vl rl:Nat} (h:dU r V P v1 v2 u0 u1 u2 vl rl):r<P*((u0*4294967296+u1)*4294967296+u2+1):=by
 rw[h.er,a0q P _ 1,a0r];have:=h.rlt;omega
theorem dU.Sn {r V P v1 v2 u0 u1 u2 vl rl:Nat} (h:dU r V P v1 v2 u0 u1 u2 vl rl) (g:Nat):P*(g*v1*4294967296+g*v2)<=g*V:=by
 rw[h.ev,a0q g,a0s g P,a0q g,<-a0t g v1];omega
theorem dU.start {r V P v1 v2 u0 u1 u2 vl rl:Nat} (h:dU r V P v1 v2 u0 u1 u2 vl rl):kJ r V v1 (u0*4294967296+u1) ((u0*4294967296+u1)/v1) ((u0*4294967296+u1)%v1):=by
 have ht:=h.top;generalize hW:u0*4294967296+u1=W;have hd:=a0u W v1;have hm:=a0v W (show 0<v1 by omega);refine⟨by rw[a0w];exact hd,?_⟩;have h1:=h.Mf;rw[hW]at h1;have h2:=h.Sn (W/v1+1);have h3:W+1<=(W/v1+1)*v1:=by rw[a0x,a0w (W/v1)];omega
 have h4:P*(W*4294967296+u2+1)<=P*((W/v1+1)*v1*4294967296+(W/v1+1)*v2):=by
  refine a0y _ ?_;have:=h.bu2;omega
 omega
theorem dU.Oz {r V P v1 v2 u0 u1 u2 vl rl g s W:Nat} (h:dU r V P v1 v2 u0 u1 u2 vl rl) (hI:kJ r V v1 W g s) (hg:4294967295<g):kJ r V v1 W (g-1) (s+v1):=by
 obtain⟨k,rfl⟩:∃k,g=k+1:=⟨g-1,by omega⟩;refine⟨?_,?_⟩
 ·have:=hI.sum;rw[a0x]at this;rw[a0z];omega
 ·have h1:=h.lt;rw[a0z];have h2:4294967296*V<=(k+1)*V:=a0A _ (by omega);omega
theorem dU.step_third {r V P v1 v2 u0 u1 u2 vl rl g s:Nat} (h:dU r V P v1 v2 u0 u1 u2 vl rl) (hI:kJ r V v1 (u0*4294967296+u1) g s) (hg:s*4294967296+u2<g*v2):kJ r V v1 (u0*4294967296+u1) (g-1) (s+v1):=by
 have hg0:g≠0:=by rintro rfl;simp at hg
 have h1:=h.Mf;have h2:=h.Sn g;have h3:=hI.sum
 have h4:P*((u0*4294967296+u1)*4294967296+u2+1)<=P*(g*v1*4294967296+g*v2):=by
  refine a0y _ ?_;rw[<-h3];omega
 obtain⟨k,rfl⟩:∃k,g=k+1:=⟨g-1,by omega⟩;refine⟨?_,?_⟩
 ·rw[a0x]at h3;rw[a0z];omega
 ·rw[a0z];omega
theorem dU.af0 {r V P v1 v2 u0 u1 u2 vl rl:Nat} (h:dU r V P v1 v2 u0 u1 u2 vl rl):u0<=v1:=by
 rcases a0B v1 u0 with hlt|hge
 ·exfalso
  have h1:=h.lt
  have h2:V<P*(v1*4294967296+v2+1):=by
   rw[h.ev,a0q P _ 1,a0r];have:=h.vlt;omega
  have h3:P*(v1*4294967296+v2+1)<=P*(u0*4294967296):=a0y _ (by have:=h.bv2;omega)
  have h4:P*(u0*4294967296)*4294967296<=r:=by
   rw[h.er,a0t P (u0*4294967296) 4294967296];have:P*(u0*4294967296*4294967296)<=P*((u0*4294967296+u1)*4294967296+u2):=a0y _ (by omega);exact a0C this (Nat.le_add_right _ _)
  have h5:V<P*(u0*4294967296):=a0D h2 h3;generalize P*(u0*4294967296)=Y at h4 h5;clear h2 h3;omega
 ·exact hge
theorem dU.done {r V P v1 v2 u0 u1 u2 vl rl g s:Nat} (h:dU r V P v1 v2 u0 u1 u2 vl rl) (hI:kJ r V v1 (u0*4294967296+u1) g s) (hg:g<4294967296) (h3:g*v2<=s*4294967296+u2):g*V<r+V:=by
 have h1:=hI.sum;have h2:P*(g*v1*4294967296+g*v2)<=P*((u0*4294967296+u1)*4294967296+u2):=a0y _ (by omega)
 have e:g*V=P*(g*v1*4294967296+g*v2)+g*vl:=by
  rw[h.ev,a0q g,a0s g P,a0q g,<-a0t g v1]
 have h4:g*vl<=4294967295*P:=a0E (by omega) (Nat.le_of_lt h.vlt);have h5:P*(1*4294967296)<=P*(v1*4294967296+v2):=a0y _ (by have:=h.top;omega);have h6:=h.ev;have h7:=h.er;have h8:=h.vlt;omega
theorem dU.OA {r V P v1 v2 u0 u1 u2 vl rl g s:Nat} (h:dU r V P v1 v2 u0 u1 u2 vl rl) (hI:kJ r V v1 (u0*4294967296+u1) g s) (hs:4294967296<=s):g<4294967296/\ g*v2<=s*4294967296+u2:=by
 have h0:=h.af0;have h1:=hI.sum
 have hg:g<4294967296:=by
  rcases a0B g 4294967296 with hlt|hge
  ·exact hlt
  ·exfalso
   have h2:4294967296*v1<=g*v1:=a0A _ hge;have h3:=h.bu1;have h4:u0*4294967296<=v1*4294967296:=a0A _ h0;omega
 refine⟨hg,?_⟩;have h2:g*v2<=4294967295*4294967295:=a0E (by omega) (by have:=h.bv2;omega);omega
theorem Sq {R:List Nat} {n:Nat} (hl:R.length=n+3):val R=4294967296^n*((R.getD (n+2) 0*4294967296+R.getD (n+1) 0)*4294967296+R.getD n 0)+val (R.take n):=by
 have e0:R=R.take (n+3):=by rw[a0d (by omega)]
 have h1:=bE R (n+2) (by omega);have h2:=bE R (n+1) (by omega);have h3:=bE R n (by omega);rw[<-e0,h2,h3]at h1;have p1:(4294967296:Nat)^(n+1)=4294967296^n*4294967296:=a0F _ _;have p2:(4294967296:Nat)^(n+2)=4294967296^n*4294967296*4294967296:=by rw[<-p1];exact a0F _ _
 rw[p1,p2]at h1;rw[h1];generalize (4294967296:Nat)^n=P;generalize R.getD (n+2) 0=x;generalize R.getD (n+1) 0=y;generalize R.getD n 0=z;generalize val (R.take n)=u;rw[a0q,a0x,a0q];have a1:P*4294967296*y=P*(y*4294967296):=by ac_rfl
 have a2:P*4294967296*4294967296*x=P*(x*4294967296*4294967296):=by ac_rfl
 omega
theorem Sr {R:List Nat} {n:Nat} (hl:R.length=n+2):val R=4294967296^n*(R.getD (n+1) 0*4294967296+R.getD n 0)+val (R.take n):=by
 have e0:R=R.take (n+2):=by rw[a0d (by omega)]
 have h2:=bE R (n+1) (by omega);have h3:=bE R n (by omega);rw[<-e0,h3,a0F]at h2;rw[h2,a0q];have a1:4294967296^n*4294967296*R.getD (n+1) 0=4294967296^n*(R.getD (n+1) 0*4294967296):=by rw[a0t,a0w 4294967296 (R.getD _ _)]
 omega
theorem gL {R:List Nat} (h:Wf R) (t:Nat):R.getD t 0<4294967296:=by
 by_cases ht:t<R.length
 ·simp only[a0e,List.getElem?_eq_getElem ht,Option.getD_some];exact h _ (List.getElem_mem ht)
 ·simp[a0e,List.getElem?_eq_none (by omega:R.length<=t)]
theorem jF {xs:List Nat} (h:Wf xs) (n:Nat):val (xs.take n)<4294967296^n:=by
 have h1:=eG _ (h.take n);refine a0D h1 (a0G (by omega) ?_);rw[a0f];omega
theorem Iq {R D:List Nat} {n:Nat} (hR:Wf R) (hD:Wf D) (lR:R.length=n+3) (lD:D.length=n+2) (ht:2147483648<=D.getD (n+1) 0) (hlt:val R<4294967296*val D):
  dU (val R) (val D) (4294967296^n) (D.getD (n+1) 0) (D.getD n 0) (R.getD (n+2) 0) (R.getD (n+1) 0) (R.getD n 0) (val (D.take n)) (val (R.take n)):=
 ⟨Sr lD,jF hD n,Sq lR,jF hR n,hlt,ht,gL hD _,gL hD _,gL hR _,gL hR _,gL hR _⟩
def wT (R D:List Nat) (S m k c b:Nat):Prop:=∃T,val R+T=S+4294967296^k*b/\ T+4294967296^k*c=val (D.take k)*m
theorem KM (R D:List Nat) (m:Nat):wT R D (val R) m 0 0 0:=⟨0,by simp,by simp[val]⟩
theorem OB {R D:List Nat} {S m k c b:Nat} (h:wT R D S m k c b) (hR:Wf R) (hk:k<R.length) (hd:k<D.length) (hb:b<=1):
  wT (R.set k (jG (R.getD k 0) ((c+D.getD k 0*m)%4294967296) b)) D S m (k+1) ((c+D.getD k 0*m)/4294967296) (jM (R.getD k 0) ((c+D.getD k 0*m)%4294967296) b):=by
 obtain⟨T,h1,h2⟩:=h;refine⟨T+4294967296^k*((c+D.getD k 0*m)%4294967296),sw hk (gL hR k) (a0v _ (by omega)) hb h1,?_⟩;rw[bE D k hd,a0x,<-h2,a0F,a0t (4294967296^k) 4294967296,a0t (4294967296^k) (D.getD k 0),a0H,<-a0q,a0H,<-a0q]
 congr 2
 omega
theorem OC {R D:List Nat} {S m n c b:Nat} (h:wT R D S m n c b) (hR:Wf R) (hk:n<R.length) (hD:D.length=n) (hb:b<=1) (hc:c<4294967296):
  val (R.set n (jG (R.getD n 0) c b))+val D*m=S+4294967296^(n+1)*jM (R.getD n 0) c b:=by
 obtain⟨T,h1,h2⟩:=h;rw[a0d (by omega)]at h2;have:=sw hk (gL hR n) hc hb h1;rw[<-h2];exact this
theorem OD {r V q s n:Nat} (h:s+V*q=r) (hlow:r<(q+1)*V) (hV:V<4294967296^n):s<V/\ s<4294967296^n:=by
 rw[a0x,a0w q]at hlow;omega
theorem Sv {r V q s c t n:Nat} (h:s+V*q=r+4294967296^(n+1)) (hs:s<4294967296^(n+1)) (hup:q*V<r+V) (hV:V<4294967296^n) (hput:t+4294967296^n*c=s%4294967296^n+V) (hc:c<=1) (ht:t<4294967296^n):
  0<q/\ t+V*(q-1)=r/\ t<V:=by
 have hq:0<q:=by
  rcases a0I q with h0|h0
  ·rw[h0]at h;omega
  ·exact h0
 obtain⟨k,rfl⟩:∃k,q=k+1:=⟨q-1,by omega⟩;rw[a0z];rw[a0w V,a0x]at h;rw[a0x]at hup;rw[a0w V k];rw[a0F]at h hs;generalize 4294967296^n=P at*
 generalize k*V=K at*
 obtain⟨u,hu⟩:∃u,u=s-P*4294967295:=⟨_,rfl⟩;have e1:s=P*4294967295+u:=by omega
 have e2:s%P=u:=by
  rw[e1,a0J,a0K];omega
 rw[e2]at hput;rcases a0B c 1 with h1|h1
 ·obtain rfl:c=0:=by omega
  omega
 ·obtain rfl:c=1:=by omega
  omega
structure qI (A V n j:Nat) (zs:List Nat):Prop where
 sum:val (zs.drop (j+n))*V*4294967296^j+val (zs.take (j+n))=A
 lt:val (zs.take (j+n))<V*4294967296^j
theorem KN {A V n m:Nat} {zs:List Nat} (hl:zs.length=m+1) (hv:val zs=A) (hn:n<=m) (hlt:A<V*4294967296^(m-n+1)):qI A V n (m-n+1) zs:=by
 have e:m-n+1+n=m+1:=by omega
 refine⟨?_,?_⟩
 ·rw[e,List.drop_of_length_le (by omega),a0d (by omega),hv];simp[val]
 ·rw[e,a0d (by omega),hv];exact hlt
theorem OE {A V n i q r:Nat} {zs R':List Nat} (h:qI A V n (i+1) zs) (hw:Wf zs) (hn:i+n+1<=zs.length) (hR:R'.length=n) (hr:val R'=r) (hq:r+V*q=val ((zs.drop i).take (n+1))) (hlt:r<V):
  qI A V n i (zs.take i++((R'++[q])++zs.drop (i+(n+1)))):=by
 have li:(zs.take i).length=i:=by rw[a0f];omega
 have e0:zs.take i++((R'++[q])++zs.drop (i+(n+1)))=(zs.take i++R')++(q::zs.drop (i+(n+1))):=by simp
 have l2:(zs.take i++R').length=i+n:=by rw[List.length_append,li,hR]
 have e1:(zs.take i++((R'++[q])++zs.drop (i+(n+1)))).take (i+n)=zs.take i++R':=by rw[e0,a0g l2]
 have e2:(zs.take i++((R'++[q])++zs.drop (i+(n+1)))).drop (i+n)=q::zs.drop (i+(n+1)):=by rw[e0,List.drop_left' l2]
 have e3:zs.take (i+1+n)=zs.take i++(zs.drop i).take (n+1):=by
  rw[show i+1+n=i+(n+1)from by omega,a0h]
 have h1:=h.sum;have h2:=h.lt;rw[e3,val_append,li]at h1 h2;rw[show i+1+n=i+(n+1)from by omega]at h1;have hlow:val (zs.take i)<4294967296^i:=by have:=eG _ (hw.take i);rwa[li]at this
 refine⟨?_,?_⟩
 ·rw[e1,e2,val_append,li,bB,hr,<-h1,<-hq,a0F,a0q,a0x,a0x];generalize val (zs.drop (i+(n+1)))=H;generalize 4294967296^i=P;have a1:4294967296*H*V*P=H*V*(P*4294967296):=by ac_rfl
  have a2:q*V*P=P*(V*q):=by ac_rfl
  omega
 ·rw[e1,val_append,li,hr,a0w V];have:4294967296^i*(r+1)<=4294967296^i*V:=a0y _ hlt;rw[a0q]at this;omega
theorem Sw {A V n i:Nat} {zs:List Nat} (h:qI A V n (i+1) zs) (hn:i+n+1<=zs.length):val ((zs.drop i).take (n+1))<4294967296*V:=by
 have li:(zs.take i).length=i:=by rw[a0f];omega
 have h2:=h.lt;rw[show i+1+n=i+(n+1)from by omega,a0h,val_append,li,a0F]at h2
 have h3:4294967296^i*val ((zs.drop i).take (n+1))<4294967296^i*(4294967296*V):=by
  have:V*(4294967296^i*4294967296)=4294967296^i*(4294967296*V):=by ac_rfl
  omega
 exact Nat.lt_of_mul_lt_mul_left h3
theorem VH {V j:Nat} (h1:4294967296^j*2147483648<=V) (h2:V<4294967296^(j+1)):(limbs V).length=j+1/\ 2147483648<=(limbs V).getD j 0:=by
 have hl:=sD h2;have hv:=eG (limbs V) (eF V);rw[au]at hv
 have hlen:(limbs V).length=j+1:=by
  rcases a0B j (limbs V).length with h|h
  ·omega
  ·have h3:4294967296^(limbs V).length<=4294967296^j:=a0G (by omega) h;omega
 refine⟨hlen,?_⟩;have ht:=bE (limbs V) j (by omega);rw[dz _ _ hlen,au]at ht;have hlow:=jF (eF V) j;rcases a0B ((limbs V).getD j 0) 2147483648 with h|h
 ·have h3:4294967296^j*((limbs V).getD j 0+1)<=4294967296^j*2147483648:=a0y _ h;rw[a0q,a0r]at h3;omega
 ·exact h
theorem OG {C j s:Nat} (hl:(limbs C).length=j+1) (h1:2147483648<=(limbs C).getD j 0*2^s) (h2:(limbs C).getD j 0*2^s<4294967296) (hs:s<32):
  4294967296^j*2147483648<=C*2^s/\ C*2^s<4294967296^(j+1):=by
 have ht:=bE (limbs C) j (by omega);rw[dz _ _ hl,au]at ht;have hlow:=jF (eF C) j;generalize (limbs C).getD j 0=x at*
 generalize val ((limbs C).take j)=l at*
 have e:(4294967296:Nat)=2^(32-s)*2^s:=by rw[<-a0L,show 32-s+s=32 from by omega]
 have hx:x+1<=2^(32-s):=by
  have h3:x*2^s<2^(32-s)*2^s:=by rw[<-e];exact h2
  exact Nat.lt_of_mul_lt_mul_right h3
 constructor
 ·have h4:=a0y (4294967296^j) h1;rw[<-a0t]at h4;have h5:4294967296^j*x*2^s<=C*2^s:=a0A _ (by omega);exact a0C h4 h5
 ·have h4:C<4294967296^j*(x+1):=by rw[a0q,a0r];omega
  have h5:4294967296^j*(x+1)<=4294967296^j*2^(32-s):=a0y _ hx;have h6:C*2^s<4294967296^j*2^(32-s)*2^s:=a0M (a0D h4 h5) (a0N s);rw[a0F]
  calc C*2^s<4294967296^j*2^(32-s)*2^s:=h6
   _=4294967296^j*4294967296:=by rw[a0t,<-e]
theorem OH {A V s n m:Nat} (hA:A<4294967296^m) (hV:4294967296^(n-1)*2147483648<=V) (hs:s<32) (hn:1<=n) (hm:n<=m):A*2^s<V*4294967296^(m-n+1)/\ A*2^s<4294967296^(m+1):=by
 have h1:2^s<=2^31:=a0G (by omega) (by omega);have h2:A*2^s<4294967296^m*2^31:=a0D (a0M hA (a0N s)) (a0y _ h1);have h3:=a0A (4294967296^(m-n+1)) hV;have e:(4294967296:Nat)^m=4294967296^(n-1)*4294967296^(m-n+1):=by rw[<-a0L];congr 1;omega
 have e2:4294967296^(n-1)*2147483648*4294967296^(m-n+1)=4294967296^m*2147483648:=by rw[e];ac_rfl
 rw[e2]at h3;have e3:(4294967296:Nat)^(m+1)=4294967296^m*4294967296:=a0F _ _;have e4:(2:Nat)^31=2147483648:=by decide
 rw[e4]at h2;rw[e3];clear e e2 e3 e4 h1 hV hA;generalize 4294967296^m=P at*
 generalize A*2^s=X at*
 exact⟨a0D h2 h3,a0D h2 (a0y _ (by omega))⟩
theorem BB {R:List Nat} {n:Nat} (hl:R.length=n+1) (h:val R<4294967296^n):val (R.take n)=val R:=by
 have ht:=bE R n (by omega);rw[dz _ _ hl]at ht;rcases a0I (R.getD n 0)with h0|h0
 ·rw[h0]at ht;omega
 ·have:4294967296^n*1<=4294967296^n*R.getD n 0:=a0y _ h0;omega
theorem Sy {R:List Nat} {n q:Nat} (hl:R.length=n+1):R.set n q=R.take n++[q]:=by
 have e:R=R.take n++[R.getD n 0]:=by rw[<-dw R n (by omega),dz _ _ hl]
 have l:(R.take n).length=n:=by rw[a0f];omega
 rw[e,a0i _ _ (by omega),l,Nat.sub_self,a0g l];rfl
theorem VI {R R':List Nat} {n c V:Nat} (hl:R.length=n+1) (hl':R'.length=n+1) (h:val R'+4294967296^n*c=val R+V) (ht:R'.getD n 0=R.getD n 0) (hR:Wf R):
  val (R'.take n)+4294967296^n*c=val R%4294967296^n+V:=by
 have h1:=bE R n (by omega);have h2:=bE R' n (by omega);rw[dz _ _ hl]at h1;rw[dz _ _ hl',ht]at h2;have h3:=jF hR n
 have h4:val R%4294967296^n=val (R.take n):=by
  rw[h1,a0O,a0K h3]
 rw[h4];omega
theorem Sz {a b p n:Nat} {zs:List Nat} (hp:0<p) (hb:0<b) (h:qI (a*p) (b*p) n 0 zs):val (zs.drop n)=a/b/\ val (zs.take n)/p=a%b:=by
 have h1:=h.sum;have h2:=h.lt;rw[a0P,a0Q,a0r]at h1 h2;generalize val (zs.drop n)=Q at*
 generalize val (zs.take n)=S at*
 have hbp:0<b*p:=Nat.mul_pos hb hp
 have e1:a*p/(b*p)=Q:=by
  rw[<-h1,a0w Q,Nat.mul_add_div hbp,a0R h2,a0S]
 have e2:a*p%(b*p)=S:=by
  rw[<-h1,a0w Q,a0J,a0K h2]
 rw[Nat.mul_div_mul_right _ _ hp]at e1;rw[Nat.mul_mod_mul_right]at e2;refine⟨e1.symm,?_⟩;rw[<-e2,Nat.mul_div_cancel _ hp]
end
/- The contracts of math/bits.Div32 and math/bits.LeadingZeros32. -/
section
open Go.RowKit
theorem FE (a b:Nat) (ha:a<4294967296) (hb:b<4294967296):bits BinOp.or IntKind.u64 (((a:Nat):Int)*4294967296) ((b:Nat):Int)=((a*4294967296+b:Nat):Int):=by
 have h:=Mg b a 32 (by omega) (by omega);rw[show((2^32*a:Nat):Int)=((a:Nat):Int)*4294967296 from by omega]at h;rw[h]
 congr 1
 omega
theorem Mh (a b:Nat):((a:Nat):Int).tdiv ((b:Nat):Int)=((a/b:Nat):Int):=rfl
theorem Mi (a b:Nat):((a:Nat):Int).tmod ((b:Nat):Int)=((a%b:Nat):Int):=rfl
theorem Dw (h l y:Nat) (w:World) (hh:h<y) (hl:l<4294967296) (hy:y<4294967296):
  Calls Tryz.prog 241 #[.int .u32 (h:Int),.int .u32 (l:Int),.int .u32 (y:Int)] w (lM (.tuple #[.int .u32 (((h*4294967296+l)/y:Nat):Int),.int .u32 (((h*4294967296+l)%y:Nat):Int)]) w):=by
 have hy0:(((y:Nat):Int) !=0)=true:=by simp;omega
 have hlt:decide (((y:Nat):Int)<=((h:Nat):Int))=false:=by simp;omega
 have hq:(h*4294967296+l)/y<4294967296:=by
  rw[a0T (by omega)];have:(h+1)*4294967296<=y*4294967296:=a0A _ hh;omega
 have hr:(h*4294967296+l)%y<y:=a0v _ (by omega);have HO:=a0a (FE h l (by omega) hl);obtain⟨Q,hQ⟩:∃Q,Q=(h*4294967296+l)/y:=⟨_,rfl⟩;obtain⟨R,hR⟩:∃R,R=(h*4294967296+l)%y:=⟨_,rfl⟩;rw[<-hQ]at hq ⊢;rw[<-hR]at hr ⊢;have hrl:R<4294967296:=by omega
 have HQ:=a0a hQ;have HR:=a0a hR;clear hQ hR hr;go_enter Tryz.func241,Tryz.ntmps241;go_wp2;go_quiet (fail);go_wp2;go_ret2;refine⟨A8 ?_ ?_,_,rfl⟩
 ·rw[HO.out,Mh,<-HQ.out,wrap_u64 _ (by omega)];omega
 ·rw[HO.out,Mi,<-HR.out];omega
def lead (x:Nat):Nat:=32-nbits x
theorem SA (x:Nat) (w:World) (hx:x<4294967296):
  Calls Tryz.prog 253 #[.int .u32 (x:Int)] w λe w'=>e= .returned (.int .i64 (lead x:Nat))/\ w'=w:=by
 have HL:Hid (a0b x=nbits x):=wU x hx;have hbl:a0b x<=32:=by rw[HL.out];exact wV (by omega)
 go_enter Tryz.func253,Tryz.ntmps253;go_wp2_with (go_at_call 191;refine(DZ _ _ (by omega) (by omega)).mono ?_;rintro e w' ⟨rfl,rfl⟩;rw[Int.toNat_natCast]);go_ret;refine⟨fZ ?_,rfl⟩;unfold lead;rw[HL.out]at hbl ⊢;omega
theorem SB {x:Nat} (hx:x<4294967296) (h0:x≠0):lead x<32/\ 2147483648<=x*2^lead x/\ x*2^lead x<4294967296:=by
 obtain⟨k,e,h1,h2⟩:=uf h0;have h3:nbits x<=32:=wV (by omega);unfold lead;rw[e];have hk:k<=31:=by omega
 refine⟨by omega,?_,?_⟩
 ·have:=a0A (2^(32-(k+1))) h1;rw[<-a0L,show k+(32-(k+1))=31 from by omega]at this;omega
 ·have:=a0M h2 (a0N (32-(k+1)));rw[<-a0L,show k+1+(32-(k+1))=32 from by omega]at this;omega
end
/- The contract of divide.bare. -/
section
open Go.RowKit
theorem mR (ao:Option Addr) (n cap:Nat) (xs:List Nat) (w:World) (hs:Sl w ao n cap xs):
  Calls Tryz.prog 234 #[a0c ao n cap] w (SC w (limbs (val xs)) n):=by
 have hle:=hs.le;have hbig:=hs.big;have hnl:nl xs<=n:=by have:=iP xs;rw[hs.len]at this;exact this
 have HT:Hid (limbs (val xs)=xs.take (nl xs)):=by show _=_;rw[<-di xs hs.wf,dA]
 have hup:=wF hs.wf;obtain⟨b,hb⟩:∃b,b=nbits (val xs):=⟨_,rfl⟩;obtain⟨m,hm⟩:∃m,m=nl xs:=⟨_,rfl⟩;rw[<-hb,<-hm]at hup;rw[<-hm]at HT hnl;have HB:=a0a hb;have hbl:b<=32*m:=by omega
 have hdv:(((b:Nat):Int)+32-1)/32=((m:Nat):Int):=by omega
 have HM:=a0a hm;clear hb hup hm;go_enter Tryz.func234,Tryz.ntmps234;by_cases h0:m=0
 ·subst h0;go_wp2_with fail;refine(iC b _ _ _ _ _ hs HB.out.symm).mono ?_;rintro e w' ⟨rfl,rfl⟩;go_wp2_with fail;go_ret;exact⟨_,_,_,rfl,by rw[HT.out];exact Sl.none _,a0U _,rfl⟩
 ·have hb0:(((m:Nat):Int)==0)=false:=by simp;omega
  go_wp2_with fail;refine(iC b _ _ _ _ _ hs HB.out.symm).mono ?_;rintro e w' ⟨rfl,rfl⟩;go_wp2_with fail;go_ret;exact⟨_,_,_,rfl,by rw[HT.out];exact hs.take m hnl,hnl,rfl⟩
end
/- A row in the middle of limbs that are the call's own. -/
section
open Go.RowKit
structure gM (w0:World) (g N i:Nat) (L R H:List Nat) (w:World):Prop where
 own:Own w0.heap.size w (some ⟨g,0,none⟩) N N (L++(R++H))
 below:Below w0.heap.size w0 w
 len:L.length=i
 base:w0.heap.size<=g
theorem gM.fits {w0:World} {g N i:Nat} {L R H:List Nat} {w:World} (h:gM w0 g N i L R H w):i+R.length<=N:=by
 have h1:=h.own.len;have h2:=h.len;simp at h1;omega
theorem gM.wf {w0:World} {g N i:Nat} {L R H:List Nat} {w:World} (h:gM w0 g N i L R H w):Wf R:=λx hx=>h.own.wf x (by simp[hx])
theorem gM.cell {w0:World} {g N i:Nat} {L R H:List Nat} {w:World} (h:gM w0 g N i L R H w) (k:Nat) (hk:k<R.length):w.cell? ⟨g,i+k,none⟩=some (.int .u32 (R.getD k 0:Nat)):=by
 have h1:=h.own.cell (i+k) (by have:=h.fits;omega);rw[h1]
 congr 3
 have h2:=h.len;simp only[a0e];rw[List.getElem?_append_right (by omega),List.getElem?_append_left (by omega),h2,show i+k-i=k from by omega]
theorem gM.frozen {w0:World} {g N i:Nat} {L R H:List Nat} {w:World} (h:gM w0 g N i L R H w) (k:Nat):w.frozen? ⟨g,k,none⟩=false:=h.own.frozen k
theorem gM.set {w0:World} {g N i:Nat} {L R H:List Nat} {w:World} (h:gM w0 g N i L R H w) (k x:Nat) (hk:k<R.length) (hx:x<4294967296):gM w0 g N i L (R.set k x) H (w.setCell ⟨g,i+k,none⟩ (.int .u32 ((x:Nat):Int))):=by
 refine⟨?_,h.below.setCell h.base _,h.len,h.base⟩;have h1:=h.own.set (i+k) x hx;rw[a0i _ _ (by rw[h.len];omega),h.len,show i+k-i=k from by omega,List.set_append_left _ _ hk]at h1;exact h1
theorem gM.drewN {w0:World} {g N i:Nat} {L R H:List Nat} {w:World} (h:gM w0 g N i L R H w) (q:Nat):gM w0 g N i L R H (w.drewN q):=
 ⟨h.own.drewN q,h.below.trans ((below_drewN _ _ _)),h.len,h.base⟩
theorem gM.drew {w0:World} {g N i:Nat} {L R H:List Nat} {w:World} (h:gM w0 g N i L R H w):gM w0 g N i L R H w.drew:=
 ⟨h.own.drew,h.below.drew,h.len,h.base⟩
theorem gM.sl {w0:World} {g N i n cap:Nat} {L R H:List Nat} {w:World} (h:gM w0 g N i L R H w) (hn:R.length=n) (hc:n<=cap):Sl w (some ⟨g,i,none⟩) n cap R:=
 Sl.of_cells hn hc (by have:=h.fits;have:=h.own.big;omega) h.wf λt ht=>h.cell t (by omega)
theorem gM.of {w0:World} {g N i n:Nat} {zs:List Nat} {w:World} (hO:Own w0.heap.size w (some ⟨g,0,none⟩) N N zs) (hB:Below w0.heap.size w0 w) (hg:w0.heap.size<=g) (hn:i+n<=N):
  gM w0 g N i (zs.take i) ((zs.drop i).take n) (zs.drop (i+n)) w:=by
 have hl:=hO.len;refine⟨?_,hB,by rw[a0f];omega,hg⟩;have e:zs.drop (i+n)=(zs.drop i).drop n:=by rw[List.drop_drop]
 rw[e,a0j,a0j];exact hO
end
/- The contract of divide.guess: the limb, or the one above it. -/
section
open Lib (hid)
open Go.RowKit
def SE (r V:Nat) (w:World) (e:Ending) (w':World):Prop:=
 ∃g q:Nat,e= .returned (.int .u32 (g:Int))/\ g<4294967296/\ r<(g+1)*V/\ g*V<r+V/\ w'=w.drewN q
theorem OI (b off af2:Nat) (d off2 af3:Nat) (lr ld:Nat) (R D:List Nat) (w:World) (hR:Sl w (some ⟨b,off,none⟩) lr af2 R) (hD:Sl w (some ⟨d,off2,none⟩) ld af3 D) (hl:lr=ld+1) (h2:2<=ld) (ht:2147483648<=D.getD (ld-1) 0) (hlt:val R<4294967296*val D):
  Calls Tryz.prog 255 #[a0c (some ⟨b,off,none⟩) lr af2,a0c (some ⟨d,off2,none⟩) ld af3] w (SE (val R) (val D) w):=by
 have hbig:=hR.big;have hbc:=hR.le;have hdc:=hD.le;obtain⟨n,hn⟩:∃n,ld=n+2:=⟨ld-2,by omega⟩;obtain⟨j,hj⟩:∃j,j=n+1:=⟨_,rfl⟩;have i1:((ld:Nat):Int)-1=((j:Nat):Int):=by omega
 have i2:((ld:Nat):Int)-2=((n:Nat):Int):=by omega
 have i3:j<ld:=by omega
 have i4:n<ld:=by omega
 rw[show ld-1=n+1 from by omega]at ht;have HF:=hid (Iq hR.wf hD.wf (n:=n) (by rw[hR.len];omega) (by rw[hD.len];omega) ht hlt);have c0:=hR.cells _ rfl ld (by omega);have c1:=hR.cells _ rfl j (by omega);have c2:=hR.cells _ rfl n (by omega);have e1:=hD.cells _ rfl j (by omega);have e2:=hD.cells _ rfl n (by omega);rw[Addr.add_lit]at c0 c1 c2 e1 e2;rw[show R.getD ld 0=R.getD (n+2) 0 from by rw[hn]]at c0;rw[show R.getD j 0=R.getD (n+1) 0 from by rw[hj]]at c1;rw[show D.getD j 0=D.getD (n+1) 0 from by rw[hj]]at e1;have i5:ld<lr:=by omega
 have i6:j<lr:=by omega
 have i7:n<lr:=by omega
 clear hj hn hl;clear hR hD ht hlt;obtain⟨u0,hu0⟩:∃x,x=R.getD (n+2) 0:=⟨_,rfl⟩;obtain⟨u1,hu1⟩:∃x,x=R.getD (n+1) 0:=⟨_,rfl⟩;obtain⟨u2,hu2⟩:∃x,x=R.getD n 0:=⟨_,rfl⟩;obtain⟨v1,hv1⟩:∃x,x=D.getD (n+1) 0:=⟨_,rfl⟩;obtain⟨v2,hv2⟩:∃x,x=D.getD n 0:=⟨_,rfl⟩;rw[<-hu0]at c0 HF;rw[<-hu1]at c1 HF;rw[<-hu2]at c2 HF;rw[<-hv1]at e1 HF;rw[<-hv2]at e2 HF;clear hu0 hu1 hu2 hv1 hv2;have f1:=HF.out.top;have f2:=HF.out.bv1;have f3:=HF.out.bv2;have f4:=HF.out.bu0;have f5:=HF.out.bu1;have f6:=HF.out.bu2;have hv0:(((v1:Nat):Int)==0)=false:=by simp;omega
 have HS:=hid HF.out.start;have hWi:=FE u0 u1 f4 f5;obtain⟨W,hW⟩:∃W,W=u0*4294967296+u1:=⟨_,rfl⟩;rw[<-hW]at hWi HS;have hWl:W<18446744073709551616:=by omega
 have HW:=hid hW
 have hg0:W/v1<=8589934592:=by
  have h1:=Nat.div_le_div_left (a:=W) f1 (by omega);have h2:W/2147483648<=8589934592:=by omega
  omega
 have hs0:W%v1<v1:=a0v _ (by omega);clear hW;obtain⟨G,hG⟩:∃G,G=W/v1:=⟨_,rfl⟩;obtain⟨S,hS⟩:∃S,S=W%v1:=⟨_,rfl⟩;rw[<-hG]at hg0 HS;rw[<-hS]at hs0 HS;have hGi:=Mh W v1;have hSi:=Mi W v1;rw[<-hG]at hGi;rw[<-hS]at hSi;have HG:=hid hG;have XT:=hid hS;have HWL:=hid hWl;have hv1:¬(((v1:Nat):Int)=0):=by omega
 clear hG hS hWl;go_enter Tryz.func255,Tryz.ntmps255;go_wp2;go_step3;go_wp2;go_quiet (fail);go_wp2;go_quiet (fail);go_wp2;go_quiet (fail);go_wp2;go_step3;go_wp2;go_loopw [10,11,53] (λl s _ wr=>∃gg ss q:Nat,l= .int .u64 gg/\ s= .int .u64 ss/\ gg<=8589934592/\ ss<=8589934592/\ Hid (kJ (val R) (val D) v1 W gg ss)/\ wr=w.drewN q) (λ_ s _ _=>17179869184-(intOf s).toNat)
 case atStart=>exact⟨G,S,_,rfl,rfl,hg0,by omega,HS,by rw[World.drewN_drewN,World.drewN_drewN]⟩
 case round=>
  clear HS hg0 hs0 hGi hSi hWi HG XT;obtain⟨gg,ss,q,rfl,rfl,hgb,hsb,HI,rfl⟩:=hrel;have HI2:Hid (kJ (val R) (val D) v1 (u0*4294967296+u1) gg ss):=by rw[Hid,<-HW.out];exact HI.out
  by_cases hs:4294967295<ss
  ·have d1:decide (((ss:Nat):Int)<=4294967295)=false:=by simp;omega
   have hd:=HF.out.OA HI2.out (by omega);have hgl:=hd.1;have HD:=hid (HF.out.done HI2.out hd.1 hd.2);clear hd;go_wp2;rw[Exit.noGoto_ret];go_ret;exact⟨gg,q,rfl,hgl,HI2.out.low,HD.out,rfl⟩
  ·by_cases hg:4294967295<gg
   ·have d1:decide (((gg:Nat):Int)<=4294967295)=false:=by simp;omega
    have HN:=hid (HF.out.Oz HI2.out hg);have hs2:ss<4294967296:=by omega
    go_wp2;go_roundw
    case rel=>exact⟨gg-1,ss+v1,q,by go_num,by go_num,by omega,by omega,by rw[Hid,HW.out];exact HN.out,rfl⟩
    case measure=>simp[intOf];omega
   ·have hs2:ss<4294967296:=by omega
    have hg2:gg<4294967296:=by omega
    have hor:=FE ss u2 hs2 f6;obtain⟨T,hT⟩:∃T,T=ss*4294967296+u2:=⟨_,rfl⟩;rw[<-hT]at hor;have hwide:=(BD (z:=0) (c:=0) hg2 f3 (by omega) (by omega)).1;obtain⟨m,hm⟩:∃m,m=gg*v2:=⟨_,rfl⟩;rw[<-hm]at hwide;have U9:((gg:Nat):Int)*((v2:Nat):Int)=((m:Nat):Int):=by rw[hm];simp
    have HT:=hid hT;have HM:=hid hm;clear hT hm;by_cases h3:T<m
    ·have d3:decide (T<m)=true:=by simpa using h3
     have HN:=hid (HF.out.step_third HI2.out (by rw[<-HT.out,<-HM.out];exact h3))
     have hg1:1<=gg:=by
      rcases a0I gg with h0|h0
      ·rw[HM.out,h0,a0V]at h3;omega
      ·exact h0
     go_wp2;go_roundw
     case rel=>exact⟨gg-1,ss+v1,q,by go_num,by go_num,by omega,by omega,by rw[Hid,HW.out];exact HN.out,rfl⟩
     case measure=>simp[intOf];omega
    ·have d3:decide (T<m)=false:=by simpa using h3
     have HD:=hid (HF.out.done HI2.out hg2 (by rw[<-HT.out,<-HM.out];omega));go_wp2;rw[Exit.noGoto_ret];go_ret;exact⟨gg,q,rfl,hg2,HI2.out.low,HD.out,rfl⟩
end
/- The contract of divide.takeRow. -/
section
open Go.RowKit
def KO (w0:World) (g N i:Nat) (L H D:List Nat) (l S m k c b:Nat) (w:World):Prop:=
 ∃R,gM w0 g N i L R H w/\ R.length=l/\ wT R D S m k c b
def FH (w0:World) (g N i:Nat) (L R H:List Nat) (V m n:Nat) (e:Ending) (w:World):Prop:=
 ∃R':List Nat,∃b:Nat,e= .returned (.bool (((b:Nat):Int) !=0))/\ b<=1/\ gM w0 g N i L R' H w/\ R'.length=n+1/\ val R'+V*m=val R+4294967296^(n+1)*b
theorem Ir (w0 w:World) (g N i cap:Nat) (L R H:List Nat) (d0:Option Addr) (n dc:Nat) (D:List Nat) (m:Nat) (hd:Sl w0 d0 n dc D) (hR:gM w0 g N i L R H w) (hl:R.length=n+1) (hcap:n+1<=cap) (hm:m<4294967296):
  Calls Tryz.prog 256 #[a0c (some ⟨g,i,none⟩) (n+1) cap,a0c d0 n dc,.int .u32 (m:Int)] w (FH w0 g N i L R H (val D) m n):=by
 have b1:=hd.big;have l1:=hd.le;have hI:KO w0 g N i L H D (n+1) (val R) m 0 0 0 w:=⟨R,hR,hl,KM _ _ _⟩;go_enter Tryz.func256,Tryz.ntmps256;clear hR;go_wp2_with fail;go_loopw [7,8,9,10,14] (λc b _ _ j wr=>∃k cc bb:Nat,k<=n/\ j= .int .i64 k/\ c= .int .u64 cc/\ cc<4294967296/\ b= .int .u32 bb/\ bb<=1/\ KO w0 g N i L H D (n+1) (val R) m k cc bb wr) (λ_ _ _ _ j _=>n-(intOf j).toNat)
 case atStart=>exact⟨0,0,0,a0U _,rfl,rfl,by omega,rfl,by omega,hI⟩
 case round=>
  clear hI;obtain⟨k,cc,bb,hk,rfl,rfl,hcc,rfl,hbb,R',hR,hl',hV⟩:=hrel;by_cases hkn:k<n
  ·obtain⟨b,off,rfl,hbB,hcb⟩:=hd.at (by omega);have hxc:wr.cell? ⟨b,off+k,none⟩=some (.int .u32 (D.getD k 0:Nat)):=(hR.below.cell (by exact hbB)).trans (hcb k (by omega));have hzc:=hR.cell k (by omega);have zH:=hR.frozen (i+k);have hxl:=hd.getD_lt k;have hzl:=gL hR.wf k;have hstep:=OB hV hR.wf (by omega) (by rw[hd.len];omega) hbb;obtain⟨x,hx⟩:∃x,x=D.getD k 0:=⟨_,rfl⟩;obtain⟨z,hz⟩:∃z,z=R'.getD k 0:=⟨_,rfl⟩;rw[<-hx]at hxc hxl hstep;rw[<-hz]at hzc hzl hstep;have HST:=a0a hstep;have hw2:=(BD (z:=0) hxl hm (by omega) hcc).2;rw[a0S]at hw2;obtain⟨t,ht⟩:∃t,t=x*m:=⟨_,rfl⟩;rw[<-ht]at hw2;have hti:((x:Nat):Int)*((m:Nat):Int)=((t:Nat):Int):=by rw[ht];simp
   obtain⟨u,hu⟩:∃u,u=(cc+t)%4294967296:=⟨_,rfl⟩;obtain⟨v,hv⟩:∃v,v=(cc+t)/4294967296:=⟨_,rfl⟩;have hui:(((cc:Nat):Int)+((t:Nat):Int))%4294967296=((u:Nat):Int):=by omega
   have hvi:(((cc:Nat):Int)+((t:Nat):Int))/4294967296=((v:Nat):Int):=by omega
   have Pp:u<4294967296:=by omega
   have hvl:v<4294967296:=by omega
   have HI2:Hid (KO w0 g N i L H D (n+1) (val R) m (k+1) v (jM z u bb) (wr.setCell ⟨g,i+k,none⟩ (.int .u32 ((jG z u bb:Nat):Int)))):=by
    refine⟨_,hR.set k _ (by omega) (qJ z u bb),by rw[a0k];exact hl',?_⟩;rw[hu,hv,ht];exact HST.out
   clear hx hz hV hstep hcb ht hu hv HST hR;go_wp2_with (go_at_call 183;refine(ug z u bb _ hzl Pp hbb).mono ?_;rintro e w' ⟨rfl,rfl⟩);go_roundw
   case rel=>exact⟨k+1,v,jM z u bb,by omega,by go_num,rfl,hvl,rfl,wW _ _ _,HI2.out⟩
   case measure=>simp[intOf];omega
  ·obtain rfl:k=n:=by omega
   have hzc:=hR.cell k (by omega);have zH:=hR.frozen (i+k);have hzl:=gL hR.wf k;have hlast:=OC hV hR.wf (by omega) hd.len hbb hcc;obtain⟨z,hz⟩:∃z,z=R'.getD k 0:=⟨_,rfl⟩;rw[<-hz]at hzc hzl hlast;have hcm:((cc:Nat):Int)%4294967296=((cc:Nat):Int):=by omega
   have HI2:Hid (FH w0 g N i L R H (val D) m k (.returned (.bool (((jM z cc bb:Nat):Int) !=0))) (wr.setCell ⟨g,i+k,none⟩ (.int .u32 ((jG z cc bb:Nat):Int)))):=
    ⟨_,_,rfl,wW _ _ _,hR.set k _ (by omega) (qJ z cc bb),by rw[a0k];exact hl',hlast⟩
   clear hz hV hlast hR;go_wp2_with (go_at_call 183;refine(ug z cc bb _ hzl hcc hbb).mono ?_;rintro e w' ⟨rfl,rfl⟩);go_ret;exact HI2.out
end
/- The contract of divide.putBack. -/
section
open Go.RowKit
def Xk (w0:World) (g N i:Nat) (L H:List Nat) (l S T k c n top:Nat) (w:World):Prop:=
 ∃R,gM w0 g N i L R H w/\ R.length=l/\ val R+4294967296^k*c=S+T/\ R.getD n 0=top
def SF (w0:World) (g N i:Nat) (L R H:List Nat) (V n:Nat) (e:Ending) (w:World):Prop:=
 ∃R':List Nat,∃c:Nat,e= .returned (.tuple #[])/\ c<=1/\ gM w0 g N i L R' H w/\ R'.length=n+1/\ val R'+4294967296^n*c=val R+V/\ R'.getD n 0=R.getD n 0
theorem Iu (w0 w:World) (g N i cap:Nat) (L R H:List Nat) (d0:Option Addr) (n dc:Nat) (D:List Nat) (hd:Sl w0 d0 n dc D) (hR:gM w0 g N i L R H w) (hl:R.length=n+1) (hcap:n+1<=cap):
  Calls Tryz.prog 257 #[a0c (some ⟨g,i,none⟩) (n+1) cap,a0c d0 n dc] w (SF w0 g N i L R H (val D) n):=by
 have b1:=hd.big;have l1:=hd.le;have HX:Hid (D.take n=D):=dz D n hd.len;have hI:Xk w0 g N i L H (n+1) (val R) (val (D.take 0)) 0 0 n (R.getD n 0) w:=⟨R,hR,hl,by simp[val],rfl⟩;go_enter Tryz.func257,Tryz.ntmps257;clear hR;go_wp2_with fail;go_loopw [4,5,6,9] (λc _ _ j wr=>∃k cc:Nat,k<=n/\ j= .int .i64 k/\ c= .int .u32 cc/\ cc<=1/\ Xk w0 g N i L H (n+1) (val R) (val (D.take k)) k cc n (R.getD n 0) wr) (λ_ _ _ j _=>n-(intOf j).toNat)
 case atStart=>exact⟨0,0,a0U _,rfl,rfl,by omega,hI⟩
 case round=>
  clear hI;obtain⟨k,cc,hk,rfl,rfl,hcc,R',hR,hl',hV,hT⟩:=hrel;by_cases hkn:k<n
  ·obtain⟨b,off,rfl,hbB,hcb⟩:=hd.at (by omega);have hxc:wr.cell? ⟨b,off+k,none⟩=some (.int .u32 (D.getD k 0:Nat)):=(hR.below.cell (by exact hbB)).trans (hcb k (by omega));have hzc:=hR.cell k (by omega);have zH:=hR.frozen (i+k);have hxl:=hd.getD_lt k;have hzl:=gL hR.wf k;have hstep:=lX (y:=D.getD k 0) (by rw[hl'];omega) hV;rw[<-bE D k (by rw[hd.len];omega)]at hstep;obtain⟨x,hx⟩:∃x,x=D.getD k 0:=⟨_,rfl⟩;obtain⟨z,hz⟩:∃z,z=R'.getD k 0:=⟨_,rfl⟩;rw[<-hx]at hxc hxl hstep;rw[<-hz]at hzc hzl hstep;have HST:=a0a hstep;have HT:=a0a hT;clear hx hz hV hstep hcb hT;go_wp2_with (go_at_call 180;refine(lF z x cc _ hzl hxl hcc).mono ?_;rintro e w' ⟨rfl,rfl⟩);go_roundw
   case rel=>exact⟨k+1,(z+x+cc)/4294967296,by omega,by go_num,by go_num,by omega,_,hR.set k _ (by omega) (a0v _ (by omega)),by rw[a0k];exact hl',HST.out,by rw[fP,if_neg (by omega)];exact HT.out⟩
   case measure=>simp[intOf];omega
  ·obtain rfl:k=n:=by omega
   rw[HX.out]at hV;have HV:=a0a hV;have HT:=a0a hT;clear hV hT;go_wp2;go_end0;exact⟨R',cc,rfl,hcc,hR,hl',HV.out,HT.out⟩
end
/- The contracts of divide.shifted and divide.told. -/
section
open Go.RowKit
theorem yQ (ao:Option Addr) (n cap:Nat) (xs:List Nat) (s:Nat) (w:World) (ha:Sl w ao n cap xs) (hs:s<=1048576) (hroom:n<=1000000000000):
  Calls Tryz.prog 254 #[a0c ao n cap,.int .i64 (s:Int)] w (gP w (limbs (val xs*2^s))):=by
 go_enter Tryz.func254,Tryz.ntmps254;go_wp2_with fail;refine(VJ _ _ _ _ s _ ha hs (by omega)).mono ?_;rintro e w1 ⟨c0,k,c,rfl,hO,hB⟩;go_wp2_with fail;go_ret;exact⟨_,_,_,rfl,hO,hB⟩
def Xl (w:World) (q r:Nat) (e:Ending) (w':World):Prop:=
 ∃a0 la ca b0 lb cb,e= .returned (.tuple #[a0c a0 la ca,a0c b0 lb cb])/\ Sl w' a0 la ca (limbs q)/\ Sl w' b0 lb cb (limbs r)/\ Below w.heap.size w w'
theorem YR {w:World} {ad:Addr} {n cap:Nat} {xs:List Nat} (h:Sl w (some ad) n cap xs) (k:Nat) (hk:n<=k):Sl w (some ad) n k xs:=
 ⟨h.len,hk,h.big,h.wf,(λh=>by cases h),h.cells⟩
theorem SG (g N n s:Nat) (zs:List Nat) (w:World) (hz:Sl w (some ⟨g,0,none⟩) N N zs) (hn:n<N) (hs:s<=31):
  Calls Tryz.prog 258 #[a0c (some ⟨g,0,none⟩) N N,.int .i64 (n:Int),.int .i64 (s:Int)] w (Xl w (val (zs.drop n)) (val (zs.take n)/2^s)):=by
 have hbig:=hz.big;have S1:=a0a (YR (hz.take n (by omega)) n (a0W _));have hd:=Mj hz n (by omega);rw[a0P]at hd;have S2:=a0a hd;have hck:(N==n)=false:=by simp;omega
 have aj5:¬(N=n):=by omega
 clear hz hd;go_enter Tryz.func258,Tryz.ntmps258;go_wp2;go_quiet (fail);go_wp2_with fail;refine(VK _ _ _ _ s _ (S1.out.drewN _) (by omega)).mono ?_;rintro e w1 ⟨c0,k,c,rfl,hO,hB⟩;have hB1:Below w.heap.size w w1:=(below_drewN _ w _).trans hB;have S3:=a0a (S2.out.below hB1);have hbr:=a0a (mR _ _ _ _ _ S3.out);go_wp2_with fail;refine hbr.out.mono ?_;rintro e w2 ⟨a1,n1,c1,rfl,hA,hn1,rfl⟩;go_wp2_with fail;go_ret2;exact⟨_,_,_,_,_,_,rfl,hA,hO.sl,hB1⟩
end
/- The contract of divide.long: quotient and rest by Knuth's way D. -/
section
open Lib (hid)
open Go.RowKit
theorem OJ {n k:Nat} (h:(limbs n).length=k) (h0:0<k):(limbs n).getD (k-1) 0≠0:=by
 intro hz;have h1:=mI (limbs n) (k-1) (by omega) hz;rw[show k-1+1=k from by omega,dz _ _ h,fQ,h]at h1;have h2:=iP ((limbs n).take (k-1));rw[a0f]at h2;omega
structure OL (A C s n m:Nat):Prop where
 s32:s<32
 aj6:(limbs (C*2^s)).length=n
 aj7:2147483648<=(limbs (C*2^s)).getD (n-1) 0
 dlt:C*2^s<4294967296^n
 room:A*2^s<C*2^s*4294967296^(m-n+1)
 aj8:(limbs (A*2^s)).length<=m+1
theorem KP {A C n m:Nat} (hA:(limbs A).length=m) (hC:(limbs C).length=n) (hn:2<=n) (hm:n<=m):OL A C (lead ((limbs C).getD (n-1) 0)) n m:=by
 have hx0:=OJ hC (by omega);have hxl:(limbs C).getD (n-1) 0<4294967296:=gL (eF C) _;obtain⟨t1,t2,t3⟩:=SB hxl hx0;obtain⟨d1,d2⟩:=OG (j:=n-1) (by omega) t2 t3 t1;rw[show n-1+1=n from by omega]at d2;obtain⟨d3,d4⟩:=VH (j:=n-1) d1 (by rw[show n-1+1=n from by omega];exact d2);have hAl:A<4294967296^m:=by have:=eG (limbs A) (eF A);rwa[au,hA]at this
 obtain⟨r1,r2⟩:=OH (m:=m) (n:=n) hAl d1 t1 (by omega) hm;exact⟨t1,by omega,d4,d2,r1,sD r2⟩
structure SH (w1 w3:World) (g N X:Nat) (c0:Option Addr) (cn:Nat) (cz cl:List Value) (zs:List Nat):Prop where
 heap:w3.heap[g]? =some (.cells cz.toArray 192 (0,0))
 len:cl.length=cn
 aj9:cz.length=N
 src:0<cl.length->∃ad,c0=some ad/\∀j v,cl[j]? =some v->w3.cell? (ad.add j)=some v
 one:∀v∈cl,v.oneCell'=true
 lay:splice cz 0 cl=cellsOf zs
 val:val zs=X
 wf:Wf zs
 all:zs.length=N
 below:Below w1.heap.size w1 w3
theorem OM {w1 w2 w3:World} {g N X:Nat} {c0:Option Addr} {cn cc:Nat} (hO:Own w1.heap.size w2 (some ⟨g,0,none⟩) N N (a0l N 0)) (hb:Below w1.heap.size w1 w2) (hX:Sl w3 c0 cn cc (limbs X)) (hB:Below w2.heap.size w2 w3) (hcn:cn<=N):
  ∃cz cl zs,SH w1 w3 g N X c0 cn cz cl zs:=by
 have hO2:=hO.below hB;have hZ1:∀t,0<=t->(a0l N 0).getD t 0=0:=λt _=>eB _ _
 have hcl:=hX.len;have e1:=FI (ys:=limbs X) hZ1 (by rw[hcl];simp;omega);have f1:Wf _:=KQ (k:=0) hO2.wf (eF X);have g1:=FJ (zs:=a0l N 0) (ys:=limbs X) (k:=0) (by rw[hcl];simp;omega);have Iw:=xU (a0l N 0) (limbs X) 0;have e2:val (a0l N 0)+4294967296^0*val (limbs X)=X:=by rw[iA,au,a0Q,Nat.one_mul,a0P]
 rw[a0m]at g1;exact⟨_,_,_,(Iy hO2).out,by rw[bq,hcl],by rw[bq,a0m],λh0=>hX.hpos h0,iR _,Iw,e1.trans e2,f1,g1,Below.steps hb hB⟩
structure KR (w0:World) (g N:Nat) (A V n j:Nat) (zs:List Nat) (w:World):Prop where
 own:Own w0.heap.size w (some ⟨g,0,none⟩) N N zs
 below:Below w0.heap.size w0 w
 inv:qI A V n j zs
theorem KS (lr:Nat) (w0 w:World) (g N i cap:Nat) (L R H:List Nat) (d0:Option Addr) (n dc:Nat) (D:List Nat) (m:Nat) (hd:Sl w0 d0 n dc D) (hR:gM w0 g N i L R H w) (hl:R.length=n+1) (hcap:n+1<=cap) (hm:m<4294967296) (hlr:lr=n+1):
  Calls Tryz.prog 256 #[a0c (some ⟨g,i,none⟩) lr cap,a0c d0 n dc,.int .u32 (m:Int)] w (FH w0 g N i L R H (val D) m n):=by
 subst hlr;exact Ir _ _ _ _ _ _ _ _ _ _ _ _ _ _ hd hR hl hcap hm
theorem KT (lr:Nat) (w0 w:World) (g N i cap:Nat) (L R H:List Nat) (d0:Option Addr) (n dc:Nat) (D:List Nat) (hd:Sl w0 d0 n dc D) (hR:gM w0 g N i L R H w) (hl:R.length=n+1) (hcap:n+1<=cap) (hlr:lr=n+1):
  Calls Tryz.prog 257 #[a0c (some ⟨g,i,none⟩) lr cap,a0c d0 n dc] w (SF w0 g N i L R H (val D) n):=by
 subst hlr;exact Iu _ _ _ _ _ _ _ _ _ _ _ _ _ hd hR hl hcap
theorem BF {w0:World} {g N i A V n q:Nat} {zs R' L R H:List Nat} {w:World} (hL:L=zs.take i) (hRe:R=(zs.drop i).take (n+1)) (hH:H=zs.drop (i+(n+1))) (hI:qI A V n (i+1) zs) (hw:Wf zs) (hn:i+n+1<=zs.length)
  (hR:gM w0 g N i L R' H w) (hl:R'.length=n+1) (hq:q<4294967296) (hv:val (R'.take n)+V*q=val R) (hlt:val (R'.take n)<V):
  ∃zs',KR w0 g N A V n i zs' (w.setCell ⟨g,i+n,none⟩ (.int .u32 ((q:Nat):Int))):=by
 have h1:=hR.set n q (by omega) hq;rw[Sy hl]at h1;subst hL;subst hRe;subst hH;exact⟨_,h1.own,h1.below,OE hI hw hn (by rw[a0f];omega) rfl hv hlt⟩
theorem SI (a0 b0:Option Addr) (la ca lb cb A C:Nat) (w:World) (ha:Sl w a0 la ca (limbs A)) (hb:Sl w b0 lb cb (limbs C)) (h2:2<=lb) (hge:lb<=la) (ra:la<=1000000000000):
  Calls Tryz.prog 235 #[a0c a0 la ca,a0c b0 lb cb] w (Xl w (A/C) (A%C)):=by
 obtain⟨i0,hi,hz0,hz1,hz2⟩:=info_parts Tryz.gV
 have HC0:Hid (0<C):=by
  rw[Hid];rcases a0I C with h|h
  ·have:=hb.len;rw[h,iy]at this;simp at this;omega
  ·exact h
 have HF:=hid (KP ha.len hb.len h2 hge);obtain⟨b,off,rfl,hbb,hcell⟩:=hb.at (by omega);have hxc:=hcell (lb-1) (by omega);have hxl:=hb.getD_lt (lb-1);obtain⟨x,hx⟩:∃x,x=(limbs C).getD (lb-1) 0:=⟨_,rfl⟩;rw[<-hx]at hxc hxl HF;obtain⟨j,hj⟩:∃j,j=lb-1:=⟨_,rfl⟩;rw[<-hj]at hxc;have i1:((lb:Nat):Int)-1=((j:Nat):Int):=by omega
 have i2:j<lb:=by omega
 have hdc:=hb.le;have hac:=ha.le;have YS:=hid (All.cons ha (All.cons hb (All.nil _)));have HB0:=hid (Below.refl w.heap.size w);obtain⟨s,hs⟩:∃s,s=lead x:=⟨_,rfl⟩;rw[<-hs]at HF;have HS:=hid hs;have am4:=HF.out.s32;clear ha hb hj hx hcell hs;go_enter Tryz.func235,Tryz.ntmps235;go_wp2_with fail;refine(SA x _ hxl).mono ?_;rintro e w' ⟨rfl,rfl⟩;rw[<-HS.out];go_wp2_with fail;refine(yQ _ _ _ _ s _ YS.out.tl.head (by omega) (by omega)).mono ?_;rintro e w1 ⟨d0,dn,dc,rfl,hX,hB⟩;rw[au]at hX;have hdn:dn=lb:=by rw[<-hX.len];exact HF.out.aj6
 subst hdn;have am5:=hX.sl.le;obtain⟨db,am6,rfl,_,_⟩:=hX.sl.at (by omega);have SK:=hid (All.cons hX.sl (YS.out.below hB));have HB1:=hid (Below.steps HB0.out hB);clear hX hB YS HB0 HS hxc;go_wp2_with (at_make;refine wpList_make_full _ rfl _ _ 27 rfl w1.heap.size 192 i0 (.int .u32 0) 1 Tryz.underlying27 hi hz0 hz1 _ _ _ _ (la+1) rfl rfl (by omega) (by omega) ?b2 ?b3 (a0W _) ?_)
 case b2=>rw[hz2];omega
 case b3=>unfold maxLen;omega
 intro w2 hown1 hgrow1;rw[jy]at hown1;have hb1:Below w1.heap.size w1 w2:=(Below.refl _ _).grown hgrow1 (a0W _) (λk h=>by cases h)
 have oq:Own w1.heap.size w2 (some ⟨w1.heap.size,0,none⟩) (la+1) (la+1) (a0l (la+1) 0):=
  ⟨hown1,by omega,λx hx=>by rw[(a0n.1 hx).2];omega⟩
 have M0:=hid oq;have YT:=hid hb1;clear hown1 hgrow1 hb1 oq
 go_wp2_with (first
  |(go_at_call 254;refine(yQ _ _ _ _ s _ (SK.out.tl.head.below YT.out) (by omega) (by omega)).mono ?_;rintro e w3 ⟨c0,cn,cc,rfl,hX,hB⟩;rw[au]at hX;have hcn:cn<=la+1:=(by rw[<-hX.len];exact HF.out.aj8);obtain⟨cz,cl,zs,hLR⟩:=OM M0.out YT.out hX.sl hB hcn;have OO:=hid hLR;clear hX hB hLR M0 YT)
  |((with_reducible refine wpList_copy_splice rfl (.tmp 28) (.tmp 31) 27 27 rfl 192 rfl Tryz.pR _ _ _ _ _ _ rfl rfl w1.heap.size 0 cz 192 OO.out.heap cl (by rw[OO.out.len];exact(Nat.min_eq_left (by omega)).symm) (λh=>⟨rfl,OO.out.src h⟩) (by rw[OO.out.len,OO.out.aj9];omega) OO.out.one w1.heap.size w1 OO.out.below (a0W _) ?_);intro w4 HG2 hb4;rw[OO.out.lay]at HG2))
 have hO4:=Own.Ba (a0W _) OO.out.all (by omega) OO.out.wf HG2.out;have HI:Hid (KR w1 w1.heap.size (la+1) (A*2^s) (C*2^s) dn (la-dn+1) zs w4):=⟨hO4,hb4,KN OO.out.all OO.out.val hge HF.out.room⟩;obtain⟨k0,hk0⟩:∃k0,k0=la-dn:=⟨_,rfl⟩;rw[<-hk0]at HI;have hk1:((la:Nat):Int)-((dn:Nat):Int)=((k0:Nat):Int):=by omega
 have hk2:k0+dn<=la:=by omega
 have aL:=hid hk1;have HI1:=hid i1;clear hO4 hb4 hk0 OO HG2 hk1 i1;go_wp2_with fail;go_loopw [10,11,12] (λp _ _ wr=>∃(jj:Nat) (zs':List Nat),jj<=k0+1/\ p= .int .i64 ((jj:Int)-1)/\ KR w1 w1.heap.size (la+1) (A*2^s) (C*2^s) dn jj zs' wr) (λp _ _ _=>(intOf p+1).toNat)
 case atStart=>exact⟨k0+1,zs,a0W _,by rw[aL.out];go_num,HI.out⟩
 case round=>
  clear HI;obtain⟨jj,zs',hjj,rfl,hO,hB,hI⟩:=hrel;by_cases hj0:jj=0
  ·subst hj0;have ht:=SG w1.heap.size (la+1) dn s zs' wr hO.sl (by omega) (by omega);obtain⟨q1,q2⟩:=Sz (a0N s) HC0.out hI;rw[q1,q2]at ht;have HT:=hid ht;have Xg:=hid (Below.steps HB1.out hB);clear ht q1 q2 hO hB hI;go_wp2_with fail;refine HT.out.mono ?_;rintro e w5 ⟨p0,pn,pc,r0,rn,rc,rfl,hQ,hR,hB5⟩;go_wp2_with fail;go_ret2;exact⟨_,_,_,_,_,_,rfl,hQ,hR,Below.steps Xg.out hB5⟩
  ·obtain⟨i,rfl⟩:∃i,jj=i+1:=⟨jj-1,by omega⟩;have ei:((i+1:Nat):Int)-1=(i:Int):=by omega
   rw[ei];clear ei;have hR:=gM.of (n:=dn+1) hO hB (a0W _) (by omega:i+(dn+1)<=la+1);have hrow:=Sw hI (by rw[hO.len];omega);have hrl:((zs'.drop i).take (dn+1)).length=dn+1:=by rw[a0f,List.length_drop,hO.len];omega
   have SL:=hid (λ(R':List Nat) (w:World) (q:Nat)=>BF (w0:=w1) (g:=w1.heap.size) (N:=la+1) (q:=q) (R':=R') (w:=w) rfl rfl rfl hI hO.wf (by rw[hO.len];omega));obtain⟨L,hL⟩:∃L,L=zs'.take i:=⟨_,rfl⟩;obtain⟨R,hRe⟩:∃R,R=(zs'.drop i).take (dn+1):=⟨_,rfl⟩;obtain⟨H,hH⟩:∃H,H=zs'.drop (i+(dn+1)):=⟨_,rfl⟩;rw[<-hL,<-hRe,<-hH]at hR SL;rw[<-hRe]at hrow hrl;have YU:=hid hrow;have FX:=hid hrl;have hDS:=hid (SK.out.head.below hB);clear hL hRe hH hrow hrl hO hI hj0;go_wp2_with fail;refine(OI _ _ _ _ _ _ _ _ R (limbs (C*2^s)) _ (hR.sl (by rw[FX.out];omega) (by omega)) hDS.out (by omega) h2 HF.out.aj7 (by rw[au];exact YU.out)).mono ?_;rintro e w' ⟨gg,q,rfl,hgl,hlow,hup,rfl⟩;rw[au]at hlow hup;have NK:=hid hlow;have HUP:=hid hup;have hR1:=hR.drewN q;clear hlow hup hR hDS hB;go_wp2_with fail;refine(KS _ w1 _ _ _ _ _ L R H _ dn dc (limbs (C*2^s)) gg SK.out.head hR1 FX.out (by omega) hgl (by omega)).mono ?_;rintro e w6 ⟨R',bb,rfl,ak0,hR2,hl2,hv2⟩;rw[au]at hv2;have zH:=hR2.frozen (i+dn);have hzc:=hR2.cell dn (by omega);have hs2:val R'<4294967296^(dn+1):=by have:=eG R' hR2.wf;rwa[hl2]at this
   by_cases hb0:bb=0
   ·subst hb0;rw[Nat.mul_zero,a0S]at hv2;obtain⟨r1,r2⟩:=OD hv2 NK.out HF.out.dlt;have ht:=BB hl2 r2;obtain⟨Xm,hz2'⟩:=SL.out R' w6 gg hR2 hl2 hgl (by rw[ht];exact hv2) (by rw[ht];exact r1);have HZ2:=hid hz2';clear hv2 r1 r2 ht hz2' hs2 NK HUP SL hR1 FX hl2 YU hR2;go_wp2_with fail;go_roundw
    case rel=>exact⟨i,Xm,by omega,by go_num,HZ2.out⟩
    case measure=>simp[intOf]
   ·obtain rfl:bb=1:=by omega
    have hg0:1<=gg:=by
     rcases a0I gg with h0|h0
     ·rw[h0]at hv2;omega
     ·exact h0
    obtain⟨g1,hg1⟩:∃g1,g1=gg-1:=⟨_,rfl⟩;have hg2:((gg:Nat):Int)-1=((g1:Nat):Int):=by omega
    have ak1:g1<4294967296:=by omega
    have Z5:=hid hg1;have Px:=hid hv2;have HS2:=hid hs2;have HW2:=hid hR2.wf;have HP:=hid (KT (i+dn+1-i) w1 w6 _ _ _ (la+1-i) L R' H _ dn dc (limbs (C*2^s)) SK.out.head hR2 hl2 (by omega) (by omega));have HL2:=hid hl2;clear hv2 hs2 hg1 YU hl2 hR1 hR2 hzc zH FX hb0 ak0;go_wp2_with fail;refine HP.out.mono ?_;rintro e w7 ⟨R3,c,rfl,hc,hR3,hl3,hv3,ht3⟩;rw[au]at hv3;have zH:=hR3.frozen (i+dn);have hzc:=hR3.cell dn (by omega);have hput:=VI HL2.out hl3 hv3 ht3 HW2.out;obtain⟨_,r2,r3⟩:=Sv (by have:=Px.out;rwa[a0r]at this) HS2.out HUP.out HF.out.dlt hput hc (jF hR3.wf dn);rw[<-Z5.out]at r2;obtain⟨Xm,hz2'⟩:=SL.out R3 w7 g1 hR3 hl3 ak1 r2 r3;have HZ2:=hid hz2';clear hput r2 r3 hz2' hv3 ht3 hl3 HP Px HS2 HW2 HL2 Z5 NK HUP SL hR3;go_wp2_with fail;go_roundw
    case rel=>exact⟨i,Xm,by omega,by go_num,HZ2.out⟩
    case measure=>simp[intOf]
end
/- The contract of divide.Limb. -/
section
open Go.RowKit
def af4 (w:World) (q r:Nat) (er:Int) (e:Ending) (w':World):Prop:=
 ∃ao n cap,e= .returned (.tuple #[a0c ao n cap,.int .u32 (r:Int),.int .i64 er])/\ Sl w' ao n cap (limbs q)/\ Below w.heap.size w w'
theorem Ay {Q r X x d:Nat} (h:Q*d+r=X):(((r*4294967296+x)/d)+4294967296*Q)*d+(r*4294967296+x)%d=x+4294967296*X:=by
 have h1:=a0u (r*4294967296+x) d;rw[<-h,a0x,a0q,a0t];rw[a0w d]at h1;omega
structure pM (B:Nat) (ao:Option Addr) (n:Nat) (w:World) (D:List Nat) (d j r:Nat) (zs:List Nat) (wr:World):Prop where
 own:Own B wr ao n n zs
 below:Below B w wr
 sum:val (zs.drop j)*d+r=val (D.drop j)
 lt:r<d
theorem OP (a0:Option Addr) (la ca:Nat) (xs:List Nat) (d:Nat) (w:World) (ha:Sl w a0 la ca xs) (hd0:0<d) (hd:d<4294967296):
  Calls Tryz.prog 221 #[a0c a0 la ca,.int .u32 (d:Int)] w (af4 w (val xs/d) (val xs%d) 0):=by
 obtain⟨i0,hi,hz0,hz1,hz2⟩:=info_parts Tryz.gV;have hb0:(((d:Nat):Int)==0)=false:=by simp;omega
 have hbig:=ha.big;go_enter Tryz.func221,Tryz.ntmps221;go_wp2_with fail;refine(mR _ _ _ _ _ ha).mono ?_;rintro e w' ⟨a1,n1,c1,rfl,hA,hn1,rfl⟩;go_wp2_with (at_make;refine wpList_make_full _ rfl _ _ 27 rfl w.heap.size 192 i0 (.int .u32 0) 1 Tryz.underlying27 hi hz0 hz1 _ _ _ _ n1 rfl rfl rfl rfl ?b2 ?b3 (a0W _) ?_)
 case b2=>rw[hz2];omega
 case b3=>unfold maxLen;omega
 intro w1 hown1 hgrow1;rw[jy]at hown1;have hb1:Below w.heap.size w w1:=(Below.refl _ _).grown hgrow1 (a0W _) (λk h=>by cases h)
 have oq:Own w.heap.size w1 (some ⟨w.heap.size,0,none⟩) n1 n1 (a0l n1 0):=
  ⟨hown1,by omega,λx hx=>by rw[(a0n.1 hx).2];omega⟩
 have hI1:pM w.heap.size (some ⟨w.heap.size,0,none⟩) n1 w (limbs (val xs)) d n1 0 (a0l n1 0) w1:=by
  refine⟨oq,hb1,?_,hd0⟩;rw[a0o (by simp),a0o (by rw[hA.len];exact a0W _),dY,a0V]
 clear hown1 hgrow1 oq hb1;go_wp2_with fail;go_loopw [5,7] (λr i wr=>∃j rr:Nat,∃zs:List Nat,j<=n1/\ i= .int .i64 ((j:Int)-1)/\ r= .int .u32 rr/\ pM w.heap.size (some ⟨w.heap.size,0,none⟩) n1 w (limbs (val xs)) d j rr zs wr) (λ_ i _=>(intOf i+1).toNat)
 case atStart=>exact⟨n1,0,_,a0W _,rfl,rfl,hI1⟩
 case round=>
  clear hI1;obtain⟨j,rr,zs,hj,rfl,rfl,hO,hB,hV,hlt⟩:=hrel;by_cases hj0:j=0
  ·subst hj0
   have hq:val zs=val xs/d/\ rr=val xs%d:=by
    rw[a0p,a0p,au]at hV;have h1:val xs=rr+d*val zs:=by rw[<-hV,a0w];omega
    rw[h1];exact⟨by rw[Nat.add_mul_div_left _ _ hd0,a0R hlt,a0P],by rw[a0O,a0K hlt]⟩
   have hbare:=mR _ _ _ _ _ hO.sl;rw[hq.1]at hbare;have U0:=a0a hbare;have HR:=a0a hq.2;clear hbare hV hq hO;go_wp2_with fail;refine U0.out.mono λe w' h=>?_
   obtain⟨ao,kk,cap,rfl,h3,h4,rfl⟩:=h;go_wp2_with fail;go_ret3;exact⟨_,_,_,by rw[<-HR.out];rfl,h3,hB⟩
  ·obtain⟨i,rfl⟩:∃i,j=i+1:=⟨j-1,by omega⟩;have ei:((i+1:Nat):Int)-1=(i:Int):=by omega
   rw[ei];clear ei;obtain⟨b,off,rfl,hbb,hcb⟩:=hA.at (by omega);have hxc:wr.cell? ⟨b,off+i,none⟩=some (.int .u32 ((limbs (val xs)).getD i 0:Nat)):=(hB.cell (by exact hbb)).trans (hcb i (by omega));have hxl:=hA.getD_lt i;have zH:=hO.frozen i;have hzc:=hO.cell i (by omega);have hdrop:=iL (limbs (val xs)) i (by rw[hA.len];omega);obtain⟨x,hx⟩:∃x,x=(limbs (val xs)).getD i 0:=⟨_,rfl⟩;rw[<-hx]at hxc hxl hdrop;have HDR:=a0a hdrop;have HV:=a0a hV
   have hq:(rr*4294967296+x)/d<4294967296:=by
    rw[a0T hd0];have:(rr+1)*4294967296<=d*4294967296:=a0A _ hlt;omega
   have hI2:Hid (∀q,pM w.heap.size (some ⟨w.heap.size,0,none⟩) n1 w (limbs (val xs)) d i ((rr*4294967296+x)%d) (zs.set i ((rr*4294967296+x)/d)) ((wr.drewN q).setCell ⟨w.heap.size,i,none⟩ (.int .u32 (((rr*4294967296+x)/d:Nat):Int)))):=by
    intro q;refine⟨(hO.drewN q).set i _ hq,(hB.trans (below_drewN _ _ q)).setCell (a0W _) _,?_,a0v _ hd0⟩;rw[iL _ i (by rw[a0k,hO.len];omega),fP,if_pos ⟨rfl,by rw[hO.len];omega⟩,List.drop_set_of_lt (by omega),HDR.out];exact Ay HV.out
   clear hx hcb hdrop hV hq hj0 hO;go_wp2_with (go_at_call 241;refine(Dw rr x d _ hlt hxl hd).mono ?_;rintro e w' ⟨rfl,q,rfl⟩);go_roundw
   case rel=>exact⟨i,_,_,by omega,by go_num,rfl,hI2.out _⟩
   case measure=>simp[intOf]
end
/- The contracts of divide.DivMod and divide.Exact. -/
section
open Lib (hid)
open Go.RowKit
def af5 (w:World) (q r:Nat) (er:Int) (e:Ending) (w':World):Prop:=
 ∃a0 la ca b0 lb cb,e= .returned (.tuple #[a0c a0 la ca,a0c b0 lb cb,.int .i64 er])/\ Sl w' a0 la ca (limbs q)/\ Sl w' b0 lb cb (limbs r)/\ Below w.heap.size w w'
def af6 (w:World) (q:Nat) (er:Int) (e:Ending) (w':World):Prop:=
 ∃a0 la ca,e= .returned (.tuple #[a0c a0 la ca,.int .i64 er])/\ Sl w' a0 la ca (limbs q)/\ Below w.heap.size w w'
theorem YV {w:World} {ao:Option Addr} {n cap V:Nat} (h:Sl w ao n cap (limbs V)) (h0:V=0):n=0:=by
 subst h0;rw[<-h.len];rfl
theorem YW {w:World} {ao:Option Addr} {n cap V:Nat} (h:Sl w ao n cap (limbs V)) (h0:V≠0):0<n:=by
 rcases a0I n with h1|h1
 ·have:=h.len;rw[h1]at this;have h2:limbs V=[]:=List.eq_nil_of_length_eq_zero this;have h3:=au V;rw[h2,dY]at h3;exact absurd h3.symm h0
 ·exact h1
theorem wN (a0 b0:Option Addr) (la ca lb cb:Nat) (xs ys:List Nat) (w:World) (ha:Sl w a0 la ca xs) (hb:Sl w b0 lb cb ys) (h0:val ys≠0) (ra:la<=1000000000000):
  Calls Tryz.prog 212 #[a0c a0 la ca,a0c b0 lb cb] w (af5 w (val xs/val ys) (val xs%val ys) 0):=by
 have H0:=hid h0;have hla:=ha.big;clear h0;go_enter Tryz.func212,Tryz.ntmps212;go_wp2_with fail;refine(mR _ _ _ _ _ ha).mono ?_;rintro e w' ⟨a1,n1,c1,rfl,hA,hn1,rfl⟩;go_wp2_with fail;refine(mR _ _ _ _ _ hb).mono ?_;rintro e w' ⟨b1,m1,d1,rfl,hB,hm1,rfl⟩;have hm0:=YW hB H0.out;have hmz:(((m1:Nat):Int)==0)=false:=by simp;omega
 have hbm:=hB.big;clear hb ha;by_cases hlt:n1<m1
 ·have d1':decide (n1<m1)=true:=by simpa using hlt
  have HLT:Hid (val xs<val ys):=by
   rw[Hid];have:=gZ (xs:=limbs (val xs)) (ys:=limbs (val ys)) (eF _) (by rw[fQ,fQ,hA.len,hB.len];exact hlt);rwa[au,au]at this
  have ht:=Bp _ _ _ _ _ hA;rw[au]at ht;have HT:=hid ht;clear ht;go_wp2_with fail;refine HT.out.mono ?_;rintro e w1 ⟨t0,tn,tc,rfl,hT,hB1⟩;go_wp2_with fail;go_ret3;exact⟨_,_,_,_,_,_,rfl,by rw[a0R HLT.out];exact Sl.none _,by rw[a0K HLT.out];exact hT.sl,hB1⟩
 ·have d1':decide (n1<m1)=false:=by simpa using hlt
  by_cases hone:m1=1
  ·subst hone;obtain⟨b,off,rfl,hbb,hcell⟩:=hB.at (by omega);have hc:=hcell 0 (by omega);rw[a0S]at hc;have hyl:=hB.getD_lt 0
   have hyv:val ys=(limbs (val ys)).getD 0 0:=by
    have h1:=bE (limbs (val ys)) 0 (by rw[hB.len];omega);rw[dz _ _ hB.len,au]at h1;simpa[val]using h1
   obtain⟨y,hy⟩:∃y,y=(limbs (val ys)).getD 0 0:=⟨_,rfl⟩;rw[<-hy]at hc hyl hyv;have hy0:0<y:=by have:=H0.out;omega
   have HYV:=hid hyv;have HLB:=hid (OP _ _ _ _ y _ hA hy0 hyl);clear hcell hy hyv;go_wp2_with fail;refine HLB.out.mono ?_;rintro e w1 ⟨q0,qn,qc,rfl,hQ,hB1⟩;rw[au]at hQ;obtain⟨r,hr⟩:∃r,r=val (limbs (val xs))%y:=⟨_,rfl⟩;rw[<-hr];have hrl:r<y:=by rw[hr];exact a0v _ hy0
   have HR:=hid hr;clear hr HLB;go_wp2_with fail;refine(ku r _ (by omega)).mono ?_;rintro e w2 ⟨s0,sn,sc,rfl,hS,hB2⟩;go_wp2_with fail;go_ret3;exact⟨_,_,_,_,_,_,rfl,by rw[HYV.out];exact hQ.below hB2,by rw[HYV.out,<-au (val xs),<-HR.out];exact hS.sl,Below.steps hB1 hB2⟩
  ·have d2':(((m1:Nat):Int)==1)=false:=by simp;omega
   go_wp2_with fail;refine(SI _ _ _ _ _ _ _ _ _ hA hB (by omega) (by omega) (by omega)).mono ?_;rintro e w1 ⟨q0,qn,qc,r0,rn,rc,rfl,hQ,hR,hB1⟩;go_wp2_with fail;go_ret3;exact⟨_,_,_,_,_,_,rfl,hQ,hR,hB1⟩
theorem Om (a0 b0:Option Addr) (la ca lb cb:Nat) (xs ys:List Nat) (w:World) (ha:Sl w a0 la ca xs) (hb:Sl w b0 lb cb ys) (h0:val ys≠0) (ra:la<=1000000000000) (hr:val xs%val ys=0):
  Calls Tryz.prog 177 #[a0c a0 la ca,a0c b0 lb cb] w (af6 w (val xs/val ys) 0):=by
 have HR:=hid hr;clear hr;go_enter Tryz.func177,Tryz.ntmps177;go_wp2_with fail;refine(wN _ _ _ _ _ _ _ _ _ ha hb h0 ra).mono ?_;rintro e w1 ⟨q0,qn,qc,r0,rn,rc,rfl,hQ,hR,hB1⟩;obtain rfl:rn=0:=YV hR HR.out;go_wp2_with fail;go_ret2;exact⟨_,_,_,rfl,hQ,hB1⟩
end
end Go.Proofs.YtmenbpmciblnlaaGreatDoor

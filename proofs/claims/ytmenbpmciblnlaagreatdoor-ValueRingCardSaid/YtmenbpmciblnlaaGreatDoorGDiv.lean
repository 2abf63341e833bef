import Derived.Test.YtmenbpmciblnlaaGreatDoorGTimes
set_option maxHeartbeats 0
set_option maxRecDepth 100000
open Go renaming World->ah5
open Go.Lib renaming bitLen->ah7,hid->ah6
open Go.RowKit renaming Below->ah8
open Go.Value renaming slice->ah9
open List renaming drop_eq_nil_of_le->aj1,drop_zero->aj2,getD->ai1,length_replicate->ai9,length_set->ai7,length_take->ai2,mem_replicate->aj0,replicate->ai8,set_append_right->ai5,take_add->ai4,take_append_drop->ai6,take_left'->ai3,take_of_length_le->ai0
open Nat renaming add_assoc->al0,add_mul->ak0,add_mul_mod_self_left->al7,add_sub_cancel->ak2,add_zero->am1,div_add_mod->aj7,div_eq_of_lt->am0,div_lt_iff_lt_mul->am2,eq_zero_or_pos->al1,le_refl->am5,le_trans->ak5,lt_of_lt_of_le->ak6,lt_or_ge->ak4,mod_eq_of_lt->al3,mod_lt->aj8,mul_add->aj3,mul_add_mod->al2,mul_assoc->aj6,mul_comm->aj9,mul_le_mul->ak7,mul_le_mul_left->ak1,mul_le_mul_right->ak3,mul_left_comm->aj5,mul_lt_mul_of_pos_right->al5,mul_one->aj4,pow_add->al4,pow_le_pow_right->ak9,pow_succ->ak8,pow_zero->al9,two_pow_pos->al6,zero_add->al8,zero_le->am3,zero_mul->am4
namespace Go.Proofs.YtmenbpmciblnlaaGreatDoor
section
structure cU (r V P v1 v2 u0 u1 u2 vl rl:Nat):Prop where
 ev:V=P*(v1*4294967296+v2)+vl
 vlt:vl<P
 er:r=P*((u0*4294967296+u1)*4294967296+u2)+rl
 rlt:rl<P
 lt:r<4294967296*V
 top:2147483648<=v1
 bv1:v1<4294967296
 bv2:v2<4294967296
 bu0:u0<4294967296
 bu1:u1<4294967296
 bu2:u2<4294967296
structure jd (r V v1 W g s:Nat):Prop where
 sum:g*v1+s=W
 xU:r<(g+1)*V
theorem cU.IU {r V P v1 v2 u0 u1 u2 vl rl:Nat} (h:cU r V P v1 v2 u0 u1 u2 vl rl):r<P*((u0*4294967296+u1)*4294967296+u2+1):=by
 rw[h.er,aj3 P _ 1,aj4];have:=h.rlt;omega
theorem cU.N4 {r V P v1 v2 u0 u1 u2 vl rl:Nat} (h:cU r V P v1 v2 u0 u1 u2 vl rl) (g:Nat):P*(g*v1*4294967296+g*v2)<=g*V:=by
 rw[h.ev,aj3 g,aj5 g P,aj3 g,<-aj6 g v1];omega
theorem cU.start {r V P v1 v2 u0 u1 u2 vl rl:Nat} (h:cU r V P v1 v2 u0 u1 u2 vl rl):jd r V v1 (u0*4294967296+u1) ((u0*4294967296+u1)/v1) ((u0*4294967296+u1)%v1):=by
 have ht:=h.top;generalize hW:u0*4294967296+u1=W;have hd:=aj7 W v1;have hm:=aj8 W (show 0<v1 by omega);refine⟨by rw[aj9];exact hd,?_⟩;have h1:=h.IU;rw[hW]at h1;have h2:=h.N4 (W/v1+1);have h3:W+1<=(W/v1+1)*v1:=by rw[ak0,aj9 (W/v1)];omega
 have h4:P*(W*4294967296+u2+1)<=P*((W/v1+1)*v1*4294967296+(W/v1+1)*v2):=by
  refine ak1 _ ?_;have:=h.bu2;omega
 omega
theorem cU.KG {r V P v1 v2 u0 u1 u2 vl rl g s W:Nat} (h:cU r V P v1 v2 u0 u1 u2 vl rl) (hI:jd r V v1 W g s) (hg:4294967295<g):jd r V v1 W (g-1) (s+v1):=by
 obtain⟨k,rfl⟩:∃k,g=k+1:=⟨g-1,by omega⟩;refine⟨?_,?_⟩
 ·have:=hI.sum;rw[ak0]at this;rw[ak2];omega
 ·have h1:=h.lt;rw[ak2];have h2:4294967296*V<=(k+1)*V:=ak3 _ (by omega);omega
theorem cU.Hi {r V P v1 v2 u0 u1 u2 vl rl g s:Nat} (h:cU r V P v1 v2 u0 u1 u2 vl rl) (hI:jd r V v1 (u0*4294967296+u1) g s) (hg:s*4294967296+u2<g*v2):jd r V v1 (u0*4294967296+u1) (g-1) (s+v1):=by
 have hg0:g≠0:=by rintro rfl;simp at hg
 have h1:=h.IU;have h2:=h.N4 g;have h3:=hI.sum
 have h4:P*((u0*4294967296+u1)*4294967296+u2+1)<=P*(g*v1*4294967296+g*v2):=by
  refine ak1 _ ?_;rw[<-h3];omega
 obtain⟨k,rfl⟩:∃k,g=k+1:=⟨g-1,by omega⟩;refine⟨?_,?_⟩
 ·rw[ak0]at h3;rw[ak2];omega
 ·rw[ak2];omega
theorem cU.YZ {r V P v1 v2 u0 u1 u2 vl rl:Nat} (h:cU r V P v1 v2 u0 u1 u2 vl rl):u0<=v1:=by
 rcases ak4 v1 u0 with hlt|hge
 ·exfalso
  have h1:=h.lt
  have h2:V<P*(v1*4294967296+v2+1):=by
   rw[h.ev,aj3 P _ 1,aj4];have:=h.vlt;omega
  have h3:P*(v1*4294967296+v2+1)<=P*(u0*4294967296):=ak1 _ (by have:=h.bv2;omega)
  have h4:P*(u0*4294967296)*4294967296<=r:=by
   rw[h.er,aj6 P (u0*4294967296) 4294967296];have:P*(u0*4294967296*4294967296)<=P*((u0*4294967296+u1)*4294967296+u2):=ak1 _ (by omega);exact ak5 this (Nat.le_add_right _ _)
  have h5:V<P*(u0*4294967296):=ak6 h2 h3;generalize P*(u0*4294967296)=Y at h4 h5;clear h2 h3;omega
 ·exact hge
theorem cU.done {r V P v1 v2 u0 u1 u2 vl rl g s:Nat} (h:cU r V P v1 v2 u0 u1 u2 vl rl) (hI:jd r V v1 (u0*4294967296+u1) g s) (hg:g<4294967296) (h3:g*v2<=s*4294967296+u2):g*V<r+V:=by
 have h1:=hI.sum;have h2:P*(g*v1*4294967296+g*v2)<=P*((u0*4294967296+u1)*4294967296+u2):=ak1 _ (by omega)
 have e:g*V=P*(g*v1*4294967296+g*v2)+g*vl:=by
  rw[h.ev,aj3 g,aj5 g P,aj3 g,<-aj6 g v1]
 have h4:g*vl<=4294967295*P:=ak7 (by omega) (Nat.le_of_lt h.vlt);have h5:P*(1*4294967296)<=P*(v1*4294967296+v2):=ak1 _ (by have:=h.top;omega);have h6:=h.ev;have h7:=h.er;have h8:=h.vlt;omega
theorem cU.KH {r V P v1 v2 u0 u1 u2 vl rl g s:Nat} (h:cU r V P v1 v2 u0 u1 u2 vl rl) (hI:jd r V v1 (u0*4294967296+u1) g s) (hs:4294967296<=s):g<4294967296/\ g*v2<=s*4294967296+u2:=by
 have h0:=h.YZ;have h1:=hI.sum
 have hg:g<4294967296:=by
  rcases ak4 g 4294967296 with hlt|hge
  ·exact hlt
  ·exfalso
   have h2:4294967296*v1<=g*v1:=ak3 _ hge;have h3:=h.bu1;have h4:u0*4294967296<=v1*4294967296:=ak3 _ h0;omega
 refine⟨hg,?_⟩;have h2:g*v2<=4294967295*4294967295:=ak7 (by omega) (by have:=h.bv2;omega);omega
theorem N5 {R:List Nat} {n:Nat} (hl:R.length=n+3):au R=4294967296^n*((R.getD (n+2) 0*4294967296+R.getD (n+1) 0)*4294967296+R.getD n 0)+au (R.take n):=by
 have e0:R=R.take (n+3):=by rw[ai0 (by omega)]
 have h1:=bC R (n+2) (by omega);have h2:=bC R (n+1) (by omega);have h3:=bC R n (by omega);rw[<-e0,h2,h3]at h1;have p1:(4294967296:Nat)^(n+1)=4294967296^n*4294967296:=ak8 _ _;have p2:(4294967296:Nat)^(n+2)=4294967296^n*4294967296*4294967296:=by rw[<-p1];exact ak8 _ _
 rw[p1,p2]at h1;rw[h1];generalize (4294967296:Nat)^n=P;generalize R.getD (n+2) 0=x;generalize R.getD (n+1) 0=y;generalize R.getD n 0=z;generalize au (R.take n)=u;rw[aj3,ak0,aj3];have a1:P*4294967296*y=P*(y*4294967296):=by ac_rfl
 have a2:P*4294967296*4294967296*x=P*(x*4294967296*4294967296):=by ac_rfl
 omega
theorem N6 {R:List Nat} {n:Nat} (hl:R.length=n+2):au R=4294967296^n*(R.getD (n+1) 0*4294967296+R.getD n 0)+au (R.take n):=by
 have e0:R=R.take (n+2):=by rw[ai0 (by omega)]
 have h2:=bC R (n+1) (by omega);have h3:=bC R n (by omega);rw[<-e0,h3,ak8]at h2;rw[h2,aj3];have a1:4294967296^n*4294967296*R.getD (n+1) 0=4294967296^n*(R.getD (n+1) 0*4294967296):=by rw[aj6,aj9 4294967296 (R.getD _ _)]
 omega
theorem eY {R:List Nat} (h:Wf R) (t:Nat):R.getD t 0<4294967296:=by
 by_cases ht:t<R.length
 ·simp only[ai1,List.getElem?_eq_getElem ht,Option.getD_some];exact h _ (List.getElem_mem ht)
 ·simp[ai1,List.getElem?_eq_none (by omega:R.length<=t)]
theorem ie {xs:List Nat} (h:Wf xs) (n:Nat):au (xs.take n)<4294967296^n:=by
 have h1:=dG _ (h.take n);refine ak6 h1 (ak9 (by omega) ?_);rw[ai2];omega
theorem DF {R D:List Nat} {n:Nat} (hR:Wf R) (hD:Wf D) (lR:R.length=n+3) (lD:D.length=n+2) (ht:2147483648<=D.getD (n+1) 0) (hlt:au R<4294967296*au D):
  cU (au R) (au D) (4294967296^n) (D.getD (n+1) 0) (D.getD n 0) (R.getD (n+2) 0) (R.getD (n+1) 0) (R.getD n 0) (au (D.take n)) (au (R.take n)):=
 ⟨N6 lD,ie hD n,N5 lR,ie hR n,hlt,ht,eY hD _,eY hD _,eY hR _,eY hR _,eY hR _⟩
def sN (R D:List Nat) (S m k c b:Nat):Prop:=∃T,au R+T=S+4294967296^k*b/\ T+4294967296^k*c=au (D.take k)*m
theorem GA (R D:List Nat) (m:Nat):sN R D (au R) m 0 0 0:=⟨0,by simp,by simp[au]⟩
theorem KI {R D:List Nat} {S m k c b:Nat} (h:sN R D S m k c b) (hR:Wf R) (hk:k<R.length) (hd:k<D.length) (hb:b<=1):
  sN (R.set k (ig (R.getD k 0) ((c+D.getD k 0*m)%4294967296) b)) D S m (k+1) ((c+D.getD k 0*m)/4294967296) (im (R.getD k 0) ((c+D.getD k 0*m)%4294967296) b):=by
 obtain⟨T,h1,h2⟩:=h;refine⟨T+4294967296^k*((c+D.getD k 0*m)%4294967296),pD hk (eY hR k) (aj8 _ (by omega)) hb h1,?_⟩;rw[bC D k hd,ak0,<-h2,ak8,aj6 (4294967296^k) 4294967296,aj6 (4294967296^k) (D.getD k 0),al0,<-aj3,al0,<-aj3]
 congr 2
 omega
theorem KJ {R D:List Nat} {S m n c b:Nat} (h:sN R D S m n c b) (hR:Wf R) (hk:n<R.length) (hD:D.length=n) (hb:b<=1) (hc:c<4294967296):
  au (R.set n (ig (R.getD n 0) c b))+au D*m=S+4294967296^(n+1)*im (R.getD n 0) c b:=by
 obtain⟨T,h1,h2⟩:=h;rw[ai0 (by omega)]at h2;have:=pD hk (eY hR n) hc hb h1;rw[<-h2];exact this
theorem KL {r V q s n:Nat} (h:s+V*q=r) (hlow:r<(q+1)*V) (hV:V<4294967296^n):s<V/\ s<4294967296^n:=by
 rw[ak0,aj9 q]at hlow;omega
theorem N7 {r V q s c t n:Nat} (h:s+V*q=r+4294967296^(n+1)) (hs:s<4294967296^(n+1)) (hup:q*V<r+V) (hV:V<4294967296^n) (hput:t+4294967296^n*c=s%4294967296^n+V) (hc:c<=1) (ht:t<4294967296^n):
  0<q/\ t+V*(q-1)=r/\ t<V:=by
 have hq:0<q:=by
  rcases al1 q with h0|h0
  ·rw[h0]at h;omega
  ·exact h0
 obtain⟨k,rfl⟩:∃k,q=k+1:=⟨q-1,by omega⟩;rw[ak2];rw[aj9 V,ak0]at h;rw[ak0]at hup;rw[aj9 V k];rw[ak8]at h hs;generalize 4294967296^n=P at*
 generalize k*V=K at*
 obtain⟨u,hu⟩:∃u,u=s-P*4294967295:=⟨_,rfl⟩;have e1:s=P*4294967295+u:=by omega
 have e2:s%P=u:=by
  rw[e1,al2,al3];omega
 rw[e2]at hput;rcases ak4 c 1 with h1|h1
 ·obtain rfl:c=0:=by omega
  omega
 ·obtain rfl:c=1:=by omega
  omega
structure nP (A V n j:Nat) (zs:List Nat):Prop where
 sum:au (zs.drop (j+n))*V*4294967296^j+au (zs.take (j+n))=A
 lt:au (zs.take (j+n))<V*4294967296^j
theorem GC {A V n m:Nat} {zs:List Nat} (hl:zs.length=m+1) (hv:au zs=A) (hn:n<=m) (hlt:A<V*4294967296^(m-n+1)):nP A V n (m-n+1) zs:=by
 have e:m-n+1+n=m+1:=by omega
 refine⟨?_,?_⟩
 ·rw[e,List.drop_of_length_le (by omega),ai0 (by omega),hv];simp[au]
 ·rw[e,ai0 (by omega),hv];exact hlt
theorem KM {A V n i q r:Nat} {zs R':List Nat} (h:nP A V n (i+1) zs) (hw:Wf zs) (hn:i+n+1<=zs.length) (hR:R'.length=n) (hr:au R'=r) (hq:r+V*q=au ((zs.drop i).take (n+1))) (hlt:r<V):
  nP A V n i (zs.take i++((R'++[q])++zs.drop (i+(n+1)))):=by
 have li:(zs.take i).length=i:=by rw[ai2];omega
 have e0:zs.take i++((R'++[q])++zs.drop (i+(n+1)))=(zs.take i++R')++(q::zs.drop (i+(n+1))):=by simp
 have l2:(zs.take i++R').length=i+n:=by rw[List.length_append,li,hR]
 have e1:(zs.take i++((R'++[q])++zs.drop (i+(n+1)))).take (i+n)=zs.take i++R':=by rw[e0,ai3 l2]
 have e2:(zs.take i++((R'++[q])++zs.drop (i+(n+1)))).drop (i+n)=q::zs.drop (i+(n+1)):=by rw[e0,List.drop_left' l2]
 have e3:zs.take (i+1+n)=zs.take i++(zs.drop i).take (n+1):=by
  rw[show i+1+n=i+(n+1)from by omega,ai4]
 have h1:=h.sum;have h2:=h.lt;rw[e3,bW,li]at h1 h2;rw[show i+1+n=i+(n+1)from by omega]at h1;have hlow:au (zs.take i)<4294967296^i:=by have:=dG _ (hw.take i);rwa[li]at this
 refine⟨?_,?_⟩
 ·rw[e1,e2,bW,li,bu,hr,<-h1,<-hq,ak8,aj3,ak0,ak0];generalize au (zs.drop (i+(n+1)))=H;generalize 4294967296^i=P;have a1:4294967296*H*V*P=H*V*(P*4294967296):=by ac_rfl
  have a2:q*V*P=P*(V*q):=by ac_rfl
  omega
 ·rw[e1,bW,li,hr,aj9 V];have:4294967296^i*(r+1)<=4294967296^i*V:=ak1 _ hlt;rw[aj3]at this;omega
theorem N8 {A V n i:Nat} {zs:List Nat} (h:nP A V n (i+1) zs) (hn:i+n+1<=zs.length):au ((zs.drop i).take (n+1))<4294967296*V:=by
 have li:(zs.take i).length=i:=by rw[ai2];omega
 have h2:=h.lt;rw[show i+1+n=i+(n+1)from by omega,ai4,bW,li,ak8]at h2
 have h3:4294967296^i*au ((zs.drop i).take (n+1))<4294967296^i*(4294967296*V):=by
  have:V*(4294967296^i*4294967296)=4294967296^i*(4294967296*V):=by ac_rfl
  omega
 exact Nat.lt_of_mul_lt_mul_left h3
theorem RL {V j:Nat} (h1:4294967296^j*2147483648<=V) (h2:V<4294967296^(j+1)):(aq V).length=j+1/\ 2147483648<=(aq V).getD j 0:=by
 have hl:=pE h2;have hv:=dG (aq V) (dv V);rw[av]at hv
 have hlen:(aq V).length=j+1:=by
  rcases ak4 j (aq V).length with h|h
  ·omega
  ·have h3:4294967296^(aq V).length<=4294967296^j:=ak9 (by omega) h;omega
 refine⟨hlen,?_⟩;have ht:=bC (aq V) j (by omega);rw[cE _ _ hlen,av]at ht;have hlow:=ie (dv V) j;rcases ak4 ((aq V).getD j 0) 2147483648 with h|h
 ·have h3:4294967296^j*((aq V).getD j 0+1)<=4294967296^j*2147483648:=ak1 _ h;rw[aj3,aj4]at h3;omega
 ·exact h
theorem KN {C j s:Nat} (hl:(aq C).length=j+1) (h1:2147483648<=(aq C).getD j 0*2^s) (h2:(aq C).getD j 0*2^s<4294967296) (hs:s<32):
  4294967296^j*2147483648<=C*2^s/\ C*2^s<4294967296^(j+1):=by
 have ht:=bC (aq C) j (by omega);rw[cE _ _ hl,av]at ht;have hlow:=ie (dv C) j;generalize (aq C).getD j 0=x at*
 generalize au ((aq C).take j)=l at*
 have e:(4294967296:Nat)=2^(32-s)*2^s:=by rw[<-al4,show 32-s+s=32 from by omega]
 have hx:x+1<=2^(32-s):=by
  have h3:x*2^s<2^(32-s)*2^s:=by rw[<-e];exact h2
  exact Nat.lt_of_mul_lt_mul_right h3
 constructor
 ·have h4:=ak1 (4294967296^j) h1;rw[<-aj6]at h4;have h5:4294967296^j*x*2^s<=C*2^s:=ak3 _ (by omega);exact ak5 h4 h5
 ·have h4:C<4294967296^j*(x+1):=by rw[aj3,aj4];omega
  have h5:4294967296^j*(x+1)<=4294967296^j*2^(32-s):=ak1 _ hx;have h6:C*2^s<4294967296^j*2^(32-s)*2^s:=al5 (ak6 h4 h5) (al6 s);rw[ak8]
  calc C*2^s<4294967296^j*2^(32-s)*2^s:=h6
   _=4294967296^j*4294967296:=by rw[aj6,<-e]
theorem KO {A V s n m:Nat} (hA:A<4294967296^m) (hV:4294967296^(n-1)*2147483648<=V) (hs:s<32) (hn:1<=n) (hm:n<=m):A*2^s<V*4294967296^(m-n+1)/\ A*2^s<4294967296^(m+1):=by
 have h1:2^s<=2^31:=ak9 (by omega) (by omega);have h2:A*2^s<4294967296^m*2^31:=ak6 (al5 hA (al6 s)) (ak1 _ h1);have h3:=ak3 (4294967296^(m-n+1)) hV;have e:(4294967296:Nat)^m=4294967296^(n-1)*4294967296^(m-n+1):=by rw[<-al4];congr 1;omega
 have e2:4294967296^(n-1)*2147483648*4294967296^(m-n+1)=4294967296^m*2147483648:=by rw[e];ac_rfl
 rw[e2]at h3;have e3:(4294967296:Nat)^(m+1)=4294967296^m*4294967296:=ak8 _ _;have e4:(2:Nat)^31=2147483648:=by decide
 rw[e4]at h2;rw[e3];clear e e2 e3 e4 h1 hV hA;generalize 4294967296^m=P at*
 generalize A*2^s=X at*
 exact⟨ak6 h2 h3,ak6 h2 (ak1 _ (by omega))⟩
theorem xw {R:List Nat} {n:Nat} (hl:R.length=n+1) (h:au R<4294967296^n):au (R.take n)=au R:=by
 have ht:=bC R n (by omega);rw[cE _ _ hl]at ht;rcases al1 (R.getD n 0)with h0|h0
 ·rw[h0]at ht;omega
 ·have:4294967296^n*1<=4294967296^n*R.getD n 0:=ak1 _ h0;omega
theorem N9 {R:List Nat} {n q:Nat} (hl:R.length=n+1):R.set n q=R.take n++[q]:=by
 have e:R=R.take n++[R.getD n 0]:=by rw[<-cv R n (by omega),cE _ _ hl]
 have l:(R.take n).length=n:=by rw[ai2];omega
 rw[e,ai5 _ _ (by omega),l,Nat.sub_self,ai3 l];rfl
theorem RM {R R':List Nat} {n c V:Nat} (hl:R.length=n+1) (hl':R'.length=n+1) (h:au R'+4294967296^n*c=au R+V) (ht:R'.getD n 0=R.getD n 0) (hR:Wf R):
  au (R'.take n)+4294967296^n*c=au R%4294967296^n+V:=by
 have h1:=bC R n (by omega);have h2:=bC R' n (by omega);rw[cE _ _ hl]at h1;rw[cE _ _ hl',ht]at h2;have h3:=ie hR n
 have h4:au R%4294967296^n=au (R.take n):=by
  rw[h1,al7,al3 h3]
 rw[h4];omega
theorem Oa {a b p n:Nat} {zs:List Nat} (hp:0<p) (hb:0<b) (h:nP (a*p) (b*p) n 0 zs):au (zs.drop n)=a/b/\ au (zs.take n)/p=a%b:=by
 have h1:=h.sum;have h2:=h.lt;rw[al8,al9,aj4]at h1 h2;generalize au (zs.drop n)=Q at*
 generalize au (zs.take n)=S at*
 have hbp:0<b*p:=Nat.mul_pos hb hp
 have e1:a*p/(b*p)=Q:=by
  rw[<-h1,aj9 Q,Nat.mul_add_div hbp,am0 h2,am1]
 have e2:a*p%(b*p)=S:=by
  rw[<-h1,aj9 Q,al2,al3 h2]
 rw[Nat.mul_div_mul_right _ _ hp]at e1;rw[Nat.mul_mod_mul_right]at e2;refine⟨e1.symm,?_⟩;rw[<-e2,Nat.mul_div_cancel _ hp]
end
section
open Go.RowKit
theorem BD (a b:Nat) (ha:a<4294967296) (hb:b<4294967296):bits BinOp.or IntKind.u64 (((a:Nat):Int)*4294967296) ((b:Nat):Int)=((a*4294967296+b:Nat):Int):=by
 have h:=IV b a 32 (by omega) (by omega);rw[show((2^32*a:Nat):Int)=((a:Nat):Int)*4294967296 from by omega]at h;rw[h]
 congr 1
 omega
theorem IW (a b:Nat):((a:Nat):Int).tdiv ((b:Nat):Int)=((a/b:Nat):Int):=rfl
theorem IX (a b:Nat):((a:Nat):Int).tmod ((b:Nat):Int)=((a%b:Nat):Int):=rfl
theorem zm (h l y:Nat) (w:ah5) (hh:h<y) (hl:l<4294967296) (hy:y<4294967296):
  Calls Tryz.prog 241 #[.int .u32 (h:Int),.int .u32 (l:Int),.int .u32 (y:Int)] w (jF (.tuple #[.int .u32 (((h*4294967296+l)/y:Nat):Int),.int .u32 (((h*4294967296+l)%y:Nat):Int)]) w):=by
 have hy0:(((y:Nat):Int) !=0)=true:=by simp;omega
 have hlt:decide (((y:Nat):Int)<=((h:Nat):Int))=false:=by simp;omega
 have hq:(h*4294967296+l)/y<4294967296:=by
  rw[am2 (by omega)];have:(h+1)*4294967296<=y*4294967296:=ak3 _ hh;omega
 have hr:(h*4294967296+l)%y<y:=aj8 _ (by omega);have HO:=ah6 (BD h l (by omega) hl);obtain⟨Q,hQ⟩:∃Q,Q=(h*4294967296+l)/y:=⟨_,rfl⟩;obtain⟨R,hR⟩:∃R,R=(h*4294967296+l)%y:=⟨_,rfl⟩;rw[<-hQ]at hq ⊢;rw[<-hR]at hr ⊢;have hrl:R<4294967296:=by omega
 have HQ:=ah6 hQ;have HR:=ah6 hR;clear hQ hR hr;go_enter Tryz.func241,Tryz.ntmps241;go_wp2;go_quiet (fail);go_wp2;go_ret2;refine⟨wU ?_ ?_,_,rfl⟩
 ·rw[HO.o,IW,<-HQ.o,pN _ (by omega)];omega
 ·rw[HO.o,IX,<-HR.o];omega
def EG (x:Nat):Nat:=32-eM x
theorem Ob (x:Nat) (w:ah5) (hx:x<4294967296):
  Calls Tryz.prog 253 #[.int .u32 (x:Int)] w λe w'=>e= .returned (.int .i64 (EG x:Nat))/\ w'=w:=by
 have HL:Hid (ah7 x=eM x):=sO x hx;have hbl:ah7 x<=32:=by rw[HL.o];exact sP (by omega)
 go_enter Tryz.func253,Tryz.ntmps253;go_wp2_with (go_at_call 191;refine(zP _ _ (by omega) (by omega)).mono ?_;rintro e w' ⟨rfl,rfl⟩;rw[Int.toNat_natCast]);go_ret;refine⟨fe ?_,rfl⟩;unfold EG;rw[HL.o]at hbl ⊢;omega
theorem Oc {x:Nat} (hx:x<4294967296) (h0:x≠0):EG x<32/\ 2147483648<=x*2^EG x/\ x*2^EG x<4294967296:=by
 obtain⟨k,e,h1,h2⟩:=qq h0;have h3:eM x<=32:=sP (by omega);unfold EG;rw[e];have hk:k<=31:=by omega
 refine⟨by omega,?_,?_⟩
 ·have:=ak3 (2^(32-(k+1))) h1;rw[<-al4,show k+(32-(k+1))=31 from by omega]at this;omega
 ·have:=al5 h2 (al6 (32-(k+1)));rw[<-al4,show k+1+(32-(k+1))=32 from by omega]at this;omega
end
section
open Go.RowKit
theorem kz (ao:Z') (n ae:Nat) (xs:List Nat) (w:ah5) (hs:Sl w ao n ae xs):
  Calls Tryz.prog 234 #[ah9 ao n ae] w (Od w (aq (au xs)) n):=by
 have hle:=hs.le;have hbig:=hs.big;have hnl:nl xs<=n:=by have:=fV xs;rw[hs.len]at this;exact this
 have HT:Hid (aq (au xs)=xs.take (nl xs)):=by show _=_;rw[<-cq xs hs.wf,cF]
 have hup:=su hs.wf;obtain⟨b,hb⟩:∃b,b=eM (au xs):=⟨_,rfl⟩;obtain⟨m,hm⟩:∃m,m=nl xs:=⟨_,rfl⟩;rw[<-hb,<-hm]at hup;rw[<-hm]at HT hnl;have HB:=ah6 hb;have hbl:b<=32*m:=by omega
 have hdv:(((b:Nat):Int)+32-1)/32=((m:Nat):Int):=by omega
 have HM:=ah6 hm;clear hb hup hm;go_enter Tryz.func234,Tryz.ntmps234;by_cases h0:m=0
 ·subst h0;go_wp2_with fail;refine(fJ b _ _ _ _ _ hs HB.o.symm).mono ?_;rintro e w' ⟨rfl,rfl⟩;go_wp2_with fail;go_ret;exact⟨_,_,_,rfl,by rw[HT.o];exact Sl.none _,am3 _,rfl⟩
 ·have hb0:(((m:Nat):Int)==0)=false:=by simp;omega
  go_wp2_with fail;refine(fJ b _ _ _ _ _ hs HB.o.symm).mono ?_;rintro e w' ⟨rfl,rfl⟩;go_wp2_with fail;go_ret;exact⟨_,_,_,rfl,by rw[HT.o];exact hs.take m hnl,hnl,rfl⟩
end
section
open Go.RowKit
structure fI (w0:ah5) (g N i:Nat) (L R H:List Nat) (w:ah5):Prop where
 own:bX w0.heap.size w (some ⟨g,0,none⟩) N N (L++(R++H))
 below:ah8 w0.heap.size w0 w
 len:L.length=i
 base:w0.heap.size<=g
theorem fI.ZV {w0:ah5} {g N i:Nat} {L R H:List Nat} {w:ah5} (h:fI w0 g N i L R H w):i+R.length<=N:=by
 have h1:=h.own.len;have h2:=h.len;simp at h1;omega
theorem fI.wf {w0:ah5} {g N i:Nat} {L R H:List Nat} {w:ah5} (h:fI w0 g N i L R H w):Wf R:=λx hx=>h.own.wf x (by simp[hx])
theorem fI.cell {w0:ah5} {g N i:Nat} {L R H:List Nat} {w:ah5} (h:fI w0 g N i L R H w) (k:Nat) (hk:k<R.length):w.cell? ⟨g,i+k,none⟩=some (.int .u32 (R.getD k 0:Nat)):=by
 have h1:=h.own.cell (i+k) (by have:=h.ZV;omega);rw[h1]
 congr 3
 have h2:=h.len;simp only[ai1];rw[List.getElem?_append_right (by omega),List.getElem?_append_left (by omega),h2,show i+k-i=k from by omega]
theorem fI.frozen {w0:ah5} {g N i:Nat} {L R H:List Nat} {w:ah5} (h:fI w0 g N i L R H w) (k:Nat):w.frozen? ⟨g,k,none⟩=false:=h.own.frozen k
theorem fI.set {w0:ah5} {g N i:Nat} {L R H:List Nat} {w:ah5} (h:fI w0 g N i L R H w) (k x:Nat) (hk:k<R.length) (hx:x<4294967296):fI w0 g N i L (R.set k x) H (w.setCell ⟨g,i+k,none⟩ (.int .u32 ((x:Nat):Int))):=by
 refine⟨?_,h.below.setCell h.base _,h.len,h.base⟩;have h1:=h.own.set (i+k) x hx;rw[ai5 _ _ (by rw[h.len];omega),h.len,show i+k-i=k from by omega,List.set_append_left _ _ hk]at h1;exact h1
theorem fI.drewN {w0:ah5} {g N i:Nat} {L R H:List Nat} {w:ah5} (h:fI w0 g N i L R H w) (q:Nat):fI w0 g N i L R H (w.drewN q):=
 ⟨h.own.drewN q,h.below.trans ((below_drewN _ _ _)),h.len,h.base⟩
theorem fI.sl {w0:ah5} {g N i n ae:Nat} {L R H:List Nat} {w:ah5} (h:fI w0 g N i L R H w) (hn:R.length=n) (hc:n<=ae):Sl w (some ⟨g,i,none⟩) n ae R:=
 Sl.eK hn hc (by have:=h.ZV;have:=h.own.big;omega) h.wf λt ht=>h.cell t (by omega)
theorem fI.of {w0:ah5} {g N i n:Nat} {zs:List Nat} {w:ah5} (hO:bX w0.heap.size w (some ⟨g,0,none⟩) N N zs) (hB:ah8 w0.heap.size w0 w) (hg:w0.heap.size<=g) (hn:i+n<=N):
  fI w0 g N i (zs.take i) ((zs.drop i).take n) (zs.drop (i+n)) w:=by
 have hl:=hO.len;refine⟨?_,hB,by rw[ai2];omega,hg⟩;have e:zs.drop (i+n)=(zs.drop i).drop n:=by rw[List.drop_drop]
 rw[e,ai6,ai6];exact hO
end
section
open Lib (hid)
open Go.RowKit
def Oe (r V:Nat) (w:ah5) (e:Ending) (w':ah5):Prop:=
 ∃g q:Nat,e= .returned (.int .u32 (g:Int))/\ g<4294967296/\ r<(g+1)*V/\ g*V<r+V/\ w'=w.drewN q
theorem KP (b off Y6:Nat) (d off2 Y7:Nat) (lr ld:Nat) (R D:List Nat) (w:ah5) (hR:Sl w (some ⟨b,off,none⟩) lr Y6 R) (hD:Sl w (some ⟨d,off2,none⟩) ld Y7 D) (hl:lr=ld+1) (h2:2<=ld) (ht:2147483648<=D.getD (ld-1) 0) (hlt:au R<4294967296*au D):
  Calls Tryz.prog 255 #[ah9 (some ⟨b,off,none⟩) lr Y6,ah9 (some ⟨d,off2,none⟩) ld Y7] w (Oe (au R) (au D) w):=by
 have hbig:=hR.big;have hbc:=hR.le;have hdc:=hD.le;obtain⟨n,hn⟩:∃n,ld=n+2:=⟨ld-2,by omega⟩;obtain⟨j,hj⟩:∃j,j=n+1:=⟨_,rfl⟩;have i1:((ld:Nat):Int)-1=((j:Nat):Int):=by omega
 have i2:((ld:Nat):Int)-2=((n:Nat):Int):=by omega
 have i3:j<ld:=by omega
 have i4:n<ld:=by omega
 rw[show ld-1=n+1 from by omega]at ht;have HF:=hid (DF hR.wf hD.wf (n:=n) (by rw[hR.len];omega) (by rw[hD.len];omega) ht hlt);have c0:=hR.cells _ rfl ld (by omega);have c1:=hR.cells _ rfl j (by omega);have c2:=hR.cells _ rfl n (by omega);have e1:=hD.cells _ rfl j (by omega);have e2:=hD.cells _ rfl n (by omega);rw[Addr.add_lit]at c0 c1 c2 e1 e2;rw[show R.getD ld 0=R.getD (n+2) 0 from by rw[hn]]at c0;rw[show R.getD j 0=R.getD (n+1) 0 from by rw[hj]]at c1;rw[show D.getD j 0=D.getD (n+1) 0 from by rw[hj]]at e1;have i5:ld<lr:=by omega
 have i6:j<lr:=by omega
 have i7:n<lr:=by omega
 clear hj hn hl hR hD ht hlt;obtain⟨u0,hu0⟩:∃x,x=R.getD (n+2) 0:=⟨_,rfl⟩;obtain⟨u1,hu1⟩:∃x,x=R.getD (n+1) 0:=⟨_,rfl⟩;obtain⟨u2,hu2⟩:∃x,x=R.getD n 0:=⟨_,rfl⟩;obtain⟨v1,hv1⟩:∃x,x=D.getD (n+1) 0:=⟨_,rfl⟩;obtain⟨v2,hv2⟩:∃x,x=D.getD n 0:=⟨_,rfl⟩;rw[<-hu0]at c0 HF;rw[<-hu1]at c1 HF;rw[<-hu2]at c2 HF;rw[<-hv1]at e1 HF;rw[<-hv2]at e2 HF;clear hu0 hu1 hu2 hv1 hv2;have f1:=HF.o.top;have f2:=HF.o.bv1;have f3:=HF.o.bv2;have f4:=HF.o.bu0;have f5:=HF.o.bu1;have f6:=HF.o.bu2;have hv0:(((v1:Nat):Int)==0)=false:=by simp;omega
 have HS:=hid HF.o.start;have hWi:=BD u0 u1 f4 f5;obtain⟨W,hW⟩:∃W,W=u0*4294967296+u1:=⟨_,rfl⟩;rw[<-hW]at hWi HS;have hWl:W<18446744073709551616:=by omega
 have HW:=hid hW
 have hg0:W/v1<=8589934592:=by
  have h1:=Nat.div_le_div_left (a:=W) f1 (by omega);have h2:W/2147483648<=8589934592:=by omega
  omega
 have hs0:W%v1<v1:=aj8 _ (by omega);clear hW;obtain⟨G,hG⟩:∃G,G=W/v1:=⟨_,rfl⟩;obtain⟨S,hS⟩:∃S,S=W%v1:=⟨_,rfl⟩;rw[<-hG]at hg0 HS;rw[<-hS]at hs0 HS;have hGi:=IW W v1;have hSi:=IX W v1;rw[<-hG]at hGi;rw[<-hS]at hSi;have HG:=hid hG;have Ug:=hid hS;have YK:=hid hWl;have hv1:¬(((v1:Nat):Int)=0):=by omega
 clear hG hS hWl;go_enter Tryz.func255,Tryz.ntmps255;go_wp2;go_step3;go_wp2;go_quiet (fail);go_wp2;go_quiet (fail);go_wp2;go_quiet (fail);go_wp2;go_step3;go_wp2;go_loopw [10,11,53] (λl s _ wr=>∃gg ss q:Nat,l= .int .u64 gg/\ s= .int .u64 ss/\ gg<=8589934592/\ ss<=8589934592/\ Hid (jd (au R) (au D) v1 W gg ss)/\ wr=w.drewN q) (λ_ s _ _=>17179869184-(intOf s).toNat)
 case atStart=>exact⟨G,S,_,rfl,rfl,hg0,by omega,HS,by rw[World.drewN_drewN,World.drewN_drewN]⟩
 case round=>
  clear HS hg0 hs0 hGi hSi hWi HG Ug;obtain⟨gg,ss,q,rfl,rfl,hgb,hsb,HI,rfl⟩:=hrel;have HI2:Hid (jd (au R) (au D) v1 (u0*4294967296+u1) gg ss):=by rw[Hid,<-HW.o];exact HI.o
  by_cases hs:4294967295<ss
  ·have d1:decide (((ss:Nat):Int)<=4294967295)=false:=by simp;omega
   have hd:=HF.o.KH HI2.o (by omega);have hgl:=hd.1;have HD:=hid (HF.o.done HI2.o hd.1 hd.2);clear hd;go_wp2;rw[Exit.noGoto_ret];go_ret;exact⟨gg,q,rfl,hgl,HI2.o.xU,HD.o,rfl⟩
  ·by_cases hg:4294967295<gg
   ·have d1:decide (((gg:Nat):Int)<=4294967295)=false:=by simp;omega
    have HN:=hid (HF.o.KG HI2.o hg);have hs2:ss<4294967296:=by omega
    go_wp2;go_roundw
    case rel=>exact⟨gg-1,ss+v1,q,by go_num,by go_num,by omega,by omega,by rw[Hid,HW.o];exact HN.o,rfl⟩
    case measure=>simp[intOf];omega
   ·have hs2:ss<4294967296:=by omega
    have hg2:gg<4294967296:=by omega
    have hor:=BD ss u2 hs2 f6;obtain⟨T,hT⟩:∃T,T=ss*4294967296+u2:=⟨_,rfl⟩;rw[<-hT]at hor;have hwide:=(xx (z:=0) (c:=0) hg2 f3 (by omega) (by omega)).1;obtain⟨m,hm⟩:∃m,m=gg*v2:=⟨_,rfl⟩;rw[<-hm]at hwide;have UG:((gg:Nat):Int)*((v2:Nat):Int)=((m:Nat):Int):=by rw[hm];simp
    have HT:=hid hT;have HM:=hid hm;clear hT hm;by_cases h3:T<m
    ·have d3:decide (T<m)=true:=by simpa using h3
     have HN:=hid (HF.o.Hi HI2.o (by rw[<-HT.o,<-HM.o];exact h3))
     have hg1:1<=gg:=by
      rcases al1 gg with h0|h0
      ·rw[HM.o,h0,am4]at h3;omega
      ·exact h0
     go_wp2;go_roundw
     case rel=>exact⟨gg-1,ss+v1,q,by go_num,by go_num,by omega,by omega,by rw[Hid,HW.o];exact HN.o,rfl⟩
     case measure=>simp[intOf];omega
    ·have d3:decide (T<m)=false:=by simpa using h3
     have HD:=hid (HF.o.done HI2.o hg2 (by rw[<-HT.o,<-HM.o];omega));go_wp2;rw[Exit.noGoto_ret];go_ret;exact⟨gg,q,rfl,hg2,HI2.o.xU,HD.o,rfl⟩
end
section
open Go.RowKit
def GD (w0:ah5) (g N i:Nat) (L H D:List Nat) (l S m k c b:Nat) (w:ah5):Prop:=
 ∃R,fI w0 g N i L R H w/\ R.length=l/\ sN R D S m k c b
def BF (w0:ah5) (g N i:Nat) (L R H:List Nat) (V m n:Nat) (e:Ending) (w:ah5):Prop:=
 ∃R':List Nat,∃b:Nat,e= .returned (.bool (((b:Nat):Int) !=0))/\ b<=1/\ fI w0 g N i L R' H w/\ R'.length=n+1/\ au R'+V*m=au R+4294967296^(n+1)*b
theorem DG (w0 w:ah5) (g N i ae:Nat) (L R H:List Nat) (d0:Z') (n dc:Nat) (D:List Nat) (m:Nat) (hd:Sl w0 d0 n dc D) (hR:fI w0 g N i L R H w) (hl:R.length=n+1) (hcap:n+1<=ae) (hm:m<4294967296):
  Calls Tryz.prog 256 #[ah9 (some ⟨g,i,none⟩) (n+1) ae,ah9 d0 n dc,.int .u32 (m:Int)] w (BF w0 g N i L R H (au D) m n):=by
 have b1:=hd.big;have l1:=hd.le;have hI:GD w0 g N i L H D (n+1) (au R) m 0 0 0 w:=⟨R,hR,hl,GA _ _ _⟩;go_enter Tryz.func256,Tryz.ntmps256;clear hR;go_wp2_with fail;go_loopw [7,8,9,10,14] (λc b _ _ j wr=>∃k cc bb:Nat,k<=n/\ j= .int .i64 k/\ c= .int .u64 cc/\ cc<4294967296/\ b= .int .u32 bb/\ bb<=1/\ GD w0 g N i L H D (n+1) (au R) m k cc bb wr) (λ_ _ _ _ j _=>n-(intOf j).toNat)
 case atStart=>exact⟨0,0,0,am3 _,rfl,rfl,by omega,rfl,by omega,hI⟩
 case round=>
  clear hI;obtain⟨k,cc,bb,hk,rfl,rfl,hcc,rfl,hbb,R',hR,hl',hV⟩:=hrel;by_cases hkn:k<n
  ·obtain⟨b,off,rfl,hbB,hcb⟩:=hd.at (by omega);have hxc:wr.cell? ⟨b,off+k,none⟩=some (.int .u32 (D.getD k 0:Nat)):=(hR.below.cell (by exact hbB)).trans (hcb k (by omega));have hzc:=hR.cell k (by omega);have vy:=hR.frozen (i+k);have hxl:=hd.bJ k;have hzl:=eY hR.wf k;have hstep:=KI hV hR.wf (by omega) (by rw[hd.len];omega) hbb;obtain⟨x,hx⟩:∃x,x=D.getD k 0:=⟨_,rfl⟩;obtain⟨z,hz⟩:∃z,z=R'.getD k 0:=⟨_,rfl⟩;rw[<-hx]at hxc hxl hstep;rw[<-hz]at hzc hzl hstep;have HST:=ah6 hstep;have hw2:=(xx (z:=0) hxl hm (by omega) hcc).2;rw[am1]at hw2;obtain⟨t,ht⟩:∃t,t=x*m:=⟨_,rfl⟩;rw[<-ht]at hw2;have hti:((x:Nat):Int)*((m:Nat):Int)=((t:Nat):Int):=by rw[ht];simp
   obtain⟨u,hu⟩:∃u,u=(cc+t)%4294967296:=⟨_,rfl⟩;obtain⟨v,hv⟩:∃v,v=(cc+t)/4294967296:=⟨_,rfl⟩;have hui:(((cc:Nat):Int)+((t:Nat):Int))%4294967296=((u:Nat):Int):=by omega
   have hvi:(((cc:Nat):Int)+((t:Nat):Int))/4294967296=((v:Nat):Int):=by omega
   have LI:u<4294967296:=by omega
   have hvl:v<4294967296:=by omega
   have HI2:Hid (GD w0 g N i L H D (n+1) (au R) m (k+1) v (im z u bb) (wr.setCell ⟨g,i+k,none⟩ (.int .u32 ((ig z u bb:Nat):Int)))):=by
    refine⟨_,hR.set k _ (by omega) (nQ z u bb),by rw[ai7];exact hl',?_⟩;rw[hu,hv,ht];exact HST.o
   clear hx hz hV hstep hcb ht hu hv HST hR;go_wp2_with (go_at_call 183;refine(qu z u bb _ hzl LI hbb).mono ?_;rintro e w' ⟨rfl,rfl⟩);go_roundw
   case rel=>exact⟨k+1,v,im z u bb,by omega,by go_num,rfl,hvl,rfl,sQ _ _ _,HI2.o⟩
   case measure=>simp[intOf];omega
  ·obtain rfl:k=n:=by omega
   have hzc:=hR.cell k (by omega);have vy:=hR.frozen (i+k);have hzl:=eY hR.wf k;have hlast:=KJ hV hR.wf (by omega) hd.len hbb hcc;obtain⟨z,hz⟩:∃z,z=R'.getD k 0:=⟨_,rfl⟩;rw[<-hz]at hzc hzl hlast;have hcm:((cc:Nat):Int)%4294967296=((cc:Nat):Int):=by omega
   have HI2:Hid (BF w0 g N i L R H (au D) m k (.returned (.bool (((im z cc bb:Nat):Int) !=0))) (wr.setCell ⟨g,i+k,none⟩ (.int .u32 ((ig z cc bb:Nat):Int)))):=
    ⟨_,_,rfl,sQ _ _ _,hR.set k _ (by omega) (nQ z cc bb),by rw[ai7];exact hl',hlast⟩
   clear hz hV hlast hR;go_wp2_with (go_at_call 183;refine(qu z cc bb _ hzl hcc hbb).mono ?_;rintro e w' ⟨rfl,rfl⟩);go_ret;exact HI2.o
end
section
open Go.RowKit
def Tx (w0:ah5) (g N i:Nat) (L H:List Nat) (l S T k c n top:Nat) (w:ah5):Prop:=
 ∃R,fI w0 g N i L R H w/\ R.length=l/\ au R+4294967296^k*c=S+T/\ R.getD n 0=top
def Og (w0:ah5) (g N i:Nat) (L R H:List Nat) (V n:Nat) (e:Ending) (w:ah5):Prop:=
 ∃R':List Nat,∃c:Nat,e= .returned (.tuple #[])/\ c<=1/\ fI w0 g N i L R' H w/\ R'.length=n+1/\ au R'+4294967296^n*c=au R+V/\ R'.getD n 0=R.getD n 0
theorem DI (w0 w:ah5) (g N i ae:Nat) (L R H:List Nat) (d0:Z') (n dc:Nat) (D:List Nat) (hd:Sl w0 d0 n dc D) (hR:fI w0 g N i L R H w) (hl:R.length=n+1) (hcap:n+1<=ae):
  Calls Tryz.prog 257 #[ah9 (some ⟨g,i,none⟩) (n+1) ae,ah9 d0 n dc] w (Og w0 g N i L R H (au D) n):=by
 have b1:=hd.big;have l1:=hd.le;have HX:Hid (D.take n=D):=cE D n hd.len;have hI:Tx w0 g N i L H (n+1) (au R) (au (D.take 0)) 0 0 n (R.getD n 0) w:=⟨R,hR,hl,by simp[au],rfl⟩;go_enter Tryz.func257,Tryz.ntmps257;clear hR;go_wp2_with fail;go_loopw [4,5,6,9] (λc _ _ j wr=>∃k cc:Nat,k<=n/\ j= .int .i64 k/\ c= .int .u32 cc/\ cc<=1/\ Tx w0 g N i L H (n+1) (au R) (au (D.take k)) k cc n (R.getD n 0) wr) (λ_ _ _ j _=>n-(intOf j).toNat)
 case atStart=>exact⟨0,0,am3 _,rfl,rfl,by omega,hI⟩
 case round=>
  clear hI;obtain⟨k,cc,hk,rfl,rfl,hcc,R',hR,hl',hV,hT⟩:=hrel;by_cases hkn:k<n
  ·obtain⟨b,off,rfl,hbB,hcb⟩:=hd.at (by omega);have hxc:wr.cell? ⟨b,off+k,none⟩=some (.int .u32 (D.getD k 0:Nat)):=(hR.below.cell (by exact hbB)).trans (hcb k (by omega));have hzc:=hR.cell k (by omega);have vy:=hR.frozen (i+k);have hxl:=hd.bJ k;have hzl:=eY hR.wf k;have hstep:=jM (y:=D.getD k 0) (by rw[hl'];omega) hV;rw[<-bC D k (by rw[hd.len];omega)]at hstep;obtain⟨x,hx⟩:∃x,x=D.getD k 0:=⟨_,rfl⟩;obtain⟨z,hz⟩:∃z,z=R'.getD k 0:=⟨_,rfl⟩;rw[<-hx]at hxc hxl hstep;rw[<-hz]at hzc hzl hstep;have HST:=ah6 hstep;have HT:=ah6 hT;clear hx hz hV hstep hcb hT;go_wp2_with (go_at_call 180;refine(jz z x cc _ hzl hxl hcc).mono ?_;rintro e w' ⟨rfl,rfl⟩);go_roundw
   case rel=>exact⟨k+1,(z+x+cc)/4294967296,by omega,by go_num,by go_num,by omega,_,hR.set k _ (by omega) (aj8 _ (by omega)),by rw[ai7];exact hl',HST.o,by rw[eH,if_neg (by omega)];exact HT.o⟩
   case measure=>simp[intOf];omega
  ·obtain rfl:k=n:=by omega
   rw[HX.o]at hV;have HV:=ah6 hV;have HT:=ah6 hT;clear hV hT;go_wp2;go_end0;exact⟨R',cc,rfl,hcc,hR,hl',HV.o,HT.o⟩
end
section
open Go.RowKit
theorem uH (ao:Z') (n ae:Nat) (xs:List Nat) (s:Nat) (w:ah5) (ha:Sl w ao n ae xs) (hs:s<=1048576) (hroom:n<=1000000000000):
  Calls Tryz.prog 254 #[ah9 ao n ae,.int .i64 (s:Int)] w (fW w (aq (au xs*2^s))):=by
 go_enter Tryz.func254,Tryz.ntmps254;go_wp2_with fail;refine(RN _ _ _ _ s _ ha hs (by omega)).mono ?_;rintro e w1 ⟨c0,k,c,rfl,hO,hB⟩;go_wp2_with fail;go_ret;exact⟨_,_,_,rfl,hO,hB⟩
def Ty (w:ah5) (q r:Nat) (e:Ending) (w':ah5):Prop:=
 ∃a0 la ca b0 lb cb,e= .returned (.tuple #[ah9 a0 la ca,ah9 b0 lb cb])/\ Sl w' a0 la ca (aq q)/\ Sl w' b0 lb cb (aq r)/\ ah8 w.heap.size w w'
theorem Ve {w:ah5} {ad:Addr} {n ae:Nat} {xs:List Nat} (h:Sl w (some ad) n ae xs) (k:Nat) (hk:n<=k):Sl w (some ad) n k xs:=
 ⟨h.len,hk,h.big,h.wf,(λh=>by cases h),h.cells⟩
theorem Oh (g N n s:Nat) (zs:List Nat) (w:ah5) (hz:Sl w (some ⟨g,0,none⟩) N N zs) (hn:n<N) (hs:s<=31):
  Calls Tryz.prog 258 #[ah9 (some ⟨g,0,none⟩) N N,.int .i64 (n:Int),.int .i64 (s:Int)] w (Ty w (au (zs.drop n)) (au (zs.take n)/2^s)):=by
 have hbig:=hz.big;have S1:=ah6 (Ve (hz.take n (by omega)) n (am5 _));have hd:=IY hz n (by omega);rw[al8]at hd;have S2:=ah6 hd;have hck:(N==n)=false:=by simp;omega
 have ac6:¬(N=n):=by omega
 clear hz hd;go_enter Tryz.func258,Tryz.ntmps258;go_wp2;go_quiet (fail);go_wp2_with fail;refine(RO _ _ _ _ s _ (S1.o.drewN _) (by omega)).mono ?_;rintro e w1 ⟨c0,k,c,rfl,hO,hB⟩;have hB1:ah8 w.heap.size w w1:=(below_drewN _ w _).trans hB;have S3:=ah6 (S2.o.below hB1);have hbr:=ah6 (kz _ _ _ _ _ S3.o);go_wp2_with fail;refine hbr.o.mono ?_;rintro e w2 ⟨a1,n1,c1,rfl,hA,hn1,rfl⟩;go_wp2_with fail;go_ret2;exact⟨_,_,_,_,_,_,rfl,hA,hO.sl,hB1⟩
end
section
open Lib (hid)
open Go.RowKit
theorem KQ {n k:Nat} (h:(aq n).length=k) (h0:0<k):(aq n).getD (k-1) 0≠0:=by
 intro hz;have h1:=km (aq n) (k-1) (by omega) hz;rw[show k-1+1=k from by omega,cE _ _ h,eI,h]at h1;have h2:=fV ((aq n).take (k-1));rw[ai2]at h2;omega
structure KR (A C s n m:Nat):Prop where
 s32:s<32
 ac7:(aq (C*2^s)).length=n
 ac8:2147483648<=(aq (C*2^s)).getD (n-1) 0
 dlt:C*2^s<4294967296^n
 room:A*2^s<C*2^s*4294967296^(m-n+1)
 ac9:(aq (A*2^s)).length<=m+1
theorem GF {A C n m:Nat} (hA:(aq A).length=m) (hC:(aq C).length=n) (hn:2<=n) (hm:n<=m):KR A C (EG ((aq C).getD (n-1) 0)) n m:=by
 have hx0:=KQ hC (by omega);have hxl:(aq C).getD (n-1) 0<4294967296:=eY (dv C) _;obtain⟨t1,t2,t3⟩:=Oc hxl hx0;obtain⟨d1,d2⟩:=KN (j:=n-1) (by omega) t2 t3 t1;rw[show n-1+1=n from by omega]at d2;obtain⟨d3,d4⟩:=RL (j:=n-1) d1 (by rw[show n-1+1=n from by omega];exact d2);have hAl:A<4294967296^m:=by have:=dG (aq A) (dv A);rwa[av,hA]at this
 obtain⟨r1,r2⟩:=KO (m:=m) (n:=n) hAl d1 t1 (by omega) hm;exact⟨t1,by omega,d4,d2,r1,pE r2⟩
structure Oi (w1 w3:ah5) (g N X:Nat) (c0:Option Addr) (cn:Nat) (cz cl:List Value) (zs:List Nat):Prop where
 heap:w3.heap[g]? =some (.cells cz.toArray 192 (0,0))
 len:cl.length=cn
 ad1:cz.length=N
 src:0<cl.length->∃ad,c0=some ad/\∀j v,cl[j]? =some v->w3.cell? (ad.add j)=some v
 one:∀v∈cl,v.oneCell'=true
 lay:splice cz 0 cl=cellsOf zs
 au:au zs=X
 wf:Wf zs
 all:zs.length=N
 below:ah8 w1.heap.size w1 w3
theorem KS {w1 w2 w3:ah5} {g N X:Nat} {c0:Z'} {cn cc:Nat} (hO:bX w1.heap.size w2 (some ⟨g,0,none⟩) N N (ai8 N 0)) (hb:ah8 w1.heap.size w1 w2) (hX:Sl w3 c0 cn cc (aq X)) (hB:ah8 w2.heap.size w2 w3) (hcn:cn<=N):
  ∃cz cl zs,Oi w1 w3 g N X c0 cn cz cl zs:=by
 have hO2:=hO.below hB;have hZ1:∀t,0<=t->(ai8 N 0).getD t 0=0:=λt _=>dp _ _
 have hcl:=hX.len;have e1:=BG (ys:=aq X) hZ1 (by rw[hcl];simp;omega);have f1:Wf _:=GG (k:=0) hO2.wf (dv X);have g1:=BH (zs:=ai8 N 0) (ys:=aq X) (k:=0) (by rw[hcl];simp;omega);have DJ:=tR (ai8 N 0) (aq X) 0;have e2:au (ai8 N 0)+4294967296^0*au (aq X)=X:=by rw[fG,av,al9,Nat.one_mul,al8]
 rw[ai9]at g1;exact⟨_,_,_,(DK hO2).o,by rw[bq,hcl],by rw[bq,ai9],λh0=>hX.Ce h0,fY _,DJ,e1.trans e2,f1,g1,Below.ar hb hB⟩
structure GH (w0:ah5) (g N:Nat) (A V n j:Nat) (zs:List Nat) (w:ah5):Prop where
 own:bX w0.heap.size w (some ⟨g,0,none⟩) N N zs
 below:ah8 w0.heap.size w0 w
 inv:nP A V n j zs
theorem GI (lr:Nat) (w0 w:ah5) (g N i ae:Nat) (L R H:List Nat) (d0:Z') (n dc:Nat) (D:List Nat) (m:Nat) (hd:Sl w0 d0 n dc D) (hR:fI w0 g N i L R H w) (hl:R.length=n+1) (hcap:n+1<=ae) (hm:m<4294967296) (hlr:lr=n+1):
  Calls Tryz.prog 256 #[ah9 (some ⟨g,i,none⟩) lr ae,ah9 d0 n dc,.int .u32 (m:Int)] w (BF w0 g N i L R H (au D) m n):=by
 subst hlr;exact DG _ _ _ _ _ _ _ _ _ _ _ _ _ _ hd hR hl hcap hm
theorem GJ (lr:Nat) (w0 w:ah5) (g N i ae:Nat) (L R H:List Nat) (d0:Z') (n dc:Nat) (D:List Nat) (hd:Sl w0 d0 n dc D) (hR:fI w0 g N i L R H w) (hl:R.length=n+1) (hcap:n+1<=ae) (hlr:lr=n+1):
  Calls Tryz.prog 257 #[ah9 (some ⟨g,i,none⟩) lr ae,ah9 d0 n dc] w (Og w0 g N i L R H (au D) n):=by
 subst hlr;exact DI _ _ _ _ _ _ _ _ _ _ _ _ _ hd hR hl hcap
theorem xy {w0:ah5} {g N i A V n q:Nat} {zs R' L R H:List Nat} {w:ah5} (hL:L=zs.take i) (hRe:R=(zs.drop i).take (n+1)) (hH:H=zs.drop (i+(n+1))) (hI:nP A V n (i+1) zs) (hw:Wf zs) (hn:i+n+1<=zs.length)
  (hR:fI w0 g N i L R' H w) (hl:R'.length=n+1) (hq:q<4294967296) (hv:au (R'.take n)+V*q=au R) (hlt:au (R'.take n)<V):
  ∃zs',GH w0 g N A V n i zs' (w.setCell ⟨g,i+n,none⟩ (.int .u32 ((q:Nat):Int))):=by
 have h1:=hR.set n q (by omega) hq;rw[N9 hl]at h1;subst hL;subst hRe;subst hH;exact⟨_,h1.own,h1.below,KM hI hw hn (by rw[ai2];omega) rfl hv hlt⟩
theorem Oj (a0 b0:Z') (la ca lb cb A C:Nat) (w:ah5) (ha:Sl w a0 la ca (aq A)) (hb:Sl w b0 lb cb (aq C)) (h2:2<=lb) (hge:lb<=la) (ra:la<=1000000000000):
  Calls Tryz.prog 235 #[ah9 a0 la ca,ah9 b0 lb cb] w (Ty w (A/C) (A%C)):=by
 obtain⟨i0,hi,hz0,hz1,hz2⟩:=info_parts Tryz.fx
 have HC0:Hid (0<C):=by
  rw[Hid];rcases al1 C with h|h
  ·have:=hb.len;rw[h,fE]at this;simp at this;omega
  ·exact h
 have HF:=hid (GF ha.len hb.len h2 hge);obtain⟨b,off,rfl,hbb,hcell⟩:=hb.at (by omega);have hxc:=hcell (lb-1) (by omega);have hxl:=hb.bJ (lb-1);obtain⟨x,hx⟩:∃x,x=(aq C).getD (lb-1) 0:=⟨_,rfl⟩;rw[<-hx]at hxc hxl HF;obtain⟨j,hj⟩:∃j,j=lb-1:=⟨_,rfl⟩;rw[<-hj]at hxc;have i1:((lb:Nat):Int)-1=((j:Nat):Int):=by omega
 have i2:j<lb:=by omega
 have hdc:=hb.le;have hac:=ha.le;have Vf:=hid (qC.cons ha (qC.cons hb (qC.nil _)));have HB0:=hid (Below.refl w.heap.size w);obtain⟨s,hs⟩:∃s,s=EG x:=⟨_,rfl⟩;rw[<-hs]at HF;have HS:=hid hs;have ag7:=HF.o.s32;clear ha hb hj hx hcell hs;go_enter Tryz.func235,Tryz.ntmps235;go_wp2_with fail;refine(Ob x _ hxl).mono ?_;rintro e w' ⟨rfl,rfl⟩;rw[<-HS.o];go_wp2_with fail;refine(uH _ _ _ _ s _ Vf.o.tl.head (by omega) (by omega)).mono ?_;rintro e w1 ⟨d0,dn,dc,rfl,hX,hB⟩;rw[av]at hX;have hdn:dn=lb:=by rw[<-hX.len];exact HF.o.ac7
 subst hdn;have ag8:=hX.sl.le;obtain⟨db,ag9,rfl,_,_⟩:=hX.sl.at (by omega);have Ok:=hid (qC.cons hX.sl (Vf.o.below hB));have HB1:=hid (Below.ar HB0.o hB);clear hX hB Vf HB0 HS hxc;go_wp2_with (at_make;refine wpList_make_full _ rfl _ _ 27 rfl w1.heap.size 192 i0 (.int .u32 0) 1 Tryz.underlying27 hi hz0 hz1 _ _ _ _ (la+1) rfl rfl (by omega) (by omega) ?b2 ?b3 (am5 _) ?_)
 case b2=>rw[hz2];omega
 case b3=>unfold maxLen;omega
 intro w2 hown1 hgrow1;rw[gX]at hown1;have hb1:ah8 w1.heap.size w1 w2:=(Below.refl _ _).grown hgrow1 (am5 _) (λk h=>by cases h)
 have mK:bX w1.heap.size w2 (some ⟨w1.heap.size,0,none⟩) (la+1) (la+1) (ai8 (la+1) 0):=
  ⟨hown1,by omega,λx hx=>by rw[(aj0.1 hx).2];omega⟩
 have Jt:=hid mK;have Vg:=hid hb1;clear hown1 hgrow1 hb1 mK
 go_wp2_with (first
  |(go_at_call 254;refine(uH _ _ _ _ s _ (Ok.o.tl.head.below Vg.o) (by omega) (by omega)).mono ?_;rintro e w3 ⟨c0,cn,cc,rfl,hX,hB⟩;rw[av]at hX;have hcn:cn<=la+1:=(by rw[<-hX.len];exact HF.o.ac9);obtain⟨cz,cl,zs,hLR⟩:=KS Jt.o Vg.o hX.sl hB hcn;have Cq:=hid hLR;clear hX hB hLR Jt Vg)
  |((with_reducible refine wpList_copy_splice rfl (.tmp 28) (.tmp 31) 27 27 rfl 192 rfl Tryz.mP _ _ _ _ _ _ rfl rfl w1.heap.size 0 cz 192 Cq.o.heap cl (by rw[Cq.o.len];exact(Nat.min_eq_left (by omega)).symm) (λh=>⟨rfl,Cq.o.src h⟩) (by rw[Cq.o.len,Cq.o.ad1];omega) Cq.o.one w1.heap.size w1 Cq.o.below (am5 _) ?_);intro w4 HG2 hb4;rw[Cq.o.lay]at HG2))
 have hO4:=bX.wW (am5 _) Cq.o.all (by omega) Cq.o.wf HG2.o;have HI:Hid (GH w1 w1.heap.size (la+1) (A*2^s) (C*2^s) dn (la-dn+1) zs w4):=⟨hO4,hb4,GC Cq.o.all Cq.o.au hge HF.o.room⟩;obtain⟨k0,hk0⟩:∃k0,k0=la-dn:=⟨_,rfl⟩;rw[<-hk0]at HI;have hk1:((la:Nat):Int)-((dn:Nat):Int)=((k0:Nat):Int):=by omega
 have hk2:k0+dn<=la:=by omega
 have aL:=hid hk1;have HI1:=hid i1;clear hO4 hb4 hk0 Cq HG2 hk1 i1;go_wp2_with fail;go_loopw [10,11,12] (λp _ _ wr=>∃(jj:Nat) (zs':List Nat),jj<=k0+1/\ p= .int .i64 ((jj:Int)-1)/\ GH w1 w1.heap.size (la+1) (A*2^s) (C*2^s) dn jj zs' wr) (λp _ _ _=>(intOf p+1).toNat)
 case atStart=>exact⟨k0+1,zs,am5 _,by rw[aL.o];go_num,HI.o⟩
 case round=>
  clear HI;obtain⟨jj,zs',hjj,rfl,hO,hB,hI⟩:=hrel;by_cases hj0:jj=0
  ·subst hj0;have ht:=Oh w1.heap.size (la+1) dn s zs' wr hO.sl (by omega) (by omega);obtain⟨q1,q2⟩:=Oa (al6 s) HC0.o hI;rw[q1,q2]at ht;have HT:=hid ht;have xZ:=hid (Below.ar HB1.o hB);clear ht q1 q2 hO hB hI;go_wp2_with fail;refine HT.o.mono ?_;rintro e w5 ⟨p0,pn,pc,r0,rn,rc,rfl,hQ,hR,hB5⟩;go_wp2_with fail;go_ret2;exact⟨_,_,_,_,_,_,rfl,hQ,hR,Below.ar xZ.o hB5⟩
  ·obtain⟨i,rfl⟩:∃i,jj=i+1:=⟨jj-1,by omega⟩;have ei:((i+1:Nat):Int)-1=(i:Int):=by omega
   rw[ei];clear ei;have hR:=fI.of (n:=dn+1) hO hB (am5 _) (by omega:i+(dn+1)<=la+1);have hrow:=N8 hI (by rw[hO.len];omega);have hrl:((zs'.drop i).take (dn+1)).length=dn+1:=by rw[ai2,List.length_drop,hO.len];omega
   have Om:=hid (λ(R':List Nat) (w:ah5) (q:Nat)=>xy (w0:=w1) (g:=w1.heap.size) (N:=la+1) (q:=q) (R':=R') (w:=w) rfl rfl rfl hI hO.wf (by rw[hO.len];omega));obtain⟨L,hL⟩:∃L,L=zs'.take i:=⟨_,rfl⟩;obtain⟨R,hRe⟩:∃R,R=(zs'.drop i).take (dn+1):=⟨_,rfl⟩;obtain⟨H,hH⟩:∃H,H=zs'.drop (i+(dn+1)):=⟨_,rfl⟩;rw[<-hL,<-hRe,<-hH]at hR Om;rw[<-hRe]at hrow hrl;have Vh:=hid hrow;have Cm:=hid hrl;have hDS:=hid (Ok.o.head.below hB);clear hL hRe hH hrow hrl hO hI hj0;go_wp2_with fail;refine(KP _ _ _ _ _ _ _ _ R (aq (C*2^s)) _ (hR.sl (by rw[Cm.o];omega) (by omega)) hDS.o (by omega) h2 HF.o.ac8 (by rw[av];exact Vh.o)).mono ?_;rintro e w' ⟨gg,q,rfl,hgl,hlow,hup,rfl⟩;rw[av]at hlow hup;have JY:=hid hlow;have Y8:=hid hup;have hR1:=hR.drewN q;clear hlow hup hR hDS hB;go_wp2_with fail;refine(GI _ w1 _ _ _ _ _ L R H _ dn dc (aq (C*2^s)) gg Ok.o.head hR1 Cm.o (by omega) hgl (by omega)).mono ?_;rintro e w6 ⟨R',bb,rfl,ad2,hR2,hl2,hv2⟩;rw[av]at hv2;have vy:=hR2.frozen (i+dn);have hzc:=hR2.cell dn (by omega);have hs2:au R'<4294967296^(dn+1):=by have:=dG R' hR2.wf;rwa[hl2]at this
   by_cases hb0:bb=0
   ·subst hb0;rw[Nat.mul_zero,am1]at hv2;obtain⟨r1,r2⟩:=KL hv2 JY.o HF.o.dlt;have ht:=xw hl2 r2;obtain⟨Tz,hz2'⟩:=Om.o R' w6 gg hR2 hl2 hgl (by rw[ht];exact hv2) (by rw[ht];exact r1);have HZ2:=hid hz2';clear hv2 r1 r2 ht hz2' hs2 JY Y8 Om hR1 Cm hl2 Vh hR2;go_wp2_with fail;go_roundw
    case rel=>exact⟨i,Tz,by omega,by go_num,HZ2.o⟩
    case measure=>simp[intOf]
   ·obtain rfl:bb=1:=by omega
    have hg0:1<=gg:=by
     rcases al1 gg with h0|h0
     ·rw[h0]at hv2;omega
     ·exact h0
    obtain⟨g1,hg1⟩:∃g1,g1=gg-1:=⟨_,rfl⟩;have hg2:((gg:Nat):Int)-1=((g1:Nat):Int):=by omega
    have ad3:g1<4294967296:=by omega
    have LM:=hid hg1;have LN:=hid hv2;have HS2:=hid hs2;have HW2:=hid hR2.wf;have HP:=hid (GJ (i+dn+1-i) w1 w6 _ _ _ (la+1-i) L R' H _ dn dc (aq (C*2^s)) Ok.o.head hR2 hl2 (by omega) (by omega));have HL2:=hid hl2;clear hv2 hs2 hg1 Vh hl2 hR1 hR2 hzc vy Cm hb0 ad2;go_wp2_with fail;refine HP.o.mono ?_;rintro e w7 ⟨R3,c,rfl,hc,PW,hl3,hv3,ht3⟩;rw[av]at hv3;have vy:=PW.frozen (i+dn);have hzc:=PW.cell dn (by omega);have hput:=RM HL2.o hl3 hv3 ht3 HW2.o;obtain⟨_,r2,r3⟩:=N7 (by have:=LN.o;rwa[aj4]at this) HS2.o Y8.o HF.o.dlt hput hc (ie PW.wf dn);rw[<-LM.o]at r2;obtain⟨Tz,hz2'⟩:=Om.o R3 w7 g1 PW hl3 ad3 r2 r3;have HZ2:=hid hz2';clear hput r2 r3 hz2' hv3 ht3 hl3 HP LN HS2 HW2 HL2 LM JY Y8 Om PW;go_wp2_with fail;go_roundw
    case rel=>exact⟨i,Tz,by omega,by go_num,HZ2.o⟩
    case measure=>simp[intOf]
end
section
open Go.RowKit
def Y9 (w:ah5) (q r:Nat) (er:Int) (e:Ending) (w':ah5):Prop:=
 ∃ao n ae,e= .returned (.tuple #[ah9 ao n ae,.int .u32 (r:Int),.int .i64 er])/\ Sl w' ao n ae (aq q)/\ ah8 w.heap.size w w'
theorem wG {Q r X x d:Nat} (h:Q*d+r=X):(((r*4294967296+x)/d)+4294967296*Q)*d+(r*4294967296+x)%d=x+4294967296*X:=by
 have h1:=aj7 (r*4294967296+x) d;rw[<-h,ak0,aj3,aj6];rw[aj9 d]at h1;omega
structure mL (B:Nat) (ao:Option Addr) (n:Nat) (w:ah5) (D:List Nat) (d j r:Nat) (zs:List Nat) (wr:ah5):Prop where
 own:bX B wr ao n n zs
 below:ah8 B w wr
 sum:au (zs.drop j)*d+r=au (D.drop j)
 lt:r<d
theorem KT (a0:Z') (la ca:Nat) (xs:List Nat) (d:Nat) (w:ah5) (ha:Sl w a0 la ca xs) (hd0:0<d) (hd:d<4294967296):
  Calls Tryz.prog 221 #[ah9 a0 la ca,.int .u32 (d:Int)] w (Y9 w (au xs/d) (au xs%d) 0):=by
 obtain⟨i0,hi,hz0,hz1,hz2⟩:=info_parts Tryz.fx;have hb0:(((d:Nat):Int)==0)=false:=by simp;omega
 have hbig:=ha.big;go_enter Tryz.func221,Tryz.ntmps221;go_wp2_with fail;refine(kz _ _ _ _ _ ha).mono ?_;rintro e w' ⟨a1,n1,c1,rfl,hA,hn1,rfl⟩;go_wp2_with (at_make;refine wpList_make_full _ rfl _ _ 27 rfl w.heap.size 192 i0 (.int .u32 0) 1 Tryz.underlying27 hi hz0 hz1 _ _ _ _ n1 rfl rfl rfl rfl ?b2 ?b3 (am5 _) ?_)
 case b2=>rw[hz2];omega
 case b3=>unfold maxLen;omega
 intro w1 hown1 hgrow1;rw[gX]at hown1;have hb1:ah8 w.heap.size w w1:=(Below.refl _ _).grown hgrow1 (am5 _) (λk h=>by cases h)
 have mK:bX w.heap.size w1 (some ⟨w.heap.size,0,none⟩) n1 n1 (ai8 n1 0):=
  ⟨hown1,by omega,λx hx=>by rw[(aj0.1 hx).2];omega⟩
 have hI1:mL w.heap.size (some ⟨w.heap.size,0,none⟩) n1 w (aq (au xs)) d n1 0 (ai8 n1 0) w1:=by
  refine⟨mK,hb1,?_,hd0⟩;rw[aj1 (by simp),aj1 (by rw[hA.len];exact am5 _),di,am4]
 clear hown1 hgrow1 mK hb1;go_wp2_with fail;go_loopw [5,7] (λr i wr=>∃j rr:Nat,∃zs:List Nat,j<=n1/\ i= .int .i64 ((j:Int)-1)/\ r= .int .u32 rr/\ mL w.heap.size (some ⟨w.heap.size,0,none⟩) n1 w (aq (au xs)) d j rr zs wr) (λ_ i _=>(intOf i+1).toNat)
 case atStart=>exact⟨n1,0,_,am5 _,rfl,rfl,hI1⟩
 case round=>
  clear hI1;obtain⟨j,rr,zs,hj,rfl,rfl,hO,hB,hV,hlt⟩:=hrel;by_cases hj0:j=0
  ·subst hj0
   have hq:au zs=au xs/d/\ rr=au xs%d:=by
    rw[aj2,aj2,av]at hV;have h1:au xs=rr+d*au zs:=by rw[<-hV,aj9];omega
    rw[h1];exact⟨by rw[Nat.add_mul_div_left _ _ hd0,am0 hlt,al8],by rw[al7,al3 hlt]⟩
   have hbare:=kz _ _ _ _ _ hO.sl;rw[hq.1]at hbare;have QV:=ah6 hbare;have HR:=ah6 hq.2;clear hbare hV hq hO;go_wp2_with fail;refine QV.o.mono λe w' h=>?_
   obtain⟨ao,kk,ae,rfl,h3,h4,rfl⟩:=h;go_wp2_with fail;go_ret3;exact⟨_,_,_,by rw[<-HR.o];rfl,h3,hB⟩
  ·obtain⟨i,rfl⟩:∃i,j=i+1:=⟨j-1,by omega⟩;have ei:((i+1:Nat):Int)-1=(i:Int):=by omega
   rw[ei];clear ei;obtain⟨b,off,rfl,hbb,hcb⟩:=hA.at (by omega);have hxc:wr.cell? ⟨b,off+i,none⟩=some (.int .u32 ((aq (au xs)).getD i 0:Nat)):=(hB.cell (by exact hbb)).trans (hcb i (by omega));have hxl:=hA.bJ i;have vy:=hO.frozen i;have hzc:=hO.cell i (by omega);have hdrop:=gw (aq (au xs)) i (by rw[hA.len];omega);obtain⟨x,hx⟩:∃x,x=(aq (au xs)).getD i 0:=⟨_,rfl⟩;rw[<-hx]at hxc hxl hdrop;have HDR:=ah6 hdrop;have HV:=ah6 hV
   have hq:(rr*4294967296+x)/d<4294967296:=by
    rw[am2 hd0];have:(rr+1)*4294967296<=d*4294967296:=ak3 _ hlt;omega
   have hI2:Hid (∀q,mL w.heap.size (some ⟨w.heap.size,0,none⟩) n1 w (aq (au xs)) d i ((rr*4294967296+x)%d) (zs.set i ((rr*4294967296+x)/d)) ((wr.drewN q).setCell ⟨w.heap.size,i,none⟩ (.int .u32 (((rr*4294967296+x)/d:Nat):Int)))):=by
    intro q;refine⟨(hO.drewN q).set i _ hq,(hB.trans (below_drewN _ _ q)).setCell (am5 _) _,?_,aj8 _ hd0⟩;rw[gw _ i (by rw[ai7,hO.len];omega),eH,if_pos ⟨rfl,by rw[hO.len];omega⟩,List.drop_set_of_lt (by omega),HDR.o];exact wG HV.o
   clear hx hcb hdrop hV hq hj0 hO;go_wp2_with (go_at_call 241;refine(zm rr x d _ hlt hxl hd).mono ?_;rintro e w' ⟨rfl,q,rfl⟩);go_roundw
   case rel=>exact⟨i,_,_,by omega,by go_num,rfl,hI2.o _⟩
   case measure=>simp[intOf]
end
section
open Lib (hid)
open Go.RowKit
def Y' (w:ah5) (q r:Nat) (er:Int) (e:Ending) (w':ah5):Prop:=
 ∃a0 la ca b0 lb cb,e= .returned (.tuple #[ah9 a0 la ca,ah9 b0 lb cb,.int .i64 er])/\ Sl w' a0 la ca (aq q)/\ Sl w' b0 lb cb (aq r)/\ ah8 w.heap.size w w'
def Za (w:ah5) (q:Nat) (er:Int) (e:Ending) (w':ah5):Prop:=
 ∃a0 la ca,e= .returned (.tuple #[ah9 a0 la ca,.int .i64 er])/\ Sl w' a0 la ca (aq q)/\ ah8 w.heap.size w w'
theorem Vi {w:ah5} {ao:Z'} {n ae V:Nat} (h:Sl w ao n ae (aq V)) (h0:V=0):n=0:=by
 subst h0;rw[<-h.len];rfl
theorem Vj {w:ah5} {ao:Z'} {n ae V:Nat} (h:Sl w ao n ae (aq V)) (h0:V≠0):0<n:=by
 rcases al1 n with h1|h1
 ·have:=h.len;rw[h1]at this;have h2:aq V=[]:=List.eq_nil_of_length_eq_zero this;have h3:=av V;rw[h2,di]at h3;exact absurd h3.symm h0
 ·exact h1
theorem sI (a0 b0:Z') (la ca lb cb:Nat) (xs ys:List Nat) (w:ah5) (ha:Sl w a0 la ca xs) (hb:Sl w b0 lb cb ys) (h0:au ys≠0) (ra:la<=1000000000000):
  Calls Tryz.prog 212 #[ah9 a0 la ca,ah9 b0 lb cb] w (Y' w (au xs/au ys) (au xs%au ys) 0):=by
 have H0:=hid h0;have hla:=ha.big;clear h0;go_enter Tryz.func212,Tryz.ntmps212;go_wp2_with fail;refine(kz _ _ _ _ _ ha).mono ?_;rintro e w' ⟨a1,n1,c1,rfl,hA,hn1,rfl⟩;go_wp2_with fail;refine(kz _ _ _ _ _ hb).mono ?_;rintro e w' ⟨b1,m1,d1,rfl,hB,hm1,rfl⟩;have hm0:=Vj hB H0.o;have hmz:(((m1:Nat):Int)==0)=false:=by simp;omega
 have hbm:=hB.big;clear hb ha;by_cases hlt:n1<m1
 ·have d1':decide (n1<m1)=true:=by simpa using hlt
  have Zc:Hid (au xs<au ys):=by
   rw[Hid];have:=fC (xs:=aq (au xs)) (ys:=aq (au ys)) (dv _) (by rw[eI,eI,hA.len,hB.len];exact hlt);rwa[av,av]at this
  have ht:=xi _ _ _ _ _ hA;rw[av]at ht;have HT:=hid ht;clear ht;go_wp2_with fail;refine HT.o.mono ?_;rintro e w1 ⟨t0,tn,tc,rfl,hT,hB1⟩;go_wp2_with fail;go_ret3;exact⟨_,_,_,_,_,_,rfl,by rw[am0 Zc.o];exact Sl.none _,by rw[al3 Zc.o];exact hT.sl,hB1⟩
 ·have d1':decide (n1<m1)=false:=by simpa using hlt
  by_cases hone:m1=1
  ·subst hone;obtain⟨b,off,rfl,hbb,hcell⟩:=hB.at (by omega);have hc:=hcell 0 (by omega);rw[am1]at hc;have hyl:=hB.bJ 0
   have hyv:au ys=(aq (au ys)).getD 0 0:=by
    have h1:=bC (aq (au ys)) 0 (by rw[hB.len];omega);rw[cE _ _ hB.len,av]at h1;simpa[au]using h1
   obtain⟨y,hy⟩:∃y,y=(aq (au ys)).getD 0 0:=⟨_,rfl⟩;rw[<-hy]at hc hyl hyv;have hy0:0<y:=by have:=H0.o;omega
   have HYV:=hid hyv;have Ze:=hid (KT _ _ _ _ y _ hA hy0 hyl);clear hcell hy hyv;go_wp2_with fail;refine Ze.o.mono ?_;rintro e w1 ⟨q0,qn,qc,rfl,hQ,hB1⟩;rw[av]at hQ;obtain⟨r,hr⟩:∃r,r=au (aq (au xs))%y:=⟨_,rfl⟩;rw[<-hr];have hrl:r<y:=by rw[hr];exact aj8 _ hy0
   have HR:=hid hr;clear hr Ze;go_wp2_with fail;refine(iK r _ (by omega)).mono ?_;rintro e w2 ⟨s0,sn,sc,rfl,hS,hB2⟩;go_wp2_with fail;go_ret3;exact⟨_,_,_,_,_,_,rfl,by rw[HYV.o];exact hQ.below hB2,by rw[HYV.o,<-av (au xs),<-HR.o];exact hS.sl,Below.ar hB1 hB2⟩
  ·have d2':(((m1:Nat):Int)==1)=false:=by simp;omega
   go_wp2_with fail;refine(Oj _ _ _ _ _ _ _ _ _ hA hB (by omega) (by omega) (by omega)).mono ?_;rintro e w1 ⟨q0,qn,qc,r0,rn,rc,rfl,hQ,hR,hB1⟩;go_wp2_with fail;go_ret3;exact⟨_,_,_,_,_,_,rfl,hQ,hR,hB1⟩
theorem Kw (a0 b0:Z') (la ca lb cb:Nat) (xs ys:List Nat) (w:ah5) (ha:Sl w a0 la ca xs) (hb:Sl w b0 lb cb ys) (h0:au ys≠0) (ra:la<=1000000000000) (hr:au xs%au ys=0):
  Calls Tryz.prog 177 #[ah9 a0 la ca,ah9 b0 lb cb] w (Za w (au xs/au ys) 0):=by
 have HR:=hid hr;clear hr;go_enter Tryz.func177,Tryz.ntmps177;go_wp2_with fail;refine(sI _ _ _ _ _ _ _ _ _ ha hb h0 ra).mono ?_;rintro e w1 ⟨q0,qn,qc,r0,rn,rc,rfl,hQ,hR,hB1⟩;obtain rfl:rn=0:=Vi hR HR.o;go_wp2_with fail;go_ret2;exact⟨_,_,_,rfl,hQ,hB1⟩
end
end Go.Proofs.YtmenbpmciblnlaaGreatDoor

/- DPlain, Div32, DBare, DRow, DGuess, DTake, DPut, DTold, DLong, DLimb, DDiv -/
import Derived.Test.YtmenbpmciblnlaaGreatDoorGTimes
import Derived.WalkMore
set_option maxHeartbeats 40000000
set_option maxRecDepth 100000
/- Plain lemmas for layer 3: the guess of a limb, a row less a multiple of the divisor, the divisor put back. -/
namespace Go.Proofs.YtmenbpmciblnlaaGreatDoor
structure dJ (r V P v1 v2 u0 u1 u2 vl rl:Nat):Prop where
 ev:V=P*(v1*4294967296+v2)+vl
 vlt:vl<P
 er:r=P*((u0*4294967296+u1)*4294967296+u2)+rl
 rlt:rl<P
 lt:r<4294967296*V
 top:2147483648<=v1
 bv1:v1<4294967296
 bv2:v2<4294967296
 bu0:u0<4294967296
 bu1:u1<4294967296
 bu2:u2<4294967296
structure jS (r V v1 W g s:Nat):Prop where
 sum:g*v1+s=W
 low:r<(g+1)*V
theorem dJ.Jg {r V P v1 v2 u0 u1 u2 vl rl:Nat} (h:dJ r V P v1 v2 u0 u1 u2 vl rl):r<P*((u0*4294967296+u1)*4294967296+u2+1):=by
 rw[h.er,Nat.mul_add P _ 1,Nat.mul_one];have:=h.rlt;omega
theorem dJ.Oi {r V P v1 v2 u0 u1 u2 vl rl:Nat} (h:dJ r V P v1 v2 u0 u1 u2 vl rl) (g:Nat):P*(g*v1*4294967296+g*v2)<=g*V:=by
 rw[h.ev,Nat.mul_add g,Nat.mul_left_comm g P,Nat.mul_add g,<-Nat.mul_assoc g v1];omega
theorem dJ.start {r V P v1 v2 u0 u1 u2 vl rl:Nat} (h:dJ r V P v1 v2 u0 u1 u2 vl rl):jS r V v1 (u0*4294967296+u1) ((u0*4294967296+u1)/v1) ((u0*4294967296+u1)%v1):=by
 have ht:=h.top;generalize hW:u0*4294967296+u1=W;have hd:=Nat.div_add_mod W v1;have hm:=Nat.mod_lt W (show 0<v1 by omega);refine⟨by rw[Nat.mul_comm];exact hd,?_⟩;have h1:=h.Jg;rw[hW]at h1;have h2:=h.Oi (W/v1+1);have h3:W+1<=(W/v1+1)*v1:=by rw[Nat.add_mul,Nat.mul_comm (W/v1)];omega
 have h4:P*(W*4294967296+u2+1)<=P*((W/v1+1)*v1*4294967296+(W/v1+1)*v2):=by
  refine Nat.mul_le_mul_left _ ?_;have:=h.bu2;omega
 omega
theorem dJ.KT {r V P v1 v2 u0 u1 u2 vl rl g s W:Nat} (h:dJ r V P v1 v2 u0 u1 u2 vl rl) (hI:jS r V v1 W g s) (hg:4294967295<g):jS r V v1 W (g-1) (s+v1):=by
 obtain⟨k,rfl⟩:∃k,g=k+1:=⟨g-1,by omega⟩;refine⟨?_,?_⟩
 ·have:=hI.sum;rw[Nat.add_mul]at this;rw[Nat.add_sub_cancel];omega
 ·have h1:=h.lt;rw[Nat.add_sub_cancel];have h2:4294967296*V<=(k+1)*V:=Nat.mul_le_mul_right _ (by omega);omega
theorem dJ.step_third {r V P v1 v2 u0 u1 u2 vl rl g s:Nat} (h:dJ r V P v1 v2 u0 u1 u2 vl rl) (hI:jS r V v1 (u0*4294967296+u1) g s) (hg:s*4294967296+u2<g*v2):jS r V v1 (u0*4294967296+u1) (g-1) (s+v1):=by
 have hg0:g≠0:=by rintro rfl;simp at hg
 have h1:=h.Jg;have h2:=h.Oi g;have h3:=hI.sum
 have h4:P*((u0*4294967296+u1)*4294967296+u2+1)<=P*(g*v1*4294967296+g*v2):=by
  refine Nat.mul_le_mul_left _ ?_;rw[<-h3];omega
 obtain⟨k,rfl⟩:∃k,g=k+1:=⟨g-1,by omega⟩;refine⟨?_,?_⟩
 ·rw[Nat.add_mul]at h3;rw[Nat.add_sub_cancel];omega
 ·rw[Nat.add_sub_cancel];omega
theorem dJ.Yn {r V P v1 v2 u0 u1 u2 vl rl:Nat} (h:dJ r V P v1 v2 u0 u1 u2 vl rl):u0<=v1:=by
 rcases Nat.lt_or_ge v1 u0 with hlt|hge
 ·exfalso
  have h1:=h.lt
  have h2:V<P*(v1*4294967296+v2+1):=by
   rw[h.ev,Nat.mul_add P _ 1,Nat.mul_one];have:=h.vlt;omega
  have h3:P*(v1*4294967296+v2+1)<=P*(u0*4294967296):=Nat.mul_le_mul_left _ (by have:=h.bv2;omega)
  have h4:P*(u0*4294967296)*4294967296<=r:=by
   rw[h.er,Nat.mul_assoc P (u0*4294967296) 4294967296];have:P*(u0*4294967296*4294967296)<=P*((u0*4294967296+u1)*4294967296+u2):=Nat.mul_le_mul_left _ (by omega);exact Nat.le_trans this (Nat.le_add_right _ _)
  have h5:V<P*(u0*4294967296):=Nat.lt_of_lt_of_le h2 h3;generalize P*(u0*4294967296)=Y at h4 h5;clear h2 h3;omega
 ·exact hge
theorem dJ.done {r V P v1 v2 u0 u1 u2 vl rl g s:Nat} (h:dJ r V P v1 v2 u0 u1 u2 vl rl) (hI:jS r V v1 (u0*4294967296+u1) g s) (hg:g<4294967296) (h3:g*v2<=s*4294967296+u2):g*V<r+V:=by
 have h1:=hI.sum;have h2:P*(g*v1*4294967296+g*v2)<=P*((u0*4294967296+u1)*4294967296+u2):=Nat.mul_le_mul_left _ (by omega)
 have e:g*V=P*(g*v1*4294967296+g*v2)+g*vl:=by
  rw[h.ev,Nat.mul_add g,Nat.mul_left_comm g P,Nat.mul_add g,<-Nat.mul_assoc g v1]
 have h4:g*vl<=4294967295*P:=Nat.mul_le_mul (by omega) (Nat.le_of_lt h.vlt);have h5:P*(1*4294967296)<=P*(v1*4294967296+v2):=Nat.mul_le_mul_left _ (by have:=h.top;omega);have h6:=h.ev;have h7:=h.er;have h8:=h.vlt;omega
theorem dJ.KU {r V P v1 v2 u0 u1 u2 vl rl g s:Nat} (h:dJ r V P v1 v2 u0 u1 u2 vl rl) (hI:jS r V v1 (u0*4294967296+u1) g s) (hs:4294967296<=s):g<4294967296/\ g*v2<=s*4294967296+u2:=by
 have h0:=h.Yn;have h1:=hI.sum
 have hg:g<4294967296:=by
  rcases Nat.lt_or_ge g 4294967296 with hlt|hge
  ·exact hlt
  ·exfalso
   have h2:4294967296*v1<=g*v1:=Nat.mul_le_mul_right _ hge;have h3:=h.bu1;have h4:u0*4294967296<=v1*4294967296:=Nat.mul_le_mul_right _ h0;omega
 refine⟨hg,?_⟩;have h2:g*v2<=4294967295*4294967295:=Nat.mul_le_mul (by omega) (by have:=h.bv2;omega);omega
theorem Oj {R:List Nat} {n:Nat} (hl:R.length=n+3):val R=4294967296^n*((R.getD (n+2) 0*4294967296+R.getD (n+1) 0)*4294967296+R.getD n 0)+val (R.take n):=by
 have e0:R=R.take (n+3):=by rw[List.take_of_length_le (by omega)]
 have h1:=bE R (n+2) (by omega);have h2:=bE R (n+1) (by omega);have h3:=bE R n (by omega);rw[<-e0,h2,h3]at h1;have p1:(4294967296:Nat)^(n+1)=4294967296^n*4294967296:=Nat.pow_succ _ _;have p2:(4294967296:Nat)^(n+2)=4294967296^n*4294967296*4294967296:=by rw[<-p1];exact Nat.pow_succ _ _
 rw[p1,p2]at h1;rw[h1];generalize (4294967296:Nat)^n=P;generalize R.getD (n+2) 0=x;generalize R.getD (n+1) 0=y;generalize R.getD n 0=z;generalize val (R.take n)=u;rw[Nat.mul_add,Nat.add_mul,Nat.mul_add];have a1:P*4294967296*y=P*(y*4294967296):=by ac_rfl
 have a2:P*4294967296*4294967296*x=P*(x*4294967296*4294967296):=by ac_rfl
 omega
theorem Om {R:List Nat} {n:Nat} (hl:R.length=n+2):val R=4294967296^n*(R.getD (n+1) 0*4294967296+R.getD n 0)+val (R.take n):=by
 have e0:R=R.take (n+2):=by rw[List.take_of_length_le (by omega)]
 have h2:=bE R (n+1) (by omega);have h3:=bE R n (by omega);rw[<-e0,h3,Nat.pow_succ]at h2;rw[h2,Nat.mul_add];have a1:4294967296^n*4294967296*R.getD (n+1) 0=4294967296^n*(R.getD (n+1) 0*4294967296):=by rw[Nat.mul_assoc,Nat.mul_comm 4294967296 (R.getD _ _)]
 omega
theorem gm {R:List Nat} (h:Wf R) (t:Nat):R.getD t 0<4294967296:=by
 by_cases ht:t<R.length
 ·simp only[List.getD,List.getElem?_eq_getElem ht,Option.getD_some];exact h _ (List.getElem_mem ht)
 ·simp[List.getD,List.getElem?_eq_none (by omega:R.length<=t)]
theorem jd {xs:List Nat} (h:Wf xs) (n:Nat):val (xs.take n)<4294967296^n:=by
 have h1:=eu _ (h.take n);refine Nat.lt_of_lt_of_le h1 (Nat.pow_le_pow_right (by omega) ?_);rw[List.length_take];omega
theorem ES {R D:List Nat} {n:Nat} (hR:Wf R) (hD:Wf D) (lR:R.length=n+3) (lD:D.length=n+2) (ht:2147483648<=D.getD (n+1) 0) (hlt:val R<4294967296*val D):
  dJ (val R) (val D) (4294967296^n) (D.getD (n+1) 0) (D.getD n 0) (R.getD (n+2) 0) (R.getD (n+1) 0) (R.getD n 0) (val (D.take n)) (val (R.take n)):=
 ⟨Om lD,jd hD n,Oj lR,jd hR n,hlt,ht,gm hD _,gm hD _,gm hR _,gm hR _,gm hR _⟩
def uZ (R D:List Nat) (S m k c b:Nat):Prop:=∃T,val R+T=S+4294967296^k*b/\ T+4294967296^k*c=val (D.take k)*m
theorem Hz (R D:List Nat) (m:Nat):uZ R D (val R) m 0 0 0:=⟨0,by simp,by simp[val]⟩
theorem KV {R D:List Nat} {S m k c b:Nat} (h:uZ R D S m k c b) (hR:Wf R) (hk:k<R.length) (hd:k<D.length) (hb:b<=1):
  uZ (R.set k (jc (R.getD k 0) ((c+D.getD k 0*m)%4294967296) b)) D S m (k+1) ((c+D.getD k 0*m)/4294967296) (jm (R.getD k 0) ((c+D.getD k 0*m)%4294967296) b):=by
 obtain⟨T,h1,h2⟩:=h;refine⟨T+4294967296^k*((c+D.getD k 0*m)%4294967296),qE hk (gm hR k) (Nat.mod_lt _ (by omega)) hb h1,?_⟩;rw[bE D k hd,Nat.add_mul,<-h2,Nat.pow_succ,Nat.mul_assoc (4294967296^k) 4294967296,Nat.mul_assoc (4294967296^k) (D.getD k 0),Nat.add_assoc,<-Nat.mul_add,Nat.add_assoc,<-Nat.mul_add]
 congr 2
 omega
theorem KW {R D:List Nat} {S m n c b:Nat} (h:uZ R D S m n c b) (hR:Wf R) (hk:n<R.length) (hD:D.length=n) (hb:b<=1) (hc:c<4294967296):
  val (R.set n (jc (R.getD n 0) c b))+val D*m=S+4294967296^(n+1)*jm (R.getD n 0) c b:=by
 obtain⟨T,h1,h2⟩:=h;rw[List.take_of_length_le (by omega)]at h2;have:=qE hk (gm hR n) hc hb h1;rw[<-h2];exact this
theorem KX {r V q s n:Nat} (h:s+V*q=r) (hlow:r<(q+1)*V) (hV:V<4294967296^n):s<V/\ s<4294967296^n:=by
 rw[Nat.add_mul,Nat.mul_comm q]at hlow;omega
theorem Oo {r V q s c t n:Nat} (h:s+V*q=r+4294967296^(n+1)) (hs:s<4294967296^(n+1)) (hup:q*V<r+V) (hV:V<4294967296^n) (hput:t+4294967296^n*c=s%4294967296^n+V) (hc:c<=1) (ht:t<4294967296^n):
  0<q/\ t+V*(q-1)=r/\ t<V:=by
 have hq:0<q:=by
  rcases Nat.eq_zero_or_pos q with h0|h0
  ·rw[h0]at h;omega
  ·exact h0
 obtain⟨k,rfl⟩:∃k,q=k+1:=⟨q-1,by omega⟩;rw[Nat.add_sub_cancel];rw[Nat.mul_comm V,Nat.add_mul]at h;rw[Nat.add_mul]at hup;rw[Nat.mul_comm V k];rw[Nat.pow_succ]at h hs;generalize 4294967296^n=P at*
 generalize k*V=K at*
 obtain⟨u,hu⟩:∃u,u=s-P*4294967295:=⟨_,rfl⟩;have e1:s=P*4294967295+u:=by omega
 have e2:s%P=u:=by
  rw[e1,Nat.mul_add_mod,Nat.mod_eq_of_lt];omega
 rw[e2]at hput;rcases Nat.lt_or_ge c 1 with h1|h1
 ·obtain rfl:c=0:=by omega
  omega
 ·obtain rfl:c=1:=by omega
  omega
structure pq (A V n j:Nat) (zs:List Nat):Prop where
 sum:val (zs.drop (j+n))*V*4294967296^j+val (zs.take (j+n))=A
 lt:val (zs.take (j+n))<V*4294967296^j
theorem H6 {A V n m:Nat} {zs:List Nat} (hl:zs.length=m+1) (hv:val zs=A) (hn:n<=m) (hlt:A<V*4294967296^(m-n+1)):pq A V n (m-n+1) zs:=by
 have e:m-n+1+n=m+1:=by omega
 refine⟨?_,?_⟩
 ·rw[e,List.drop_of_length_le (by omega),List.take_of_length_le (by omega),hv];simp[val]
 ·rw[e,List.take_of_length_le (by omega),hv];exact hlt
theorem KY {A V n i q r:Nat} {zs R':List Nat} (h:pq A V n (i+1) zs) (hw:Wf zs) (hn:i+n+1<=zs.length) (hR:R'.length=n) (hr:val R'=r) (hq:r+V*q=val ((zs.drop i).take (n+1))) (hlt:r<V):
  pq A V n i (zs.take i++((R'++[q])++zs.drop (i+(n+1)))):=by
 have li:(zs.take i).length=i:=by rw[List.length_take];omega
 have e0:zs.take i++((R'++[q])++zs.drop (i+(n+1)))=(zs.take i++R')++(q::zs.drop (i+(n+1))):=by simp
 have l2:(zs.take i++R').length=i+n:=by rw[List.length_append,li,hR]
 have e1:(zs.take i++((R'++[q])++zs.drop (i+(n+1)))).take (i+n)=zs.take i++R':=by rw[e0,List.take_left' l2]
 have e2:(zs.take i++((R'++[q])++zs.drop (i+(n+1)))).drop (i+n)=q::zs.drop (i+(n+1)):=by rw[e0,List.drop_left' l2]
 have e3:zs.take (i+1+n)=zs.take i++(zs.drop i).take (n+1):=by
  rw[show i+1+n=i+(n+1)from by omega,List.take_add]
 have h1:=h.sum;have h2:=h.lt;rw[e3,val_append,li]at h1 h2;rw[show i+1+n=i+(n+1)from by omega]at h1;have hlow:val (zs.take i)<4294967296^i:=by have:=eu _ (hw.take i);rwa[li]at this
 refine⟨?_,?_⟩
 ·rw[e1,e2,val_append,li,bq,hr,<-h1,<-hq,Nat.pow_succ,Nat.mul_add,Nat.add_mul,Nat.add_mul];generalize val (zs.drop (i+(n+1)))=H;generalize 4294967296^i=P;have a1:4294967296*H*V*P=H*V*(P*4294967296):=by ac_rfl
  have a2:q*V*P=P*(V*q):=by ac_rfl
  omega
 ·rw[e1,val_append,li,hr,Nat.mul_comm V];have:4294967296^i*(r+1)<=4294967296^i*V:=Nat.mul_le_mul_left _ hlt;rw[Nat.mul_add]at this;omega
theorem Oq {A V n i:Nat} {zs:List Nat} (h:pq A V n (i+1) zs) (hn:i+n+1<=zs.length):val ((zs.drop i).take (n+1))<4294967296*V:=by
 have li:(zs.take i).length=i:=by rw[List.length_take];omega
 have h2:=h.lt;rw[show i+1+n=i+(n+1)from by omega,List.take_add,val_append,li,Nat.pow_succ]at h2
 have h3:4294967296^i*val ((zs.drop i).take (n+1))<4294967296^i*(4294967296*V):=by
  have:V*(4294967296^i*4294967296)=4294967296^i*(4294967296*V):=by ac_rfl
  omega
 exact Nat.lt_of_mul_lt_mul_left h3
theorem RB {V j:Nat} (h1:4294967296^j*2147483648<=V) (h2:V<4294967296^(j+1)):(limbs V).length=j+1/\ 2147483648<=(limbs V).getD j 0:=by
 have hl:=qF h2;have hv:=eu (limbs V) (dR V);rw[au]at hv
 have hlen:(limbs V).length=j+1:=by
  rcases Nat.lt_or_ge j (limbs V).length with h|h
  ·omega
  ·have h3:4294967296^(limbs V).length<=4294967296^j:=Nat.pow_le_pow_right (by omega) h;omega
 refine⟨hlen,?_⟩;have ht:=bE (limbs V) j (by omega);rw[dh _ _ hlen,au]at ht;have hlow:=jd (dR V) j;rcases Nat.lt_or_ge ((limbs V).getD j 0) 2147483648 with h|h
 ·have h3:4294967296^j*((limbs V).getD j 0+1)<=4294967296^j*2147483648:=Nat.mul_le_mul_left _ h;rw[Nat.mul_add,Nat.mul_one]at h3;omega
 ·exact h
theorem KZ {C j s:Nat} (hl:(limbs C).length=j+1) (h1:2147483648<=(limbs C).getD j 0*2^s) (h2:(limbs C).getD j 0*2^s<4294967296) (hs:s<32):
  4294967296^j*2147483648<=C*2^s/\ C*2^s<4294967296^(j+1):=by
 have ht:=bE (limbs C) j (by omega);rw[dh _ _ hl,au]at ht;have hlow:=jd (dR C) j;generalize (limbs C).getD j 0=x at*
 generalize val ((limbs C).take j)=l at*
 have e:(4294967296:Nat)=2^(32-s)*2^s:=by rw[<-Nat.pow_add,show 32-s+s=32 from by omega]
 have hx:x+1<=2^(32-s):=by
  have h3:x*2^s<2^(32-s)*2^s:=by rw[<-e];exact h2
  exact Nat.lt_of_mul_lt_mul_right h3
 constructor
 ·have h4:=Nat.mul_le_mul_left (4294967296^j) h1;rw[<-Nat.mul_assoc]at h4;have h5:4294967296^j*x*2^s<=C*2^s:=Nat.mul_le_mul_right _ (by omega);exact Nat.le_trans h4 h5
 ·have h4:C<4294967296^j*(x+1):=by rw[Nat.mul_add,Nat.mul_one];omega
  have h5:4294967296^j*(x+1)<=4294967296^j*2^(32-s):=Nat.mul_le_mul_left _ hx;have h6:C*2^s<4294967296^j*2^(32-s)*2^s:=Nat.mul_lt_mul_of_pos_right (Nat.lt_of_lt_of_le h4 h5) (Nat.two_pow_pos s);rw[Nat.pow_succ]
  calc C*2^s<4294967296^j*2^(32-s)*2^s:=h6
   _=4294967296^j*4294967296:=by rw[Nat.mul_assoc,<-e]
theorem K4 {A V s n m:Nat} (hA:A<4294967296^m) (hV:4294967296^(n-1)*2147483648<=V) (hs:s<32) (hn:1<=n) (hm:n<=m):A*2^s<V*4294967296^(m-n+1)/\ A*2^s<4294967296^(m+1):=by
 have h1:2^s<=2^31:=Nat.pow_le_pow_right (by omega) (by omega);have h2:A*2^s<4294967296^m*2^31:=Nat.lt_of_lt_of_le (Nat.mul_lt_mul_of_pos_right hA (Nat.two_pow_pos s)) (Nat.mul_le_mul_left _ h1);have h3:=Nat.mul_le_mul_right (4294967296^(m-n+1)) hV;have e:(4294967296:Nat)^m=4294967296^(n-1)*4294967296^(m-n+1):=by rw[<-Nat.pow_add];congr 1;omega
 have e2:4294967296^(n-1)*2147483648*4294967296^(m-n+1)=4294967296^m*2147483648:=by rw[e];ac_rfl
 rw[e2]at h3;have e3:(4294967296:Nat)^(m+1)=4294967296^m*4294967296:=Nat.pow_succ _ _;have e4:(2:Nat)^31=2147483648:=by decide
 rw[e4]at h2;rw[e3];clear e e2 e3 e4 h1 hV hA;generalize 4294967296^m=P at*
 generalize A*2^s=X at*
 exact⟨Nat.lt_of_lt_of_le h2 h3,Nat.lt_of_lt_of_le h2 (Nat.mul_le_mul_left _ (by omega))⟩
theorem zB {R:List Nat} {n:Nat} (hl:R.length=n+1) (h:val R<4294967296^n):val (R.take n)=val R:=by
 have ht:=bE R n (by omega);rw[dh _ _ hl]at ht;rcases Nat.eq_zero_or_pos (R.getD n 0)with h0|h0
 ·rw[h0]at ht;omega
 ·have:4294967296^n*1<=4294967296^n*R.getD n 0:=Nat.mul_le_mul_left _ h0;omega
theorem Ot {R:List Nat} {n q:Nat} (hl:R.length=n+1):R.set n q=R.take n++[q]:=by
 have e:R=R.take n++[R.getD n 0]:=by rw[<-bZ R n (by omega),dh _ _ hl]
 have l:(R.take n).length=n:=by rw[List.length_take];omega
 rw[e,List.set_append_right _ _ (by omega),l,Nat.sub_self,List.take_left' l];rfl
theorem RD {R R':List Nat} {n c V:Nat} (hl:R.length=n+1) (hl':R'.length=n+1) (h:val R'+4294967296^n*c=val R+V) (ht:R'.getD n 0=R.getD n 0) (hR:Wf R):
  val (R'.take n)+4294967296^n*c=val R%4294967296^n+V:=by
 have h1:=bE R n (by omega);have h2:=bE R' n (by omega);rw[dh _ _ hl]at h1;rw[dh _ _ hl',ht]at h2;have h3:=jd hR n
 have h4:val R%4294967296^n=val (R.take n):=by
  rw[h1,Nat.add_mul_mod_self_left,Nat.mod_eq_of_lt h3]
 rw[h4];omega
theorem Ou {a b p n:Nat} {zs:List Nat} (hp:0<p) (hb:0<b) (h:pq (a*p) (b*p) n 0 zs):val (zs.drop n)=a/b/\ val (zs.take n)/p=a%b:=by
 have h1:=h.sum;have h2:=h.lt;rw[Nat.zero_add,Nat.pow_zero,Nat.mul_one]at h1 h2;generalize val (zs.drop n)=Q at*
 generalize val (zs.take n)=S at*
 have hbp:0<b*p:=Nat.mul_pos hb hp
 have e1:a*p/(b*p)=Q:=by
  rw[<-h1,Nat.mul_comm Q,Nat.mul_add_div hbp,Nat.div_eq_of_lt h2,Nat.add_zero]
 have e2:a*p%(b*p)=S:=by
  rw[<-h1,Nat.mul_comm Q,Nat.mul_add_mod,Nat.mod_eq_of_lt h2]
 rw[Nat.mul_div_mul_right _ _ hp]at e1;rw[Nat.mul_mod_mul_right]at e2;refine⟨e1.symm,?_⟩;rw[<-e2,Nat.mul_div_cancel _ hp]
end Go.Proofs.YtmenbpmciblnlaaGreatDoor
/- The contracts of math/bits.Div32 and math/bits.LeadingZeros32. -/
namespace Go.Proofs.YtmenbpmciblnlaaGreatDoor
open Go.RowKit
theorem CS (a b:Nat) (ha:a<4294967296) (hb:b<4294967296):bits BinOp.or IntKind.u64 (((a:Nat):Int)*4294967296) ((b:Nat):Int)=((a*4294967296+b:Nat):Int):=by
 have h:=Jh b a 32 (by omega) (by omega);rw[show((2^32*a:Nat):Int)=((a:Nat):Int)*4294967296 from by omega]at h;rw[h]
 congr 1
 omega
theorem Ji (a b:Nat):((a:Nat):Int).tdiv ((b:Nat):Int)=((a/b:Nat):Int):=rfl
theorem Jj (a b:Nat):((a:Nat):Int).tmod ((b:Nat):Int)=((a%b:Nat):Int):=rfl
theorem A8 (h l y:Nat) (w:World) (hh:h<y) (hl:l<4294967296) (hy:y<4294967296):
  Calls Tryz.prog 241 #[.int .u32 (h:Int),.int .u32 (l:Int),.int .u32 (y:Int)] w (kz (.tuple #[.int .u32 (((h*4294967296+l)/y:Nat):Int),.int .u32 (((h*4294967296+l)%y:Nat):Int)]) w):=by
 have hy0:(((y:Nat):Int) !=0)=true:=by simp;omega
 have hlt:decide (((y:Nat):Int)<=((h:Nat):Int))=false:=by simp;omega
 have hq:(h*4294967296+l)/y<4294967296:=by
  rw[Nat.div_lt_iff_lt_mul (by omega)];have:(h+1)*4294967296<=y*4294967296:=Nat.mul_le_mul_right _ hh;omega
 have hr:(h*4294967296+l)%y<y:=Nat.mod_lt _ (by omega);have HO:=Lib.hid (CS h l (by omega) hl);obtain⟨Q,hQ⟩:∃Q,Q=(h*4294967296+l)/y:=⟨_,rfl⟩;obtain⟨R,hR⟩:∃R,R=(h*4294967296+l)%y:=⟨_,rfl⟩;rw[<-hQ]at hq ⊢;rw[<-hR]at hr ⊢;have hrl:R<4294967296:=by omega
 have HQ:=Lib.hid hQ;have HR:=Lib.hid hR;clear hQ hR hr;go_enter Tryz.func241,Tryz.ntmps241;go_wp2;go_quiet (fail);go_wp2;go_ret2;refine⟨zm ?_ ?_,_,rfl⟩
 ·rw[HO.out,Ji,<-HQ.out,wrap_u64 _ (by omega)];omega
 ·rw[HO.out,Jj,<-HR.out];omega
def lead (x:Nat):Nat:=32-nbits x
theorem Ov (x:Nat) (w:World) (hx:x<4294967296):
  Calls Tryz.prog 253 #[.int .u32 (x:Int)] w fun e w'=>e= .returned (.int .i64 (lead x:Nat))/\ w'=w:=by
 have HL:Hid (Lib.bitLen x=nbits x):=u6 x hx;have hbl:Lib.bitLen x<=32:=by rw[HL.out];exact u7 (by omega)
 go_enter Tryz.func253,Tryz.ntmps253;go_wp2_with (go_at_call 191;refine(BA _ _ (by omega) (by omega)).mono ?_;rintro e w' ⟨rfl,rfl⟩;rw[Int.toNat_natCast]);go_ret;refine⟨gN ?_,rfl⟩;unfold lead;rw[HL.out]at hbl ⊢;omega
theorem Ow {x:Nat} (hx:x<4294967296) (h0:x≠0):lead x<32/\ 2147483648<=x*2^lead x/\ x*2^lead x<4294967296:=by
 obtain⟨k,e,h1,h2⟩:=rH h0;have h3:nbits x<=32:=u7 (by omega);unfold lead;rw[e];have hk:k<=31:=by omega
 refine⟨by omega,?_,?_⟩
 ·have:=Nat.mul_le_mul_right (2^(32-(k+1))) h1;rw[<-Nat.pow_add,show k+(32-(k+1))=31 from by omega]at this;omega
 ·have:=Nat.mul_lt_mul_of_pos_right h2 (Nat.two_pow_pos (32-(k+1)));rw[<-Nat.pow_add,show k+1+(32-(k+1))=32 from by omega]at this;omega
end Go.Proofs.YtmenbpmciblnlaaGreatDoor
/- The contract of divide.bare. -/
namespace Go.Proofs.YtmenbpmciblnlaaGreatDoor
open Go.RowKit
theorem lu (ao:Option Addr) (n cap:Nat) (xs:List Nat) (w:World) (hs:Sl w ao n cap xs):
  Calls Tryz.prog 234 #[.slice ao n cap] w (Ox w (limbs (val xs)) n):=by
 have hle:=hs.le;have hbig:=hs.big;have hnl:nl xs<=n:=by have:=iF xs;rw[hs.len]at this;exact this
 have HT:Hid (limbs (val xs)=xs.take (nl xs)):=by show _=_;rw[<-bX xs hs.wf,cK]
 have hup:=uF hs.wf;obtain⟨b,hb⟩:∃b,b=nbits (val xs):=⟨_,rfl⟩;obtain⟨m,hm⟩:∃m,m=nl xs:=⟨_,rfl⟩;rw[<-hb,<-hm]at hup;rw[<-hm]at HT hnl;have HB:=Lib.hid hb;have hbl:b<=32*m:=by omega
 have hdv:(((b:Nat):Int)+32-1)/32=((m:Nat):Int):=by omega
 have HM:=Lib.hid hm;clear hb hup hm;go_enter Tryz.func234,Tryz.ntmps234;by_cases h0:m=0
 ·subst h0;go_wp2_with fail;refine(gX b _ _ _ _ _ hs HB.out.symm).mono ?_;rintro e w' ⟨rfl,rfl⟩;go_wp2_with fail;go_ret;exact⟨_,_,_,rfl,by rw[HT.out];exact Sl.none _,Nat.zero_le _,rfl⟩
 ·have hb0:(((m:Nat):Int)==0)=false:=by simp;omega
  go_wp2_with fail;refine(gX b _ _ _ _ _ hs HB.out.symm).mono ?_;rintro e w' ⟨rfl,rfl⟩;go_wp2_with fail;go_ret;exact⟨_,_,_,rfl,by rw[HT.out];exact hs.take m hnl,hnl,rfl⟩
end Go.Proofs.YtmenbpmciblnlaaGreatDoor
/- A row in the middle of limbs that are the call's own. -/
namespace Go.Proofs.YtmenbpmciblnlaaGreatDoor
open Go.RowKit
structure gq (w0:World) (g N i:Nat) (L R H:List Nat) (w:World):Prop where
 own:Own w0.heap.size w (some ⟨g,0,none⟩) N N (L++(R++H))
 below:Below w0.heap.size w0 w
 len:L.length=i
 base:w0.heap.size<=g
theorem gq.fits {w0:World} {g N i:Nat} {L R H:List Nat} {w:World} (h:gq w0 g N i L R H w):i+R.length<=N:=by
 have h1:=h.own.len;have h2:=h.len;simp at h1;omega
theorem gq.wf {w0:World} {g N i:Nat} {L R H:List Nat} {w:World} (h:gq w0 g N i L R H w):Wf R:=fun x hx=>h.own.wf x (by simp[hx])
theorem gq.cell {w0:World} {g N i:Nat} {L R H:List Nat} {w:World} (h:gq w0 g N i L R H w) (k:Nat) (hk:k<R.length):w.cell? ⟨g,i+k,none⟩=some (.int .u32 (R.getD k 0:Nat)):=by
 have h1:=h.own.cell (i+k) (by have:=h.fits;omega);rw[h1]
 congr 3
 have h2:=h.len;simp only[List.getD];rw[List.getElem?_append_right (by omega),List.getElem?_append_left (by omega),h2,show i+k-i=k from by omega]
theorem gq.frozen {w0:World} {g N i:Nat} {L R H:List Nat} {w:World} (h:gq w0 g N i L R H w) (k:Nat):w.frozen? ⟨g,k,none⟩=false:=h.own.frozen k
theorem gq.set {w0:World} {g N i:Nat} {L R H:List Nat} {w:World} (h:gq w0 g N i L R H w) (k x:Nat) (hk:k<R.length) (hx:x<4294967296):gq w0 g N i L (R.set k x) H (w.setCell ⟨g,i+k,none⟩ (.int .u32 ((x:Nat):Int))):=by
 refine⟨?_,h.below.setCell h.base _,h.len,h.base⟩;have h1:=h.own.set (i+k) x hx;rw[List.set_append_right _ _ (by rw[h.len];omega),h.len,show i+k-i=k from by omega,List.set_append_left _ _ hk]at h1;exact h1
theorem gq.drewN {w0:World} {g N i:Nat} {L R H:List Nat} {w:World} (h:gq w0 g N i L R H w) (q:Nat):gq w0 g N i L R H (w.drewN q):=
 ⟨h.own.drewN q,h.below.trans ((below_drewN _ _ _)),h.len,h.base⟩
theorem gq.drew {w0:World} {g N i:Nat} {L R H:List Nat} {w:World} (h:gq w0 g N i L R H w):gq w0 g N i L R H w.drew:=
 ⟨h.own.drew,h.below.drew,h.len,h.base⟩
theorem gq.sl {w0:World} {g N i n cap:Nat} {L R H:List Nat} {w:World} (h:gq w0 g N i L R H w) (hn:R.length=n) (hc:n<=cap):Sl w (some ⟨g,i,none⟩) n cap R:=
 Sl.of_cells hn hc (by have:=h.fits;have:=h.own.big;omega) h.wf fun t ht=>h.cell t (by omega)
theorem gq.of {w0:World} {g N i n:Nat} {zs:List Nat} {w:World} (hO:Own w0.heap.size w (some ⟨g,0,none⟩) N N zs) (hB:Below w0.heap.size w0 w) (hg:w0.heap.size<=g) (hn:i+n<=N):
  gq w0 g N i (zs.take i) ((zs.drop i).take n) (zs.drop (i+n)) w:=by
 have hl:=hO.len;refine⟨?_,hB,by rw[List.length_take];omega,hg⟩;have e:zs.drop (i+n)=(zs.drop i).drop n:=by rw[List.drop_drop]
 rw[e,List.take_append_drop,List.take_append_drop];exact hO
end Go.Proofs.YtmenbpmciblnlaaGreatDoor
/- The contract of divide.guess: the limb, or the one above it. -/
namespace Go.Proofs.YtmenbpmciblnlaaGreatDoor
open Lib (hid)
open Go.RowKit
def Oy (r V:Nat) (w:World) (e:Ending) (w':World):Prop:=
 ∃g q:Nat,e= .returned (.int .u32 (g:Int))/\ g<4294967296/\ r<(g+1)*V/\ g*V<r+V/\ w'=w.drewN q
theorem K5 (b off Yo:Nat) (d off2 Yp:Nat) (lr ld:Nat) (R D:List Nat) (w:World) (hR:Sl w (some ⟨b,off,none⟩) lr Yo R) (hD:Sl w (some ⟨d,off2,none⟩) ld Yp D) (hl:lr=ld+1) (h2:2<=ld) (ht:2147483648<=D.getD (ld-1) 0) (hlt:val R<4294967296*val D):
  Calls Tryz.prog 255 #[.slice (some ⟨b,off,none⟩) lr Yo,.slice (some ⟨d,off2,none⟩) ld Yp] w (Oy (val R) (val D) w):=by
 have hbig:=hR.big;have hbc:=hR.le;have hdc:=hD.le;obtain⟨n,hn⟩:∃n,ld=n+2:=⟨ld-2,by omega⟩;obtain⟨j,hj⟩:∃j,j=n+1:=⟨_,rfl⟩;have i1:((ld:Nat):Int)-1=((j:Nat):Int):=by omega
 have i2:((ld:Nat):Int)-2=((n:Nat):Int):=by omega
 have i3:j<ld:=by omega
 have i4:n<ld:=by omega
 rw[show ld-1=n+1 from by omega]at ht;have HF:=hid (ES hR.wf hD.wf (n:=n) (by rw[hR.len];omega) (by rw[hD.len];omega) ht hlt);have c0:=hR.cells _ rfl ld (by omega);have c1:=hR.cells _ rfl j (by omega);have c2:=hR.cells _ rfl n (by omega);have e1:=hD.cells _ rfl j (by omega);have e2:=hD.cells _ rfl n (by omega);rw[Addr.add_lit]at c0 c1 c2 e1 e2;rw[show R.getD ld 0=R.getD (n+2) 0 from by rw[hn]]at c0;rw[show R.getD j 0=R.getD (n+1) 0 from by rw[hj]]at c1;rw[show D.getD j 0=D.getD (n+1) 0 from by rw[hj]]at e1;have i5:ld<lr:=by omega
 have i6:j<lr:=by omega
 have i7:n<lr:=by omega
 clear hj hn hl;clear hR hD ht hlt;obtain⟨u0,hu0⟩:∃x,x=R.getD (n+2) 0:=⟨_,rfl⟩;obtain⟨u1,hu1⟩:∃x,x=R.getD (n+1) 0:=⟨_,rfl⟩;obtain⟨u2,hu2⟩:∃x,x=R.getD n 0:=⟨_,rfl⟩;obtain⟨v1,hv1⟩:∃x,x=D.getD (n+1) 0:=⟨_,rfl⟩;obtain⟨v2,hv2⟩:∃x,x=D.getD n 0:=⟨_,rfl⟩;rw[<-hu0]at c0 HF;rw[<-hu1]at c1 HF;rw[<-hu2]at c2 HF;rw[<-hv1]at e1 HF;rw[<-hv2]at e2 HF;clear hu0 hu1 hu2 hv1 hv2;have f1:=HF.out.top;have f2:=HF.out.bv1;have f3:=HF.out.bv2;have f4:=HF.out.bu0;have f5:=HF.out.bu1;have f6:=HF.out.bu2;have hv0:(((v1:Nat):Int)==0)=false:=by simp;omega
 have HS:=hid HF.out.start;have hWi:=CS u0 u1 f4 f5;obtain⟨W,hW⟩:∃W,W=u0*4294967296+u1:=⟨_,rfl⟩;rw[<-hW]at hWi HS;have hWl:W<18446744073709551616:=by omega
 have HW:=hid hW
 have hg0:W/v1<=8589934592:=by
  have h1:=Nat.div_le_div_left (a:=W) f1 (by omega);have h2:W/2147483648<=8589934592:=by omega
  omega
 have hs0:W%v1<v1:=Nat.mod_lt _ (by omega);clear hW;obtain⟨G,hG⟩:∃G,G=W/v1:=⟨_,rfl⟩;obtain⟨S,hS⟩:∃S,S=W%v1:=⟨_,rfl⟩;rw[<-hG]at hg0 HS;rw[<-hS]at hs0 HS;have hGi:=Ji W v1;have hSi:=Jj W v1;rw[<-hG]at hGi;rw[<-hS]at hSi;have HG:=hid hG;have UR:=hid hS;have XJ:=hid hWl;have hv1:¬(((v1:Nat):Int)=0):=by omega
 clear hG hS hWl;go_enter Tryz.func255,Tryz.ntmps255;go_wp2;go_step3;go_wp2;go_quiet (fail);go_wp2;go_quiet (fail);go_wp2;go_quiet (fail);go_wp2;go_step3;go_wp2;go_loopw [10,11,53] (fun l s _ wr=>∃gg ss q:Nat,l= .int .u64 gg/\ s= .int .u64 ss/\ gg<=8589934592/\ ss<=8589934592/\ Hid (jS (val R) (val D) v1 W gg ss)/\ wr=w.drewN q) (fun _ s _ _=>17179869184-(intOf s).toNat)
 case atStart=>exact⟨G,S,_,rfl,rfl,hg0,by omega,HS,by rw[World.drewN_drewN,World.drewN_drewN]⟩
 case round=>
  clear HS hg0 hs0 hGi hSi hWi HG UR;obtain⟨gg,ss,q,rfl,rfl,hgb,hsb,HI,rfl⟩:=hrel;have HI2:Hid (jS (val R) (val D) v1 (u0*4294967296+u1) gg ss):=by rw[Hid,<-HW.out];exact HI.out
  by_cases hs:4294967295<ss
  ·have d1:decide (((ss:Nat):Int)<=4294967295)=false:=by simp;omega
   have hd:=HF.out.KU HI2.out (by omega);have hgl:=hd.1;have HD:=hid (HF.out.done HI2.out hd.1 hd.2);clear hd;go_wp2;rw[Exit.noGoto_ret];go_ret;exact⟨gg,q,rfl,hgl,HI2.out.low,HD.out,rfl⟩
  ·by_cases hg:4294967295<gg
   ·have d1:decide (((gg:Nat):Int)<=4294967295)=false:=by simp;omega
    have HN:=hid (HF.out.KT HI2.out hg);have hs2:ss<4294967296:=by omega
    go_wp2;go_roundw
    case rel=>exact⟨gg-1,ss+v1,q,by go_num,by go_num,by omega,by omega,by rw[Hid,HW.out];exact HN.out,rfl⟩
    case measure=>simp[intOf];omega
   ·have hs2:ss<4294967296:=by omega
    have hg2:gg<4294967296:=by omega
    have hor:=CS ss u2 hs2 f6;obtain⟨T,hT⟩:∃T,T=ss*4294967296+u2:=⟨_,rfl⟩;rw[<-hT]at hor;have hwide:=(zC (z:=0) (c:=0) hg2 f3 (by omega) (by omega)).1;obtain⟨m,hm⟩:∃m,m=gg*v2:=⟨_,rfl⟩;rw[<-hm]at hwide;have hmi:((gg:Nat):Int)*((v2:Nat):Int)=((m:Nat):Int):=by rw[hm];simp
    have HT:=hid hT;have HM:=hid hm;clear hT hm;by_cases h3:T<m
    ·have d3:decide (T<m)=true:=by simpa using h3
     have HN:=hid (HF.out.step_third HI2.out (by rw[<-HT.out,<-HM.out];exact h3))
     have hg1:1<=gg:=by
      rcases Nat.eq_zero_or_pos gg with h0|h0
      ·rw[HM.out,h0,Nat.zero_mul]at h3;omega
      ·exact h0
     go_wp2;go_roundw
     case rel=>exact⟨gg-1,ss+v1,q,by go_num,by go_num,by omega,by omega,by rw[Hid,HW.out];exact HN.out,rfl⟩
     case measure=>simp[intOf];omega
    ·have d3:decide (T<m)=false:=by simpa using h3
     have HD:=hid (HF.out.done HI2.out hg2 (by rw[<-HT.out,<-HM.out];omega));go_wp2;rw[Exit.noGoto_ret];go_ret;exact⟨gg,q,rfl,hg2,HI2.out.low,HD.out,rfl⟩
end Go.Proofs.YtmenbpmciblnlaaGreatDoor
/- The contract of divide.takeRow. -/
namespace Go.Proofs.YtmenbpmciblnlaaGreatDoor
open Go.RowKit
def H7 (w0:World) (g N i:Nat) (L H D:List Nat) (l S m k c b:Nat) (w:World):Prop:=
 ∃R,gq w0 g N i L R H w/\ R.length=l/\ uZ R D S m k c b
def CU (w0:World) (g N i:Nat) (L R H:List Nat) (V m n:Nat) (e:Ending) (w:World):Prop:=
 ∃R':List Nat,∃b:Nat,e= .returned (.bool (((b:Nat):Int) !=0))/\ b<=1/\ gq w0 g N i L R' H w/\ R'.length=n+1/\ val R'+V*m=val R+4294967296^(n+1)*b
theorem ET (w0 w:World) (g N i cap:Nat) (L R H:List Nat) (d0:Option Addr) (n dc:Nat) (D:List Nat) (m:Nat) (hd:Sl w0 d0 n dc D) (hR:gq w0 g N i L R H w) (hl:R.length=n+1) (hcap:n+1<=cap) (hm:m<4294967296):
  Calls Tryz.prog 256 #[.slice (some ⟨g,i,none⟩) (n+1) cap,.slice d0 n dc,.int .u32 (m:Int)] w (CU w0 g N i L R H (val D) m n):=by
 have b1:=hd.big;have l1:=hd.le;have hI:H7 w0 g N i L H D (n+1) (val R) m 0 0 0 w:=⟨R,hR,hl,Hz _ _ _⟩;go_enter Tryz.func256,Tryz.ntmps256;clear hR;go_wp2_with fail;go_loopw [7,8,9,10,14] (fun c b _ _ j wr=>∃k cc bb:Nat,k<=n/\ j= .int .i64 k/\ c= .int .u64 cc/\ cc<4294967296/\ b= .int .u32 bb/\ bb<=1/\ H7 w0 g N i L H D (n+1) (val R) m k cc bb wr) (fun _ _ _ _ j _=>n-(intOf j).toNat)
 case atStart=>exact⟨0,0,0,Nat.zero_le _,rfl,rfl,by omega,rfl,by omega,hI⟩
 case round=>
  clear hI;obtain⟨k,cc,bb,hk,rfl,rfl,hcc,rfl,hbb,R',hR,hl',hV⟩:=hrel;by_cases hkn:k<n
  ·obtain⟨b,off,rfl,YX,hcb⟩:=hd.at (by omega);have hxc:wr.cell? ⟨b,off+k,none⟩=some (.int .u32 (D.getD k 0:Nat)):=(hR.below.cell (by exact YX)).trans (hcb k (by omega));have hzc:=hR.cell k (by omega);have xJ:=hR.frozen (i+k);have hxl:=hd.getD_lt k;have hzl:=gm hR.wf k;have hstep:=KV hV hR.wf (by omega) (by rw[hd.len];omega) hbb;obtain⟨x,hx⟩:∃x,x=D.getD k 0:=⟨_,rfl⟩;obtain⟨z,hz⟩:∃z,z=R'.getD k 0:=⟨_,rfl⟩;rw[<-hx]at hxc hxl hstep;rw[<-hz]at hzc hzl hstep;have HST:=Lib.hid hstep;have hw2:=(zC (z:=0) hxl hm (by omega) hcc).2;rw[Nat.add_zero]at hw2;obtain⟨t,ht⟩:∃t,t=x*m:=⟨_,rfl⟩;rw[<-ht]at hw2;have hti:((x:Nat):Int)*((m:Nat):Int)=((t:Nat):Int):=by rw[ht];simp
   obtain⟨u,hu⟩:∃u,u=(cc+t)%4294967296:=⟨_,rfl⟩;obtain⟨v,hv⟩:∃v,v=(cc+t)/4294967296:=⟨_,rfl⟩;have hui:(((cc:Nat):Int)+((t:Nat):Int))%4294967296=((u:Nat):Int):=by omega
   have hvi:(((cc:Nat):Int)+((t:Nat):Int))/4294967296=((v:Nat):Int):=by omega
   have Mc:u<4294967296:=by omega
   have hvl:v<4294967296:=by omega
   have HI2:Hid (H7 w0 g N i L H D (n+1) (val R) m (k+1) v (jm z u bb) (wr.setCell ⟨g,i+k,none⟩ (.int .u32 ((jc z u bb:Nat):Int)))):=by
    refine⟨_,hR.set k _ (by omega) (pu z u bb),by rw[List.length_set];exact hl',?_⟩;rw[hu,hv,ht];exact HST.out
   clear hx hz hV hstep hcb ht hu hv HST hR;go_wp2_with (go_at_call 183;refine(rJ z u bb _ hzl Mc hbb).mono ?_;rintro e w' ⟨rfl,rfl⟩);go_roundw
   case rel=>exact⟨k+1,v,jm z u bb,by omega,by go_num,rfl,hvl,rfl,ve _ _ _,HI2.out⟩
   case measure=>simp[intOf];omega
  ·obtain rfl:k=n:=by omega
   have hzc:=hR.cell k (by omega);have xJ:=hR.frozen (i+k);have hzl:=gm hR.wf k;have hlast:=KW hV hR.wf (by omega) hd.len hbb hcc;obtain⟨z,hz⟩:∃z,z=R'.getD k 0:=⟨_,rfl⟩;rw[<-hz]at hzc hzl hlast;have hcm:((cc:Nat):Int)%4294967296=((cc:Nat):Int):=by omega
   have HI2:Hid (CU w0 g N i L R H (val D) m k (.returned (.bool (((jm z cc bb:Nat):Int) !=0))) (wr.setCell ⟨g,i+k,none⟩ (.int .u32 ((jc z cc bb:Nat):Int)))):=
    ⟨_,_,rfl,ve _ _ _,hR.set k _ (by omega) (pu z cc bb),by rw[List.length_set];exact hl',hlast⟩
   clear hz hV hlast hR;go_wp2_with (go_at_call 183;refine(rJ z cc bb _ hzl hcc hbb).mono ?_;rintro e w' ⟨rfl,rfl⟩);go_ret;exact HI2.out
end Go.Proofs.YtmenbpmciblnlaaGreatDoor
/- The contract of divide.putBack. -/
namespace Go.Proofs.YtmenbpmciblnlaaGreatDoor
open Go.RowKit
def TH (w0:World) (g N i:Nat) (L H:List Nat) (l S T k c n top:Nat) (w:World):Prop:=
 ∃R,gq w0 g N i L R H w/\ R.length=l/\ val R+4294967296^k*c=S+T/\ R.getD n 0=top
def Oz (w0:World) (g N i:Nat) (L R H:List Nat) (V n:Nat) (e:Ending) (w:World):Prop:=
 ∃R':List Nat,∃c:Nat,e= .returned (.tuple #[])/\ c<=1/\ gq w0 g N i L R' H w/\ R'.length=n+1/\ val R'+4294967296^n*c=val R+V/\ R'.getD n 0=R.getD n 0
theorem EU (w0 w:World) (g N i cap:Nat) (L R H:List Nat) (d0:Option Addr) (n dc:Nat) (D:List Nat) (hd:Sl w0 d0 n dc D) (hR:gq w0 g N i L R H w) (hl:R.length=n+1) (hcap:n+1<=cap):
  Calls Tryz.prog 257 #[.slice (some ⟨g,i,none⟩) (n+1) cap,.slice d0 n dc] w (Oz w0 g N i L R H (val D) n):=by
 have b1:=hd.big;have l1:=hd.le;have HX:Hid (D.take n=D):=dh D n hd.len;have hI:TH w0 g N i L H (n+1) (val R) (val (D.take 0)) 0 0 n (R.getD n 0) w:=⟨R,hR,hl,by simp[val],rfl⟩;go_enter Tryz.func257,Tryz.ntmps257;clear hR;go_wp2_with fail;go_loopw [4,5,6,9] (fun c _ _ j wr=>∃k cc:Nat,k<=n/\ j= .int .i64 k/\ c= .int .u32 cc/\ cc<=1/\ TH w0 g N i L H (n+1) (val R) (val (D.take k)) k cc n (R.getD n 0) wr) (fun _ _ _ j _=>n-(intOf j).toNat)
 case atStart=>exact⟨0,0,Nat.zero_le _,rfl,rfl,by omega,hI⟩
 case round=>
  clear hI;obtain⟨k,cc,hk,rfl,rfl,hcc,R',hR,hl',hV,hT⟩:=hrel;by_cases hkn:k<n
  ·obtain⟨b,off,rfl,YX,hcb⟩:=hd.at (by omega);have hxc:wr.cell? ⟨b,off+k,none⟩=some (.int .u32 (D.getD k 0:Nat)):=(hR.below.cell (by exact YX)).trans (hcb k (by omega));have hzc:=hR.cell k (by omega);have xJ:=hR.frozen (i+k);have hxl:=hd.getD_lt k;have hzl:=gm hR.wf k;have hstep:=kI (y:=D.getD k 0) (by rw[hl'];omega) hV;rw[<-bE D k (by rw[hd.len];omega)]at hstep;obtain⟨x,hx⟩:∃x,x=D.getD k 0:=⟨_,rfl⟩;obtain⟨z,hz⟩:∃z,z=R'.getD k 0:=⟨_,rfl⟩;rw[<-hx]at hxc hxl hstep;rw[<-hz]at hzc hzl hstep;have HST:=Lib.hid hstep;have HT:=Lib.hid hT;clear hx hz hV hstep hcb hT;go_wp2_with (go_at_call 180;refine(kg z x cc _ hzl hxl hcc).mono ?_;rintro e w' ⟨rfl,rfl⟩);go_roundw
   case rel=>exact⟨k+1,(z+x+cc)/4294967296,by omega,by go_num,by go_num,by omega,_,hR.set k _ (by omega) (Nat.mod_lt _ (by omega)),by rw[List.length_set];exact hl',HST.out,by rw[fI,if_neg (by omega)];exact HT.out⟩
   case measure=>simp[intOf];omega
  ·obtain rfl:k=n:=by omega
   rw[HX.out]at hV;have HV:=Lib.hid hV;have HT:=Lib.hid hT;clear hV hT;go_wp2;go_end0;exact⟨R',cc,rfl,hcc,hR,hl',HV.out,HT.out⟩
end Go.Proofs.YtmenbpmciblnlaaGreatDoor
/- The contracts of divide.shifted and divide.told. -/
namespace Go.Proofs.YtmenbpmciblnlaaGreatDoor
open Go.RowKit
theorem wT (ao:Option Addr) (n cap:Nat) (xs:List Nat) (s:Nat) (w:World) (ha:Sl w ao n cap xs) (hs:s<=1048576) (hroom:n<=1000000000000):
  Calls Tryz.prog 254 #[.slice ao n cap,.int .i64 (s:Int)] w (iq w (limbs (val xs*2^s))):=by
 go_enter Tryz.func254,Tryz.ntmps254;go_wp2_with fail;refine(RF _ _ _ _ s _ ha hs (by omega)).mono ?_;rintro e w1 ⟨c0,k,c,rfl,hO,hB⟩;go_wp2_with fail;go_ret;exact⟨_,_,_,rfl,hO,hB⟩
def TI (w:World) (q r:Nat) (e:Ending) (w':World):Prop:=
 ∃a0 la ca b0 lb cb,e= .returned (.tuple #[.slice a0 la ca,.slice b0 lb cb])/\ Sl w' a0 la ca (limbs q)/\ Sl w' b0 lb cb (limbs r)/\ Below w.heap.size w w'
theorem U2 {w:World} {ad:Addr} {n cap:Nat} {xs:List Nat} (h:Sl w (some ad) n cap xs) (k:Nat) (hk:n<=k):Sl w (some ad) n k xs:=
 ⟨h.len,hk,h.big,h.wf,(fun h=>by cases h),h.cells⟩
theorem OA (g N n s:Nat) (zs:List Nat) (w:World) (hz:Sl w (some ⟨g,0,none⟩) N N zs) (hn:n<N) (hs:s<=31):
  Calls Tryz.prog 258 #[.slice (some ⟨g,0,none⟩) N N,.int .i64 (n:Int),.int .i64 (s:Int)] w (TI w (val (zs.drop n)) (val (zs.take n)/2^s)):=by
 have hbig:=hz.big;have S1:=Lib.hid (U2 (hz.take n (by omega)) n (Nat.le_refl _));have hd:=Jk hz n (by omega);rw[Nat.zero_add]at hd;have S2:=Lib.hid hd;have hck:(N==n)=false:=by simp;omega
 have aa5:¬(N=n):=by omega
 clear hz hd;go_enter Tryz.func258,Tryz.ntmps258;go_wp2;go_quiet (fail);go_wp2_with fail;refine(RG _ _ _ _ s _ (S1.out.drewN _) (by omega)).mono ?_;rintro e w1 ⟨c0,k,c,rfl,hO,hB⟩;have hB1:Below w.heap.size w w1:=(below_drewN _ w _).trans hB;have S3:=Lib.hid (S2.out.below hB1);have hbr:=Lib.hid (lu _ _ _ _ _ S3.out);go_wp2_with fail;refine hbr.out.mono ?_;rintro e w2 ⟨a1,n1,c1,rfl,hA,hn1,rfl⟩;go_wp2_with fail;go_ret2;exact⟨_,_,_,_,_,_,rfl,hA,hO.sl,hB1⟩
end Go.Proofs.YtmenbpmciblnlaaGreatDoor
/- The contract of divide.long: quotient and rest by Knuth's way D. -/
namespace Go.Proofs.YtmenbpmciblnlaaGreatDoor
open Lib (hid)
open Go.RowKit
theorem K6 {n k:Nat} (h:(limbs n).length=k) (h0:0<k):(limbs n).getD (k-1) 0≠0:=by
 intro hz;have h1:=kV (limbs n) (k-1) (by omega) hz;rw[show k-1+1=k from by omega,dh _ _ h,fH,h]at h1;have h2:=iF ((limbs n).take (k-1));rw[List.length_take]at h2;omega
structure K7 (A C s n m:Nat):Prop where
 s32:s<32
 aa6:(limbs (C*2^s)).length=n
 aa7:2147483648<=(limbs (C*2^s)).getD (n-1) 0
 dlt:C*2^s<4294967296^n
 room:A*2^s<C*2^s*4294967296^(m-n+1)
 aa8:(limbs (A*2^s)).length<=m+1
theorem H8 {A C n m:Nat} (hA:(limbs A).length=m) (hC:(limbs C).length=n) (hn:2<=n) (hm:n<=m):K7 A C (lead ((limbs C).getD (n-1) 0)) n m:=by
 have hx0:=K6 hC (by omega);have hxl:(limbs C).getD (n-1) 0<4294967296:=gm (dR C) _;obtain⟨t1,t2,t3⟩:=Ow hxl hx0;obtain⟨d1,d2⟩:=KZ (j:=n-1) (by omega) t2 t3 t1;rw[show n-1+1=n from by omega]at d2;obtain⟨d3,d4⟩:=RB (j:=n-1) d1 (by rw[show n-1+1=n from by omega];exact d2);have hAl:A<4294967296^m:=by have:=eu (limbs A) (dR A);rwa[au,hA]at this
 obtain⟨r1,r2⟩:=K4 (m:=m) (n:=n) hAl d1 t1 (by omega) hm;exact⟨t1,by omega,d4,d2,r1,qF r2⟩
structure OB (w1 w3:World) (g N X:Nat) (c0:Option Addr) (cn:Nat) (cz cl:List Value) (zs:List Nat):Prop where
 heap:w3.heap[g]? =some (.cells cz.toArray 192 (0,0))
 len:cl.length=cn
 aa9:cz.length=N
 src:0<cl.length->∃ad,c0=some ad/\∀j v,cl[j]? =some v->w3.cell? (ad.add j)=some v
 one:∀v∈cl,v.oneCell'=true
 lay:splice cz 0 cl=cellsOf zs
 val:val zs=X
 wf:Wf zs
 all:zs.length=N
 below:Below w1.heap.size w1 w3
theorem K8 {w1 w2 w3:World} {g N X:Nat} {c0:Option Addr} {cn cc:Nat} (hO:Own w1.heap.size w2 (some ⟨g,0,none⟩) N N (List.replicate N 0)) (hb:Below w1.heap.size w1 w2) (hX:Sl w3 c0 cn cc (limbs X)) (hB:Below w2.heap.size w2 w3) (hcn:cn<=N):
  ∃cz cl zs,OB w1 w3 g N X c0 cn cz cl zs:=by
 have hO2:=hO.below hB;have hZ1:∀t,0<=t->(List.replicate N 0).getD t 0=0:=fun t _=>dN _ _
 have hcl:=hX.len;have e1:=CV (ys:=limbs X) hZ1 (by rw[hcl];simp;omega);have f1:Wf _:=H9 (k:=0) hO2.wf (dR X);have g1:=CW (zs:=List.replicate N 0) (ys:=limbs X) (k:=0) (by rw[hcl];simp;omega);have EW:=vY (List.replicate N 0) (limbs X) 0;have e2:val (List.replicate N 0)+4294967296^0*val (limbs X)=X:=by rw[gU,au,Nat.pow_zero,Nat.one_mul,Nat.zero_add]
 rw[List.length_replicate]at g1;exact⟨_,_,_,(EX hO2).out,by rw[aU,hcl],by rw[aU,List.length_replicate],fun h0=>hX.hpos h0,iD _,EW,e1.trans e2,f1,g1,Below.steps hb hB⟩
structure Ia (w0:World) (g N:Nat) (A V n j:Nat) (zs:List Nat) (w:World):Prop where
 own:Own w0.heap.size w (some ⟨g,0,none⟩) N N zs
 below:Below w0.heap.size w0 w
 inv:pq A V n j zs
theorem Ib (lr:Nat) (w0 w:World) (g N i cap:Nat) (L R H:List Nat) (d0:Option Addr) (n dc:Nat) (D:List Nat) (m:Nat) (hd:Sl w0 d0 n dc D) (hR:gq w0 g N i L R H w) (hl:R.length=n+1) (hcap:n+1<=cap) (hm:m<4294967296) (hlr:lr=n+1):
  Calls Tryz.prog 256 #[.slice (some ⟨g,i,none⟩) lr cap,.slice d0 n dc,.int .u32 (m:Int)] w (CU w0 g N i L R H (val D) m n):=by
 subst hlr;exact ET _ _ _ _ _ _ _ _ _ _ _ _ _ _ hd hR hl hcap hm
theorem Ic (lr:Nat) (w0 w:World) (g N i cap:Nat) (L R H:List Nat) (d0:Option Addr) (n dc:Nat) (D:List Nat) (hd:Sl w0 d0 n dc D) (hR:gq w0 g N i L R H w) (hl:R.length=n+1) (hcap:n+1<=cap) (hlr:lr=n+1):
  Calls Tryz.prog 257 #[.slice (some ⟨g,i,none⟩) lr cap,.slice d0 n dc] w (Oz w0 g N i L R H (val D) n):=by
 subst hlr;exact EU _ _ _ _ _ _ _ _ _ _ _ _ _ hd hR hl hcap
theorem zD {w0:World} {g N i A V n q:Nat} {zs R' L R H:List Nat} {w:World} (hL:L=zs.take i) (hRe:R=(zs.drop i).take (n+1)) (hH:H=zs.drop (i+(n+1))) (hI:pq A V n (i+1) zs) (hw:Wf zs) (hn:i+n+1<=zs.length)
  (hR:gq w0 g N i L R' H w) (hl:R'.length=n+1) (hq:q<4294967296) (hv:val (R'.take n)+V*q=val R) (hlt:val (R'.take n)<V):
  ∃zs',Ia w0 g N A V n i zs' (w.setCell ⟨g,i+n,none⟩ (.int .u32 ((q:Nat):Int))):=by
 have h1:=hR.set n q (by omega) hq;rw[Ot hl]at h1;subst hL;subst hRe;subst hH;exact⟨_,h1.own,h1.below,KY hI hw hn (by rw[List.length_take];omega) rfl hv hlt⟩
theorem OC (a0 b0:Option Addr) (la ca lb cb A C:Nat) (w:World) (ha:Sl w a0 la ca (limbs A)) (hb:Sl w b0 lb cb (limbs C)) (h2:2<=lb) (hge:lb<=la) (ra:la<=1000000000000):
  Calls Tryz.prog 235 #[.slice a0 la ca,.slice b0 lb cb] w (TI w (A/C) (A%C)):=by
 obtain⟨i0,hi,hz0,hz1,hz2⟩:=info_parts Tryz.gJ
 have Y3:Hid (0<C):=by
  rw[Hid];rcases Nat.eq_zero_or_pos C with h|h
  ·have:=hb.len;rw[h,gT]at this;simp at this;omega
  ·exact h
 have HF:=hid (H8 ha.len hb.len h2 hge);obtain⟨b,off,rfl,hbb,hcell⟩:=hb.at (by omega);have hxc:=hcell (lb-1) (by omega);have hxl:=hb.getD_lt (lb-1);obtain⟨x,hx⟩:∃x,x=(limbs C).getD (lb-1) 0:=⟨_,rfl⟩;rw[<-hx]at hxc hxl HF;obtain⟨j,hj⟩:∃j,j=lb-1:=⟨_,rfl⟩;rw[<-hj]at hxc;have i1:((lb:Nat):Int)-1=((j:Nat):Int):=by omega
 have i2:j<lb:=by omega
 have hdc:=hb.le;have hac:=ha.le;have U3:=hid (All.cons ha (All.cons hb (All.nil _)));have HB0:=hid (Below.refl w.heap.size w);obtain⟨s,hs⟩:∃s,s=lead x:=⟨_,rfl⟩;rw[<-hs]at HF;have HS:=hid hs;have ad5:=HF.out.s32;clear ha hb hj hx hcell hs;go_enter Tryz.func235,Tryz.ntmps235;go_wp2_with fail;refine(Ov x _ hxl).mono ?_;rintro e w' ⟨rfl,rfl⟩;rw[<-HS.out];go_wp2_with fail;refine(wT _ _ _ _ s _ U3.out.tl.head (by omega) (by omega)).mono ?_;rintro e w1 ⟨d0,dn,dc,rfl,hX,hB⟩;rw[au]at hX;have hdn:dn=lb:=by rw[<-hX.len];exact HF.out.aa6
 subst hdn;have ad6:=hX.sl.le;obtain⟨db,ad7,rfl,_,_⟩:=hX.sl.at (by omega);have Na:=hid (All.cons hX.sl (U3.out.below hB));have HB1:=hid (Below.steps HB0.out hB);clear hX hB U3 HB0 HS hxc;go_wp2_with (at_make;refine wpList_make_full _ rfl _ _ 27 rfl w1.heap.size 192 i0 (.int .u32 0) 1 Tryz.underlying27 hi hz0 hz1 _ _ _ _ (la+1) rfl rfl (by omega) (by omega) ?b2 ?b3 (Nat.le_refl _) ?_)
 case b2=>rw[hz2];omega
 case b3=>unfold maxLen;omega
 intro w2 hown1 hgrow1;rw[iZ]at hown1;have hb1:Below w1.heap.size w1 w2:=(Below.refl _ _).grown hgrow1 (Nat.le_refl _) (fun k h=>by cases h)
 have nT:Own w1.heap.size w2 (some ⟨w1.heap.size,0,none⟩) (la+1) (la+1) (List.replicate (la+1) 0):=
  ⟨hown1,by omega,fun x hx=>by rw[(List.mem_replicate.1 hx).2];omega⟩
 have JL:=hid nT;have U4:=hid hb1;clear hown1 hgrow1 hb1 nT
 go_wp2_with (first
  |(go_at_call 254;refine(wT _ _ _ _ s _ (Na.out.tl.head.below U4.out) (by omega) (by omega)).mono ?_;rintro e w3 ⟨c0,cn,cc,rfl,hX,hB⟩;rw[au]at hX;have hcn:cn<=la+1:=(by rw[<-hX.len];exact HF.out.aa8);obtain⟨cz,cl,zs,hLR⟩:=K8 JL.out U4.out hX.sl hB hcn;have K9:=hid hLR;clear hX hB hLR JL U4)
  |((with_reducible refine wpList_copy_splice rfl (.tmp 28) (.tmp 31) 27 27 rfl 192 rfl Tryz.ou _ _ _ _ _ _ rfl rfl w1.heap.size 0 cz 192 K9.out.heap cl (by rw[K9.out.len];exact(Nat.min_eq_left (by omega)).symm) (fun h=>⟨rfl,K9.out.src h⟩) (by rw[K9.out.len,K9.out.aa9];omega) K9.out.one w1.heap.size w1 K9.out.below (Nat.le_refl _) ?_);intro w4 HG2 hb4;rw[K9.out.lay]at HG2))
 have hO4:=Own.zu (Nat.le_refl _) K9.out.all (by omega) K9.out.wf HG2.out;have HI:Hid (Ia w1 w1.heap.size (la+1) (A*2^s) (C*2^s) dn (la-dn+1) zs w4):=⟨hO4,hb4,H6 K9.out.all K9.out.val hge HF.out.room⟩;obtain⟨k0,hk0⟩:∃k0,k0=la-dn:=⟨_,rfl⟩;rw[<-hk0]at HI;have hk1:((la:Nat):Int)-((dn:Nat):Int)=((k0:Nat):Int):=by omega
 have hk2:k0+dn<=la:=by omega
 have aL:=hid hk1;have HI1:=hid i1;clear hO4 hb4 hk0 K9 HG2 hk1 i1;go_wp2_with fail;go_loopw [10,11,12] (fun p _ _ wr=>∃(jj:Nat) (zs':List Nat),jj<=k0+1/\ p= .int .i64 ((jj:Int)-1)/\ Ia w1 w1.heap.size (la+1) (A*2^s) (C*2^s) dn jj zs' wr) (fun p _ _ _=>(intOf p+1).toNat)
 case atStart=>exact⟨k0+1,zs,Nat.le_refl _,by rw[aL.out];go_num,HI.out⟩
 case round=>
  clear HI;obtain⟨jj,zs',hjj,rfl,hO,hB,hI⟩:=hrel;by_cases hj0:jj=0
  ·subst hj0;have ht:=OA w1.heap.size (la+1) dn s zs' wr hO.sl (by omega) (by omega);obtain⟨q1,q2⟩:=Ou (Nat.two_pow_pos s) Y3.out hI;rw[q1,q2]at ht;have HT:=hid ht;have Zg:=hid (Below.steps HB1.out hB);clear ht q1 q2 hO hB hI;go_wp2_with fail;refine HT.out.mono ?_;rintro e w5 ⟨p0,pn,pc,r0,rn,rc,rfl,hQ,hR,hB5⟩;go_wp2_with fail;go_ret2;exact⟨_,_,_,_,_,_,rfl,hQ,hR,Below.steps Zg.out hB5⟩
  ·obtain⟨i,rfl⟩:∃i,jj=i+1:=⟨jj-1,by omega⟩;have ei:((i+1:Nat):Int)-1=(i:Int):=by omega
   rw[ei];clear ei;have hR:=gq.of (n:=dn+1) hO hB (Nat.le_refl _) (by omega:i+(dn+1)<=la+1);have hrow:=Oq hI (by rw[hO.len];omega);have hrl:((zs'.drop i).take (dn+1)).length=dn+1:=by rw[List.length_take,List.length_drop,hO.len];omega
   have OD:=hid (fun(R':List Nat) (w:World) (q:Nat)=>zD (w0:=w1) (g:=w1.heap.size) (N:=la+1) (q:=q) (R':=R') (w:=w) rfl rfl rfl hI hO.wf (by rw[hO.len];omega));obtain⟨L,hL⟩:∃L,L=zs'.take i:=⟨_,rfl⟩;obtain⟨R,hRe⟩:∃R,R=(zs'.drop i).take (dn+1):=⟨_,rfl⟩;obtain⟨H,hH⟩:∃H,H=zs'.drop (i+(dn+1)):=⟨_,rfl⟩;rw[<-hL,<-hRe,<-hH]at hR OD;rw[<-hRe]at hrow hrl;have U5:=hid hrow;have DI:=hid hrl;have hDS:=hid (Na.out.head.below hB);clear hL hRe hH hrow hrl hO hI hj0;go_wp2_with fail;refine(K5 _ _ _ _ _ _ _ _ R (limbs (C*2^s)) _ (hR.sl (by rw[DI.out];omega) (by omega)) hDS.out (by omega) h2 HF.out.aa7 (by rw[au];exact U5.out)).mono ?_;rintro e w' ⟨gg,q,rfl,hgl,hlow,hup,rfl⟩;rw[au]at hlow hup;have Kl:=hid hlow;have Yq:=hid hup;have hR1:=hR.drewN q;clear hlow hup hR hDS hB;go_wp2_with fail;refine(Ib _ w1 _ _ _ _ _ L R H _ dn dc (limbs (C*2^s)) gg Na.out.head hR1 DI.out (by omega) hgl (by omega)).mono ?_;rintro e w6 ⟨R',bb,rfl,ab0,hR2,hl2,hv2⟩;rw[au]at hv2;have xJ:=hR2.frozen (i+dn);have hzc:=hR2.cell dn (by omega);have hs2:val R'<4294967296^(dn+1):=by have:=eu R' hR2.wf;rwa[hl2]at this
   by_cases hb0:bb=0
   ·subst hb0;rw[Nat.mul_zero,Nat.add_zero]at hv2;obtain⟨r1,r2⟩:=KX hv2 Kl.out HF.out.dlt;have ht:=zB hl2 r2;obtain⟨TJ,hz2'⟩:=OD.out R' w6 gg hR2 hl2 hgl (by rw[ht];exact hv2) (by rw[ht];exact r1);have HZ2:=hid hz2';clear hv2 r1 r2 ht hz2' hs2 Kl Yq OD hR1 DI hl2 U5 hR2;go_wp2_with fail;go_roundw
    case rel=>exact⟨i,TJ,by omega,by go_num,HZ2.out⟩
    case measure=>simp[intOf]
   ·obtain rfl:bb=1:=by omega
    have hg0:1<=gg:=by
     rcases Nat.eq_zero_or_pos gg with h0|h0
     ·rw[h0]at hv2;omega
     ·exact h0
    obtain⟨g1,hg1⟩:∃g1,g1=gg-1:=⟨_,rfl⟩;have hg2:((gg:Nat):Int)-1=((g1:Nat):Int):=by omega
    have ab1:g1<4294967296:=by omega
    have Wi:=hid hg1;have Mf:=hid hv2;have HS2:=hid hs2;have HW2:=hid hR2.wf;have HP:=hid (Ic (i+dn+1-i) w1 w6 _ _ _ (la+1-i) L R' H _ dn dc (limbs (C*2^s)) Na.out.head hR2 hl2 (by omega) (by omega));have HL2:=hid hl2;clear hv2 hs2 hg1 U5 hl2 hR1 hR2 hzc xJ DI hb0 ab0;go_wp2_with fail;refine HP.out.mono ?_;rintro e w7 ⟨R3,c,rfl,hc,Yr,hl3,hv3,ht3⟩;rw[au]at hv3;have xJ:=Yr.frozen (i+dn);have hzc:=Yr.cell dn (by omega);have hput:=RD HL2.out hl3 hv3 ht3 HW2.out;obtain⟨_,r2,r3⟩:=Oo (by have:=Mf.out;rwa[Nat.mul_one]at this) HS2.out Yq.out HF.out.dlt hput hc (jd Yr.wf dn);rw[<-Wi.out]at r2;obtain⟨TJ,hz2'⟩:=OD.out R3 w7 g1 Yr hl3 ab1 r2 r3;have HZ2:=hid hz2';clear hput r2 r3 hz2' hv3 ht3 hl3 HP Mf HS2 HW2 HL2 Wi Kl Yq OD Yr;go_wp2_with fail;go_roundw
    case rel=>exact⟨i,TJ,by omega,by go_num,HZ2.out⟩
    case measure=>simp[intOf]
end Go.Proofs.YtmenbpmciblnlaaGreatDoor
/- The contract of divide.Limb. -/
namespace Go.Proofs.YtmenbpmciblnlaaGreatDoor
open Go.RowKit
def Yt (w:World) (q r:Nat) (er:Int) (e:Ending) (w':World):Prop:=
 ∃ao n cap,e= .returned (.tuple #[.slice ao n cap,.int .u32 (r:Int),.int .i64 er])/\ Sl w' ao n cap (limbs q)/\ Below w.heap.size w w'
theorem yO {Q r X x d:Nat} (h:Q*d+r=X):(((r*4294967296+x)/d)+4294967296*Q)*d+(r*4294967296+x)%d=x+4294967296*X:=by
 have h1:=Nat.div_add_mod (r*4294967296+x) d;rw[<-h,Nat.add_mul,Nat.mul_add,Nat.mul_assoc];rw[Nat.mul_comm d]at h1;omega
structure nX (B:Nat) (ao:Option Addr) (n:Nat) (w:World) (D:List Nat) (d j r:Nat) (zs:List Nat) (wr:World):Prop where
 own:Own B wr ao n n zs
 below:Below B w wr
 sum:val (zs.drop j)*d+r=val (D.drop j)
 lt:r<d
theorem La (a0:Option Addr) (la ca:Nat) (xs:List Nat) (d:Nat) (w:World) (ha:Sl w a0 la ca xs) (hd0:0<d) (hd:d<4294967296):
  Calls Tryz.prog 221 #[.slice a0 la ca,.int .u32 (d:Int)] w (Yt w (val xs/d) (val xs%d) 0):=by
 obtain⟨i0,hi,hz0,hz1,hz2⟩:=info_parts Tryz.gJ;have hb0:(((d:Nat):Int)==0)=false:=by simp;omega
 have hbig:=ha.big;go_enter Tryz.func221,Tryz.ntmps221;go_wp2_with fail;refine(lu _ _ _ _ _ ha).mono ?_;rintro e w' ⟨a1,n1,c1,rfl,hA,hn1,rfl⟩;go_wp2_with (at_make;refine wpList_make_full _ rfl _ _ 27 rfl w.heap.size 192 i0 (.int .u32 0) 1 Tryz.underlying27 hi hz0 hz1 _ _ _ _ n1 rfl rfl rfl rfl ?b2 ?b3 (Nat.le_refl _) ?_)
 case b2=>rw[hz2];omega
 case b3=>unfold maxLen;omega
 intro w1 hown1 hgrow1;rw[iZ]at hown1;have hb1:Below w.heap.size w w1:=(Below.refl _ _).grown hgrow1 (Nat.le_refl _) (fun k h=>by cases h)
 have nT:Own w.heap.size w1 (some ⟨w.heap.size,0,none⟩) n1 n1 (List.replicate n1 0):=
  ⟨hown1,by omega,fun x hx=>by rw[(List.mem_replicate.1 hx).2];omega⟩
 have hI1:nX w.heap.size (some ⟨w.heap.size,0,none⟩) n1 w (limbs (val xs)) d n1 0 (List.replicate n1 0) w1:=by
  refine⟨nT,hb1,?_,hd0⟩;rw[List.drop_eq_nil_of_le (by simp),List.drop_eq_nil_of_le (by rw[hA.len];exact Nat.le_refl _),dQ,Nat.zero_mul]
 clear hown1 hgrow1 nT hb1;go_wp2_with fail;go_loopw [5,7] (fun r i wr=>∃j rr:Nat,∃zs:List Nat,j<=n1/\ i= .int .i64 ((j:Int)-1)/\ r= .int .u32 rr/\ nX w.heap.size (some ⟨w.heap.size,0,none⟩) n1 w (limbs (val xs)) d j rr zs wr) (fun _ i _=>(intOf i+1).toNat)
 case atStart=>exact⟨n1,0,_,Nat.le_refl _,rfl,rfl,hI1⟩
 case round=>
  clear hI1;obtain⟨j,rr,zs,hj,rfl,rfl,hO,hB,hV,hlt⟩:=hrel;by_cases hj0:j=0
  ·subst hj0
   have hq:val zs=val xs/d/\ rr=val xs%d:=by
    rw[List.drop_zero,List.drop_zero,au]at hV;have h1:val xs=rr+d*val zs:=by rw[<-hV,Nat.mul_comm];omega
    rw[h1];exact⟨by rw[Nat.add_mul_div_left _ _ hd0,Nat.div_eq_of_lt hlt,Nat.zero_add],by rw[Nat.add_mul_mod_self_left,Nat.mod_eq_of_lt hlt]⟩
   have hbare:=lu _ _ _ _ _ hO.sl;rw[hq.1]at hbare;have QO:=Lib.hid hbare;have HR:=Lib.hid hq.2;clear hbare hV hq hO;go_wp2_with fail;refine QO.out.mono fun e w' h=>?_
   obtain⟨ao,kk,cap,rfl,h3,h4,rfl⟩:=h;go_wp2_with fail;go_ret3;exact⟨_,_,_,by rw[<-HR.out];rfl,h3,hB⟩
  ·obtain⟨i,rfl⟩:∃i,j=i+1:=⟨j-1,by omega⟩;have ei:((i+1:Nat):Int)-1=(i:Int):=by omega
   rw[ei];clear ei;obtain⟨b,off,rfl,hbb,hcb⟩:=hA.at (by omega);have hxc:wr.cell? ⟨b,off+i,none⟩=some (.int .u32 ((limbs (val xs)).getD i 0:Nat)):=(hB.cell (by exact hbb)).trans (hcb i (by omega));have hxl:=hA.getD_lt i;have xJ:=hO.frozen i;have hzc:=hO.cell i (by omega);have hdrop:=iL (limbs (val xs)) i (by rw[hA.len];omega);obtain⟨x,hx⟩:∃x,x=(limbs (val xs)).getD i 0:=⟨_,rfl⟩;rw[<-hx]at hxc hxl hdrop;have HDR:=Lib.hid hdrop;have HV:=Lib.hid hV
   have hq:(rr*4294967296+x)/d<4294967296:=by
    rw[Nat.div_lt_iff_lt_mul hd0];have:(rr+1)*4294967296<=d*4294967296:=Nat.mul_le_mul_right _ hlt;omega
   have hI2:Hid (∀q,nX w.heap.size (some ⟨w.heap.size,0,none⟩) n1 w (limbs (val xs)) d i ((rr*4294967296+x)%d) (zs.set i ((rr*4294967296+x)/d)) ((wr.drewN q).setCell ⟨w.heap.size,i,none⟩ (.int .u32 (((rr*4294967296+x)/d:Nat):Int)))):=by
    intro q;refine⟨(hO.drewN q).set i _ hq,(hB.trans (below_drewN _ _ q)).setCell (Nat.le_refl _) _,?_,Nat.mod_lt _ hd0⟩;rw[iL _ i (by rw[List.length_set,hO.len];omega),fI,if_pos ⟨rfl,by rw[hO.len];omega⟩,List.drop_set_of_lt (by omega),HDR.out];exact yO HV.out
   clear hx hcb hdrop hV hq hj0 hO;go_wp2_with (go_at_call 241;refine(A8 rr x d _ hlt hxl hd).mono ?_;rintro e w' ⟨rfl,q,rfl⟩);go_roundw
   case rel=>exact⟨i,_,_,by omega,by go_num,rfl,hI2.out _⟩
   case measure=>simp[intOf]
end Go.Proofs.YtmenbpmciblnlaaGreatDoor
/- The contracts of divide.DivMod and divide.Exact. -/
namespace Go.Proofs.YtmenbpmciblnlaaGreatDoor
open Lib (hid)
open Go.RowKit
def Yu (w:World) (q r:Nat) (er:Int) (e:Ending) (w':World):Prop:=
 ∃a0 la ca b0 lb cb,e= .returned (.tuple #[.slice a0 la ca,.slice b0 lb cb,.int .i64 er])/\ Sl w' a0 la ca (limbs q)/\ Sl w' b0 lb cb (limbs r)/\ Below w.heap.size w w'
def Yv (w:World) (q:Nat) (er:Int) (e:Ending) (w':World):Prop:=
 ∃a0 la ca,e= .returned (.tuple #[.slice a0 la ca,.int .i64 er])/\ Sl w' a0 la ca (limbs q)/\ Below w.heap.size w w'
theorem U6 {w:World} {ao:Option Addr} {n cap V:Nat} (h:Sl w ao n cap (limbs V)) (h0:V=0):n=0:=by
 subst h0;rw[<-h.len];rfl
theorem U7 {w:World} {ao:Option Addr} {n cap V:Nat} (h:Sl w ao n cap (limbs V)) (h0:V≠0):0<n:=by
 rcases Nat.eq_zero_or_pos n with h1|h1
 ·have:=h.len;rw[h1]at this;have h2:limbs V=[]:=List.eq_nil_of_length_eq_zero this;have h3:=au V;rw[h2,dQ]at h3;exact absurd h3.symm h0
 ·exact h1
theorem vg (a0 b0:Option Addr) (la ca lb cb:Nat) (xs ys:List Nat) (w:World) (ha:Sl w a0 la ca xs) (hb:Sl w b0 lb cb ys) (h0:val ys≠0) (ra:la<=1000000000000):
  Calls Tryz.prog 212 #[.slice a0 la ca,.slice b0 lb cb] w (Yu w (val xs/val ys) (val xs%val ys) 0):=by
 have H0:=hid h0;have hla:=ha.big;clear h0;go_enter Tryz.func212,Tryz.ntmps212;go_wp2_with fail;refine(lu _ _ _ _ _ ha).mono ?_;rintro e w' ⟨a1,n1,c1,rfl,hA,hn1,rfl⟩;go_wp2_with fail;refine(lu _ _ _ _ _ hb).mono ?_;rintro e w' ⟨b1,m1,d1,rfl,hB,hm1,rfl⟩;have hm0:=U7 hB H0.out;have hmz:(((m1:Nat):Int)==0)=false:=by simp;omega
 have hbm:=hB.big;clear hb ha;by_cases hlt:n1<m1
 ·have d1':decide (n1<m1)=true:=by simpa using hlt
  have Yw:Hid (val xs<val ys):=by
   rw[Hid];have:=gK (xs:=limbs (val xs)) (ys:=limbs (val ys)) (dR _) (by rw[fH,fH,hA.len,hB.len];exact hlt);rwa[au,au]at this
  have ht:=zF _ _ _ _ _ hA;rw[au]at ht;have HT:=hid ht;clear ht;go_wp2_with fail;refine HT.out.mono ?_;rintro e w1 ⟨t0,tn,tc,rfl,hT,hB1⟩;go_wp2_with fail;go_ret3;exact⟨_,_,_,_,_,_,rfl,by rw[Nat.div_eq_of_lt Yw.out];exact Sl.none _,by rw[Nat.mod_eq_of_lt Yw.out];exact hT.sl,hB1⟩
 ·have d1':decide (n1<m1)=false:=by simpa using hlt
  by_cases hone:m1=1
  ·subst hone;obtain⟨b,off,rfl,hbb,hcell⟩:=hB.at (by omega);have hc:=hcell 0 (by omega);rw[Nat.add_zero]at hc;have hyl:=hB.getD_lt 0
   have hyv:val ys=(limbs (val ys)).getD 0 0:=by
    have h1:=bE (limbs (val ys)) 0 (by rw[hB.len];omega);rw[dh _ _ hB.len,au]at h1;simpa[val]using h1
   obtain⟨y,hy⟩:∃y,y=(limbs (val ys)).getD 0 0:=⟨_,rfl⟩;rw[<-hy]at hc hyl hyv;have hy0:0<y:=by have:=H0.out;omega
   have YT:=hid hyv;have Xy:=hid (La _ _ _ _ y _ hA hy0 hyl);clear hcell hy hyv;go_wp2_with fail;refine Xy.out.mono ?_;rintro e w1 ⟨q0,qn,qc,rfl,hQ,hB1⟩;rw[au]at hQ;obtain⟨r,hr⟩:∃r,r=val (limbs (val xs))%y:=⟨_,rfl⟩;rw[<-hr];have hrl:r<y:=by rw[hr];exact Nat.mod_lt _ hy0
   have HR:=hid hr;clear hr Xy;go_wp2_with fail;refine(jG r _ (by omega)).mono ?_;rintro e w2 ⟨s0,sn,sc,rfl,hS,hB2⟩;go_wp2_with fail;go_ret3;exact⟨_,_,_,_,_,_,rfl,by rw[YT.out];exact hQ.below hB2,by rw[YT.out,<-au (val xs),<-HR.out];exact hS.sl,Below.steps hB1 hB2⟩
  ·have d2':(((m1:Nat):Int)==1)=false:=by simp;omega
   go_wp2_with fail;refine(OC _ _ _ _ _ _ _ _ _ hA hB (by omega) (by omega) (by omega)).mono ?_;rintro e w1 ⟨q0,qn,qc,r0,rn,rc,rfl,hQ,hR,hB1⟩;go_wp2_with fail;go_ret3;exact⟨_,_,_,_,_,_,rfl,hQ,hR,hB1⟩
theorem Lb (a0 b0:Option Addr) (la ca lb cb:Nat) (xs ys:List Nat) (w:World) (ha:Sl w a0 la ca xs) (hb:Sl w b0 lb cb ys) (h0:val ys≠0) (ra:la<=1000000000000) (hr:val xs%val ys=0):
  Calls Tryz.prog 177 #[.slice a0 la ca,.slice b0 lb cb] w (Yv w (val xs/val ys) 0):=by
 have HR:=hid hr;clear hr;go_enter Tryz.func177,Tryz.ntmps177;go_wp2_with fail;refine(vg _ _ _ _ _ _ _ _ _ ha hb h0 ra).mono ?_;rintro e w1 ⟨q0,qn,qc,r0,rn,rc,rfl,hQ,hR,hB1⟩;obtain rfl:rn=0:=U6 hR HR.out;go_wp2_with fail;go_ret2;exact⟨_,_,_,rfl,hQ,hB1⟩
end Go.Proofs.YtmenbpmciblnlaaGreatDoor

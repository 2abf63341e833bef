import Derived.WalkKit
import Derived.Deep.RegionHeld
import Derived.Deep.LoopGhost
import Derived.Lib.Hide
import Derived.Lib.BitFns
set_option maxHeartbeats 0
set_option maxRecDepth 100000
abbrev Go.Z':=Option Go.Addr
theorem Go.RowKit.Hid.o {p:Prop} (h:Go.RowKit.Hid p):p:=h
theorem Go.Shut.o {p:Prop} (h:Go.Shut p):p:=h
theorem Go.Aside.o {p:Prop} (h:Go.Aside p):p:=h
open Go.IntKind renaming u64->ah5
open List renaming cons_append->ai3,drop_eq_getElem_cons->aj0,drop_eq_nil_of_le->aj2,eq_nil_of_length_eq_zero->ai7,ext_getElem->ai6,getD->ah8,length_cons->ah6,length_take->ah7,mem_cons->ai2,mem_cons_of_mem->ai0,mem_cons_self->ah9,mem_of_mem_take->ai1,replicate->ai4,replicate_succ->ai5,set_cons_succ->ai9,take_append_drop->aj1,take_of_length_le->ai8
open Nat renaming add_mul_div_left->al9,add_mul_mod_self_left->am3,add_right_cancel_iff->ak0,add_zero->ak7,div_eq_of_lt->am1,div_lt_iff_lt_mul->al7,eq_zero_or_pos->al0,le_refl->aj3,log2_eq_iff->al3,lt_of_lt_of_le->al1,lt_or_ge->ak9,min_eq_left->ak5,mod_add_div->al8,mod_lt->ak8,mul_add->aj6,mul_assoc->aj7,mul_comm->aj8,mul_le_mul_left->aj9,mul_left_comm->am4,mul_one->al6,mul_zero->ak6,or_comm->ak3,pow_add->al5,pow_le_pow_right->ak2,pow_mul->al4,pow_pos->am0,pow_succ->aj5,pow_zero->ak1,strongRecOn->aj4,two_pow_add_eq_or_of_lt->ak4,two_pow_pos->al2,zero_add->am2
namespace Go.Proofs.YtmenbpmciblnlaaGreatDoor
section
def au:List Nat->Nat
 |[]=>0
 |x::xs=>x+4294967296*au xs
def bE:List Nat->List Nat
 |[]=>[]
 |x::xs=>if x=0/\ bE xs=[]then[]else x::bE xs
def nl (xs:List Nat):Nat:=(bE xs).length
theorem Vu:nl []=0:=rfl
theorem lN (xs:List Nat):bE (xs++[0])=bE xs:=by
 induction xs with
 |nil=>simp[bE]
 |cons x xs ih=>simp[bE,ih]
theorem qZ (xs:List Nat) {x:Nat} (h:x≠0):bE (xs++[x])=xs++[x]:=by
 induction xs with
 |nil=>simp[bE,h]
 |cons y xs ih=>simp[bE,ih]
theorem cF (xs:List Nat):bE xs=xs.take (nl xs):=by
 unfold nl;induction xs with
 |nil=>rfl
 |cons x xs ih=>
  unfold bE;split
  ·rfl
  ·simp only[ah6,List.take_succ_cons];rw[<-ih]
theorem fV (xs:List Nat):nl xs<=xs.length:=by
 have h:=congrArg List.length (cF xs);rw[ah7]at h;unfold nl at*
 omega
theorem cv (xs:List Nat) (k:Nat) (h:k<xs.length):xs.take (k+1)=xs.take k++[xs.getD k 0]:=by
 rw[List.take_succ_eq_append_getElem h];simp[ah8,h]
theorem km (xs:List Nat) (k:Nat) (h:k<xs.length) (h0:xs.getD k 0=0):nl (xs.take (k+1))=nl (xs.take k):=by
 unfold nl;rw[cv xs k h,h0,lN]
theorem uK (xs:List Nat) (k:Nat) (h:k<xs.length) (h0:xs.getD k 0≠0):nl (xs.take (k+1))=k+1:=by
 unfold nl;rw[cv xs k h,qZ _ h0];simp;omega
def Wf (xs:List Nat):Prop:=∀x∈xs,x<4294967296
theorem Wf.cons {x:Nat} {xs:List Nat} (h:Wf (x::xs)):x<4294967296/\ Wf xs:=
 ⟨h x ah9,λy hy=>h y (ai0 _ hy)⟩
theorem di:au []=0:=rfl
theorem bu (x:Nat) (xs:List Nat):au (x::xs)=x+4294967296*au xs:=rfl
theorem dC (xs:List Nat):au (bE xs)=au xs:=by
 induction xs with
 |nil=>rfl
 |cons x xs ih=>
  unfold bE;split
  ·rename_i h;rw[bu,<-ih,h.2,h.1];rfl
  ·rw[bu,bu,ih]
theorem iM {xs:List Nat}:bE xs=[]↔au xs=0:=by
 induction xs with
 |nil=>simp[bE,au]
 |cons x xs ih=>
  simp only[bE,au];split
  ·rename_i h;have:=ih.1 h.2;simp;omega
  ·rename_i h;simp only[reduceCtorEq,false_iff];intro h0;exact h ⟨by omega,ih.2 (by omega)⟩
theorem Wf.ve {xs:List Nat} (h:Wf xs):Wf (bE xs):=λy hy=>h y (ai1 (by rw[<-cF];exact hy))
theorem Wf.take {xs:List Nat} (h:Wf xs) (k:Nat):Wf (xs.take k):=λy hy=>h y (ai1 hy)
def gZ:Nat->Nat->List Nat
 |0,_=>[]
 |f+1,n=>if n=0 then[]else n%4294967296::gZ f (n/4294967296)
def aq (n:Nat):List Nat:=gZ n n
theorem pF (f:Nat):∀g n,n<=f->n<=g->gZ f n=gZ g n:=by
 induction f with
 |zero=>
  intro g n h1 _;obtain rfl:n=0:=by omega
  cases g<;>simp[gZ]
 |succ f ih=>
  intro g n h1 h2;cases g with
  |zero=>obtain rfl:n=0:=by omega
         simp[gZ]
  |succ g=>
   simp only[gZ];split
   ·rfl
   ·rw[ih g _ (by omega) (by omega)]
theorem fE:aq 0=[]:=rfl
theorem fj {n:Nat} (h:0<n):aq n=n%4294967296::aq (n/4294967296):=by
 unfold aq;obtain⟨m,rfl⟩:∃m,n=m+1:=⟨n-1,by omega⟩;rw[gZ,if_neg (by omega),pF m ((m+1)/4294967296) _ (by omega) (aj3 _)]
theorem cq (xs:List Nat) (h:Wf xs):bE xs=aq (au xs):=by
 induction xs with
 |nil=>rfl
 |cons x xs ih=>
  obtain⟨hx,hxs⟩:=h.cons;unfold bE;split
  ·rename_i h;have h0:au xs=0:=iM.1 h.2;rw[bu,h.1,h0];rfl
  ·rename_i h
   have Ce:0<au (x::xs):=by
    rw[bu];by_cases hx0:x=0
    ·have:au xs≠0:=λe=>h ⟨hx0,iM.2 e⟩
     omega
    ·omega
   rw[fj Ce,bu,ih hxs]
   congr 1
   ·omega
   ·congr 1;omega
theorem av (n:Nat):au (aq n)=n:=by
 induction n using aj4 with
 | _ n ih=>
  by_cases h:0<n
  ·rw[fj h,bu,ih _ (by omega)];omega
  ·obtain rfl:n=0:=by omega
   rfl
theorem dv (n:Nat):Wf (aq n):=by
 induction n using aj4 with
 | _ n ih=>
  by_cases h:0<n
  ·rw[fj h];intro x hx;rcases ai2.1 hx with rfl|hx
   ·omega
   ·exact ih _ (by omega) x hx
  ·obtain rfl:n=0:=by omega
   intro x hx;cases hx
theorem jH (n:Nat):bE (aq n)=aq n:=by
 rw[cq _ (dv n),av]
theorem eI (n:Nat):nl (aq n)=(aq n).length:=by unfold nl;rw[jH]
theorem Tl (xs:List Nat) (h:Wf xs):nl xs=(aq (au xs)).length:=by unfold nl;rw[cq _ h]
theorem bW (xs ys:List Nat):au (xs++ys)=au xs+4294967296^xs.length*au ys:=by
 induction xs with
 |nil=>simp[au]
 |cons x xs ih=>
  rw[ai3,bu,bu,ih,ah6,aj5,aj6,<-aj7,aj8 4294967296 (4294967296^_)];omega
theorem dG (xs:List Nat) (h:Wf xs):au xs<4294967296^xs.length:=by
 induction xs with
 |nil=>simp[au]
 |cons x xs ih=>
  obtain⟨hx,hxs⟩:=h.cons;have:=ih hxs;rw[bu,ah6,aj5];have h2:4294967296*(au xs+1)<=4294967296*4294967296^xs.length:=aj9 _ this;rw[aj8 (4294967296^xs.length)];omega
theorem fG (k:Nat):au (ai4 k 0)=0:=by
 induction k with
 |zero=>rfl
 |succ k ih=>rw[ai5,bu,ih]
theorem tS:∀(X Y:List Nat) (j:Nat),X.length=Y.length->j<X.length->Wf X->Wf Y->(∀i,j<i->i<X.length->X.getD i 0=Y.getD i 0)->X.getD j 0<Y.getD j 0->au X<au Y:=by
 intro X;induction X with
 |nil=>intro Y j _ hj;simp at hj
 |cons x X ih=>
  intro Y j hl hj hX hY heq hlt;cases Y with
  |nil=>simp at hl
  |cons y Y=>
   obtain⟨hx,hX'⟩:=hX.cons;obtain⟨hy,hY'⟩:=hY.cons;have hl':X.length=Y.length:=by simpa using hl
   rw[bu,bu];cases j with
   |zero=>
    have e:X=Y:=by
     apply ai6 hl';intro i h1 h2;have:=heq (i+1) (by omega) (by simp;omega);simpa[ah8,h1,h2]using this
    have:x<y:=by simpa[ah8]using hlt
    rw[e];omega
   |succ j=>
    have:=ih Y j hl' (by simpa using hj) hX' hY' (λi h1 h2=>by
     have:=heq (i+1) (by omega) (by simp;omega);simpa[ah8]using this) (by simpa[ah8]using hlt)
    omega
def eT (a b:Nat):Int:=if a<b then-1 else if a=b then 0 else 1
theorem eh {xs:List Nat} (k:Nat) (h:nl xs=k+1):4294967296^k<=au xs:=by
 induction xs generalizing k with
 |nil=>simp[nl,bE]at h
 |cons x xs ih=>
  rw[bu];unfold nl bE at h;split at h
  ·simp at h
  ·rename_i hn;simp only[ah6,ak0]at h;cases k with
   |zero=>
    have h0:bE xs=[]:=ai7 h;have:x≠0:=λe=>hn ⟨e,h0⟩
    simp only[ak1];omega
   |succ k=>
    have:=ih k h;rw[aj5];omega
theorem fC {xs ys:List Nat} (hx:Wf xs) (h:nl xs<nl ys):au xs<au ys:=by
 have h1:au xs<4294967296^(nl xs):=by rw[<-dC xs];exact dG _ hx.ve
 obtain⟨k,hk⟩:∃k,nl ys=k+1:=⟨nl ys-1,by omega⟩;have h2:=eh k hk;have h3:4294967296^(nl xs)<=4294967296^k:=ak2 (by omega) (by omega);omega
theorem ey (xs:List Nat) (i:Nat) (h:i<nl xs):(bE xs).getD i 0=xs.getD i 0:=by
 rw[cF];simp[ah8,h]
theorem xA {xs ys:List Nat} (hx:Wf xs) (hy:Wf ys) (h:nl xs≠nl ys):eT (au xs) (au ys)=if nl ys<nl xs then 1 else-1:=by
 unfold eT;by_cases h1:nl ys<nl xs
 ·have:=fC hy h1;rw[if_pos h1,if_neg (by omega),if_neg (by omega)]
 ·have:=fC hx (show nl xs<nl ys by omega);rw[if_neg h1,if_pos this]
theorem GR {xs ys:List Nat} (hx:Wf xs) (hy:Wf ys) (n j:Nat) (h1:nl xs=n) (h2:nl ys=n) (hj:j<n) (heq:∀i,j<i->i<n->xs.getD i 0=ys.getD i 0) (hne:xs.getD j 0≠ys.getD j 0):
  eT (au xs) (au ys)=if ys.getD j 0<xs.getD j 0 then 1 else-1:=by
 have key:∀(a b:List Nat),Wf a->Wf b->nl a=n->nl b=n->(∀i,j<i->i<n->a.getD i 0=b.getD i 0)->a.getD j 0<b.getD j 0->au a<au b:=by
  intro a b ha hb na nb he hl;rw[<-dC a,<-dC b];have la:(bE a).length=n:=na;have lb:(bE b).length=n:=nb;refine tS _ _ j (by omega) (by omega) ha.ve hb.ve (λi h3 h4=>?_) ?_
  ·rw[ey a i (by omega),ey b i (by omega)];exact he i h3 (by omega)
  ·rw[ey a j (by omega),ey b j (by omega)];exact hl
 unfold eT;by_cases hlt:ys.getD j 0<xs.getD j 0
 ·have:=key ys xs hy hx h2 h1 (λi h3 h4=>(heq i h3 h4).symm) hlt;rw[if_pos hlt,if_neg (by omega),if_neg (by omega)]
 ·have:=key xs ys hx hy h1 h2 heq (by omega);rw[if_neg hlt,if_pos this]
theorem xB {xs ys:List Nat} (n:Nat) (h1:nl xs=n) (h2:nl ys=n) (heq:∀i,i<n->xs.getD i 0=ys.getD i 0):eT (au xs) (au ys)=0:=by
 have:bE xs=bE ys:=by
  have la:(bE xs).length=n:=h1;have lb:(bE ys).length=n:=h2;apply ai6 (by omega);intro i h3 h4;have:=heq i (by omega);rw[<-ey xs i (by omega),<-ey ys i (by omega)]at this;simpa[ah8,h3,h4]using this
 unfold eT;rw[<-dC xs,<-dC ys,this,if_neg (by omega),if_pos rfl]
theorem cE (xs:List Nat) (n:Nat) (h:xs.length=n):xs.take n=xs:=by
 rw[ai8 (by omega)]
theorem jg {xs:List Nat} (h:nl xs=0):bE xs=[]:=ai7 h
end
section
theorem pN (n:Nat) (h:n<18446744073709551616):ah5.wrap (n:Int)=(n:Int):=by
 simp only[IntKind.wrap,IntKind.bits,IntKind.signed];simp only[Bool.false_and,Bool.false_eq_true,if_false];have:(2:Int)^64=18446744073709551616:=by decide
 rw[this];omega
theorem Vv (a b k:Nat) (ha:a<2^k) (hb:2^k*b+a<18446744073709551616):bits .or .u64 (a:Int) ((2^k*b:Nat):Int)=((2^k*b+a:Nat):Int):=by
 rw[u64_or_nat a (2^k*b) (by omega) (by omega),ak3,<-ak4 ha]
theorem IV (a b k:Nat) (ha:a<2^k) (hb:2^k*b+a<18446744073709551616):bits .or .u64 ((2^k*b:Nat):Int) (a:Int)=((2^k*b+a:Nat):Int):=by
 rw[u64_or_nat (2^k*b) a (by omega) (by omega),<-ak4 ha]
theorem Vw (a b k:Nat) (ha:a<2^k) (hb:2^k*b+a<4294967296):bits .or .u32 (a:Int) ((2^k*b:Nat):Int)=((2^k*b+a:Nat):Int):=by
 rw[u32_or_nat a (2^k*b) (by omega) (by omega),ak3,<-ak4 ha]
end
section
theorem wrap_i64 (n:Nat) (h:n<9223372036854775808):IntKind.i64.wrap (n:Int)=(n:Int):=
 IntWalk.i64_in _ (by omega)
end
section
theorem iA:∀(ys:List Nat) (k v:Nat),k<ys.length->au (ys.set k v)+4294967296^k*ys.getD k 0=au ys+4294967296^k*v
 |[],k,v,h=>by simp at h
 |y::ys,0,v,_=>by simp[au,ah8];omega
 |y::ys,k+1,v,h=>by
  have ih:=iA ys k v (by simpa using h);have e:(y::ys).getD (k+1) 0=ys.getD k 0:=by simp[ah8]
  rw[e,ai9,bu,bu,aj5,aj8 (4294967296^k) 4294967296,aj7,aj7];omega
theorem bC (ys:List Nat) (k:Nat) (h:k<ys.length):au (ys.take (k+1))=au (ys.take k)+4294967296^k*ys.getD k 0:=by
 rw[cv ys k h,bW,ah7,ak5 (by omega),bu,di,ak6,ak7]
theorem jM {ys:List Nat} {k y c S T:Nat} (hk:k<ys.length) (h:au ys+4294967296^k*c=S+T):
  au (ys.set k ((ys.getD k 0+y+c)%4294967296))+4294967296^(k+1)*((ys.getD k 0+y+c)/4294967296)=S+(T+4294967296^k*y):=by
 have h1:=iA ys k ((ys.getD k 0+y+c)%4294967296) hk;generalize ys.getD k 0=u at*
 have h2:4294967296^k*((u+y+c)%4294967296)+4294967296^(k+1)*((u+y+c)/4294967296)=4294967296^k*u+4294967296^k*y+4294967296^k*c:=by
  rw[aj5,aj7,<-aj6,<-aj6,<-aj6]
  congr 1
  omega
 omega
def ig (u y c:Nat):Nat:=(u+4294967296-y-c)%4294967296
def im (u y c:Nat):Nat:=if u<y+c then 1 else 0
theorem pD {ys:List Nat} {k y c S T:Nat} (hk:k<ys.length) (hu:ys.getD k 0<4294967296) (hy:y<4294967296) (hc:c<=1) (h:au ys+T=S+4294967296^k*c):
  au (ys.set k (ig (ys.getD k 0) y c))+(T+4294967296^k*y)=S+4294967296^(k+1)*im (ys.getD k 0) y c:=by
 have h1:=iA ys k (ig (ys.getD k 0) y c) hk;generalize ys.getD k 0=u at*
 have h2:4294967296^k*ig u y c+4294967296^k*y+4294967296^k*c=4294967296^k*u+4294967296^(k+1)*im u y c:=by
  rw[aj5,aj7,<-aj6,<-aj6,<-aj6]
  congr 1
  unfold ig im;split<;>omega
 omega
theorem nQ (u y c:Nat):ig u y c<4294967296:=ak8 _ (by omega)
theorem sQ (u y c:Nat):im u y c<=1:=by unfold im;split<;>omega
theorem BO {ys:List Nat} {n k c S:Nat} (h:au ys+4294967296^k*c=S) (hS:S<4294967296^(n+1)) (hk:k<=n+1) (hc:c<=1):c=0∨k<=n:=by
 rcases ak9 n k with hlt|hge
 ·left
  obtain rfl:k=n+1:=by omega
  rcases al0 c with h0|h0
  ·exact h0
  ·obtain rfl:c=1:=by omega
   omega
 ·right;exact hge
theorem Hj {a b n:Nat} (ha:a<4294967296^n) (hb:b<4294967296^n):a+b<4294967296^(n+1):=by
 rw[aj5];omega
theorem pG {xs:List Nat} (h:Wf xs) (n:Nat) (hn:n<=xs.length):au (xs.take n)<4294967296^n:=by
 have:=dG _ (h.take n);rwa[ah7,ak5 hn]at this
theorem dp (n t:Nat):(ai4 n 0).getD t 0=0:=by
 by_cases h:t<n<;>simp[ah8,h]
theorem rD (xs:List Nat):au (xs.take (nl xs))=au xs:=by rw[<-cF,dC]
theorem jC {xs:List Nat} (h:Wf xs) (n:Nat) (hn:nl xs<=n):au xs<4294967296^n:=by
 have h1:=dG _ h.ve;rw[dC]at h1;have:(bE xs).length<=n:=hn;exact al1 h1 (ak2 (by omega) this)
end
section
def eM (n:Nat):Nat:=if n=0 then 0 else n.log2+1
theorem Eb {n k:Nat} (h1:2^k<=n) (h2:n<2^(k+1)):eM n=k+1:=by
 have h0:n≠0:=by have:=al2 k;omega
 unfold eM;rw[if_neg h0,(al3 h0).2 ⟨h1,h2⟩]
theorem qq {n:Nat} (h:n≠0):∃k,eM n=k+1/\ 2^k<=n/\ n<2^(k+1):=by
 refine⟨n.log2,?_,(al3 h).1 rfl⟩;unfold eM;rw[if_neg h]
theorem jG {n:Nat}:eM n=0↔n=0:=by
 unfold eM;split<;>simp_all
theorem og:∀(f x:Nat),x<2^f->Lib.bitLenAux f x=eM x
 |0,x,h=>by
  obtain rfl:x=0:=by simpa using h
  rfl
 |f+1,x,h=>by
  rw[Lib.bitLenAux];split
  ·rename_i h0;rw[h0];rfl
  ·rename_i h0;rw[og f (x/2) (by rw[aj5]at h;omega)];by_cases h2:x/2=0
   ·have:x=1:=by omega
    subst this;rfl
   ·obtain⟨k,e,a,b⟩:=qq h2;rw[e];have:=Eb (n:=x) (k:=k+1) (by rw[aj5];omega) (by rw[aj5];omega);omega
theorem sO (x:Nat) (h:x<4294967296):Lib.bitLen x=eM x:=
 og 64 x (by have:(4294967296:Nat)<2^64:=by decide
             omega)
theorem sP {n k:Nat} (h:n<2^k):eM n<=k:=by
 by_cases h0:n=0
 ·subst h0;simp[eM]
 ·obtain⟨j,e,a,b⟩:=qq h0;rw[e];have:=(Nat.pow_lt_pow_iff_right (a:=2) (by omega)).1 (Nat.lt_of_le_of_lt a h);omega
theorem zV {xs:List Nat} (h:Wf xs) (k:Nat) (hk:nl xs=k+1):eM (au xs)=32*k+eM (xs.getD k 0):=by
 have hlen:(bE xs).length=k+1:=hk
 have hsplit:bE xs=(bE xs).take k++[xs.getD k 0]:=by
  have:=cv (bE xs) k (by omega);rw[ai8 (by omega),ey xs k (by omega)]at this;exact this
 have hv:au xs=au ((bE xs).take k)+4294967296^k*xs.getD k 0:=by
  have h2:=congrArg au hsplit;rw[bW,ah7,ak5 (by omega),bu,di,dC]at h2;simpa using h2
 have hlow:au ((bE xs).take k)<4294967296^k:=by
  have:=dG _ (h.ve.take k);rwa[ah7,ak5 (by omega)]at this
 have hne:xs.getD k 0≠0:=by
  intro e;have h1:=eh k hk;rw[hv,e]at h1;omega
 obtain⟨j,e,a,b⟩:=qq hne;rw[e];have hp:(4294967296:Nat)^k=2^(32*k):=by rw[al4]
 rw[hp]at hv hlow
 have:=Eb (n:=au xs) (k:=32*k+j) (by
  rw[hv,al5];have:=aj9 (2^(32*k)) a;omega) (by
  rw[hv,show 32*k+j+1=32*k+(j+1)from by omega,al5];have:=aj9 (2^(32*k)) (show xs.getD k 0+1<=2^(j+1)from b);rw[aj6,al6]at this;omega)
 rw[this];omega
end
section
theorem eH (zs:List Nat) (i v t:Nat):(zs.set i v).getD t 0=if t=i/\ i<zs.length then v else zs.getD t 0:=by
 by_cases h:i<zs.length
 ·by_cases ht:t=i
  ·subst ht;simp[ah8,h]
  ·rw[if_neg (λe=>ht e.1)];simp[ah8,List.getElem?_set_ne (Ne.symm ht)]
 ·rw[if_neg (λe=>h e.2),List.set_eq_of_length_le (by omega)]
theorem ZY (x d:Nat) (hx:x<4294967296) (hd:d<32):x*2^d<18446744073709551616:=by
 have h1:2^d<=2^31:=ak2 (by omega) (by omega);have h2:x*2^d<=4294967295*2^31:=Nat.mul_le_mul (by omega) h1;omega
theorem tT (x d:Nat) (hd:d<32):x*2^d%4294967296=2^d*(x%2^(32-d)):=by
 have e:(4294967296:Nat)=2^d*2^(32-d):=by rw[<-al5,show d+(32-d)=32 from by omega]
 rw[e,aj8 x,Nat.mul_mod_mul_left]
theorem zW (x d z:Nat) (hd:d<32) (hz:z<2^d):z+x*2^d%4294967296<4294967296:=by
 rw[tT x d hd];have e:(4294967296:Nat)=2^d*2^(32-d):=by rw[<-al5,show d+(32-d)=32 from by omega]
 have h1:x%2^(32-d)+1<=2^(32-d):=ak8 _ (al2 _);have h2:=aj9 (2^d) h1;rw[aj6,al6]at h2;omega
theorem uL (x d:Nat):(x:Int)*2^d=((x*2^d:Nat):Int):=by simp
theorem Vx (z x d:Nat) (hx:x<4294967296) (hd:d<32) (hz:z<2^d):
  bits BinOp.or IntKind.u32 (z:Int) (ah5.wrap ((x:Int)*2^d)%4294967296)=((z+x*2^d%4294967296:Nat):Int):=by
 have h:=zW x d z hd hz;rw[uL,pN _ (ZY x d hx hd)];have e:((x*2^d:Nat):Int)%4294967296=((2^d*(x%2^(32-d)):Nat):Int):=by rw[<-tT x d hd];omega
 rw[tT x d hd]at h ⊢;rw[e,Vw z _ d hz (by omega),Nat.add_comm]
theorem Vy (x d:Nat) (hx:x<4294967296) (hd:d<32):
  ah5.wrap ((x:Int)*2^d)/4294967296%4294967296=((x*2^d/4294967296:Nat):Int):=by
 have:=ZY x d hx hd;rw[uL,pN _ this];omega
theorem zX (x d:Nat) (hx:x<4294967296):x*2^d/4294967296<2^d:=by
 have h:0<2^d:=al2 d;rw[al7 (by omega),aj8];exact Nat.mul_lt_mul_of_pos_left hx h
theorem OD {zs:List Nat} {j x d:Nat} (hj:j+1<zs.length) (h0:zs.getD (j+1) 0=0):
  au ((zs.set j (zs.getD j 0+x*2^d%4294967296)).set (j+1) (x*2^d/4294967296))=au zs+4294967296^j*(x*2^d):=by
 have h1:=iA zs j (zs.getD j 0+x*2^d%4294967296) (by omega);have h2:=iA (zs.set j (zs.getD j 0+x*2^d%4294967296)) (j+1) (x*2^d/4294967296) (by simpa using hj);rw[eH,if_neg (by omega),h0,ak6,ak7]at h2;rw[h2];rw[aj6]at h1
 have h3:4294967296^j*(x*2^d)=4294967296^j*(x*2^d%4294967296)+4294967296^(j+1)*(x*2^d/4294967296):=by
  rw[aj5,aj7,<-aj6,al8]
 omega
theorem zY (s:Nat):4294967296^(s/32)*2^(s%32)=2^s:=by
 have e:(4294967296:Nat)=2^32:=by decide
 rw[e,<-al4,<-al5,Nat.div_add_mod]
theorem BP (a k V x d zv:Nat) (h:zv=4294967296^a*V*2^d):zv+4294967296^(a+k)*(x*2^d)=4294967296^a*(V+4294967296^k*x)*2^d:=by
 rw[h,al5,aj6,Nat.add_mul]
 congr 1
 simp only[aj7]
end
section
theorem gw (zs:List Nat) (i:Nat) (h:i<zs.length):au (zs.drop i)=zs.getD i 0+4294967296*au (zs.drop (i+1)):=by
 rw[aj0 h,bu];simp[ah8,h]
theorem nR (xs:List Nat) (hw:Wf xs) (k:Nat):au (xs.drop k)=au xs/4294967296^k:=by
 by_cases hk:k<=xs.length
 ·have h:=bW (xs.take k) (xs.drop k);rw[aj1,ah7,ak5 hk]at h;have hl:=pG hw k hk;rw[h,al9 _ _ (am0 (by omega)),am1 hl,am2]
 ·rw[aj2 (by omega),di];have:=dG xs hw;have h2:4294967296^xs.length<=4294967296^k:=ak2 (by omega) (by omega);exact(am1 (by omega)).symm
def OE (up d s:Nat):Nat:=(up*4294967296+d)/2^s%4294967296
theorem OG (V W up d s:Nat) (hs:s<32) (hd:d<4294967296) (hV:V=up+4294967296*W):(d+4294967296*V)/2^s=OE up d s+4294967296*(V/2^s):=by
 have hp:0<2^s:=al2 s;have e:(4294967296:Nat)=2^s*2^(32-s):=by rw[<-al5,show s+(32-s)=32 from by omega]
 have hR:V%2^s=up%2^s:=by
  rw[hV,e,aj7,am3]
 have hRl:up%2^s<2^s:=ak8 _ hp
 have h1:d+4294967296*V=(d+4294967296*(up%2^s))+2^s*(4294967296*(V/2^s)):=by
  have h:=al8 V (2^s);rw[hR]at h;have h3:4294967296*V=4294967296*(up%2^s)+4294967296*(2^s*(V/2^s)):=by rw[<-aj6,h]
  rw[h3,am4 (2^s)];omega
 have h2:up*4294967296+d=(d+4294967296*(up%2^s))+2^s*(4294967296*(up/2^s)):=by
  have h:=al8 up (2^s);have h3:4294967296*up=4294967296*(up%2^s)+4294967296*(2^s*(up/2^s)):=by rw[<-aj6,h]
  rw[aj8 up,h3,am4 (2^s)];omega
 have hlt:(d+4294967296*(up%2^s))/2^s<4294967296:=by
  rw[al7 hp];have:=aj9 4294967296 (show up%2^s+1<=2^s from hRl);omega
 unfold OE;rw[h1,h2,al9 _ _ hp,al9 _ _ hp,am3,Nat.mod_eq_of_lt hlt]
theorem OH (up x d:Nat) (hu:up<4294967296) (hx:x<4294967296):
  bits BinOp.or ah5 ((up:Int)*4294967296) (x:Int)/2^d%4294967296=((OE up x d:Nat):Int):=by
 have e:(up:Int)*4294967296=((2^32*up:Nat):Int):=by omega
 rw[e,IV x up 32 (by omega) (by omega)];unfold OE;rw[show 2^32*up+x=up*4294967296+x from by omega];simp
theorem R5 (up d s:Nat):OE up d s<4294967296:=ak8 _ (by omega)
theorem I2 (n s:Nat):n/4294967296^(s/32)/2^(s%32)=n/2^s:=by
 rw[Nat.div_div_eq_div_mul,zY]
theorem I3 (xs:List Nat) (hw:Wf xs) (k:Nat):au ((bE xs).drop k)=au xs/4294967296^k:=by
 rw[nR _ hw.ve,dC]
end
end Go.Proofs.YtmenbpmciblnlaaGreatDoor
namespace Go.Proofs.YtmenbpmciblnlaaGreatDoor.Dg
def au:List Nat->Nat
 |[]=>0
 |x::xs=>x+10*au xs
def Wf (xs:List Nat):Prop:=∀x∈xs,x<10
theorem Wf.cons {x:Nat} {xs:List Nat} (h:Wf (x::xs)):x<10/\ Wf xs:=
 ⟨h x ah9,λy hy=>h y (ai0 _ hy)⟩
theorem di:au []=0:=rfl
theorem bu (x:Nat) (xs:List Nat):au (x::xs)=x+10*au xs:=rfl
theorem dC (xs:List Nat):au (bE xs)=au xs:=by
 induction xs with
 |nil=>rfl
 |cons x xs ih=>
  unfold bE;split
  ·rename_i h;rw[bu,<-ih,h.2,h.1];rfl
  ·rw[bu,bu,ih]
theorem iM {xs:List Nat}:bE xs=[]↔au xs=0:=by
 induction xs with
 |nil=>simp[bE,au]
 |cons x xs ih=>
  simp only[bE,au];split
  ·rename_i h;have:=ih.1 h.2;simp;omega
  ·rename_i h;simp only[reduceCtorEq,false_iff];intro h0;exact h ⟨by omega,ih.2 (by omega)⟩
theorem Wf.ve {xs:List Nat} (h:Wf xs):Wf (bE xs):=λy hy=>h y (ai1 (by rw[<-cF];exact hy))
theorem Wf.take {xs:List Nat} (h:Wf xs) (k:Nat):Wf (xs.take k):=λy hy=>h y (ai1 hy)
def gZ:Nat->Nat->List Nat
 |0,_=>[]
 |f+1,n=>if n=0 then[]else n%10::gZ f (n/10)
def aq (n:Nat):List Nat:=gZ n n
theorem pF (f:Nat):∀g n,n<=f->n<=g->gZ f n=gZ g n:=by
 induction f with
 |zero=>
  intro g n h1 _;obtain rfl:n=0:=by omega
  cases g<;>simp[gZ]
 |succ f ih=>
  intro g n h1 h2;cases g with
  |zero=>obtain rfl:n=0:=by omega
         simp[gZ]
  |succ g=>
   simp only[gZ];split
   ·rfl
   ·rw[ih g _ (by omega) (by omega)]
theorem fE:aq 0=[]:=rfl
theorem fj {n:Nat} (h:0<n):aq n=n%10::aq (n/10):=by
 unfold aq;obtain⟨m,rfl⟩:∃m,n=m+1:=⟨n-1,by omega⟩;rw[gZ,if_neg (by omega),pF m ((m+1)/10) _ (by omega) (aj3 _)]
theorem cq (xs:List Nat) (h:Wf xs):bE xs=aq (au xs):=by
 induction xs with
 |nil=>rfl
 |cons x xs ih=>
  obtain⟨hx,hxs⟩:=h.cons;unfold bE;split
  ·rename_i h;have h0:au xs=0:=iM.1 h.2;rw[bu,h.1,h0];rfl
  ·rename_i h
   have Ce:0<au (x::xs):=by
    rw[bu];by_cases hx0:x=0
    ·have:au xs≠0:=λe=>h ⟨hx0,iM.2 e⟩
     omega
    ·omega
   rw[fj Ce,bu,ih hxs]
   congr 1
   ·omega
   ·congr 1;omega
theorem av (n:Nat):au (aq n)=n:=by
 induction n using aj4 with
 | _ n ih=>
  by_cases h:0<n
  ·rw[fj h,bu,ih _ (by omega)];omega
  ·obtain rfl:n=0:=by omega
   rfl
theorem dv (n:Nat):Wf (aq n):=by
 induction n using aj4 with
 | _ n ih=>
  by_cases h:0<n
  ·rw[fj h];intro x hx;rcases ai2.1 hx with rfl|hx
   ·omega
   ·exact ih _ (by omega) x hx
  ·obtain rfl:n=0:=by omega
   intro x hx;cases hx
theorem jH (n:Nat):bE (aq n)=aq n:=by
 rw[cq _ (dv n),av]
theorem eI (n:Nat):nl (aq n)=(aq n).length:=by unfold nl;rw[jH]
theorem Tl (xs:List Nat) (h:Wf xs):nl xs=(aq (au xs)).length:=by unfold nl;rw[cq _ h]
theorem bW (xs ys:List Nat):au (xs++ys)=au xs+10^xs.length*au ys:=by
 induction xs with
 |nil=>simp[au]
 |cons x xs ih=>
  rw[ai3,bu,bu,ih,ah6,aj5,aj6,<-aj7,aj8 10 (10^_)];omega
theorem dG (xs:List Nat) (h:Wf xs):au xs<10^xs.length:=by
 induction xs with
 |nil=>simp[au]
 |cons x xs ih=>
  obtain⟨hx,hxs⟩:=h.cons;have:=ih hxs;rw[bu,ah6,aj5];have h2:10*(au xs+1)<=10*10^xs.length:=aj9 _ this;rw[aj8 (10^xs.length)];omega
theorem fG (k:Nat):au (ai4 k 0)=0:=by
 induction k with
 |zero=>rfl
 |succ k ih=>rw[ai5,bu,ih]
theorem tS:∀(X Y:List Nat) (j:Nat),X.length=Y.length->j<X.length->Wf X->Wf Y->(∀i,j<i->i<X.length->X.getD i 0=Y.getD i 0)->X.getD j 0<Y.getD j 0->au X<au Y:=by
 intro X;induction X with
 |nil=>intro Y j _ hj;simp at hj
 |cons x X ih=>
  intro Y j hl hj hX hY heq hlt;cases Y with
  |nil=>simp at hl
  |cons y Y=>
   obtain⟨hx,hX'⟩:=hX.cons;obtain⟨hy,hY'⟩:=hY.cons;have hl':X.length=Y.length:=by simpa using hl
   rw[bu,bu];cases j with
   |zero=>
    have e:X=Y:=by
     apply ai6 hl';intro i h1 h2;have:=heq (i+1) (by omega) (by simp;omega);simpa[ah8,h1,h2]using this
    have:x<y:=by simpa[ah8]using hlt
    rw[e];omega
   |succ j=>
    have:=ih Y j hl' (by simpa using hj) hX' hY' (λi h1 h2=>by
     have:=heq (i+1) (by omega) (by simp;omega);simpa[ah8]using this) (by simpa[ah8]using hlt)
    omega
theorem eh {xs:List Nat} (k:Nat) (h:nl xs=k+1):10^k<=au xs:=by
 induction xs generalizing k with
 |nil=>simp[nl,bE]at h
 |cons x xs ih=>
  rw[bu];unfold nl bE at h;split at h
  ·simp at h
  ·rename_i hn;simp only[ah6,ak0]at h;cases k with
   |zero=>
    have h0:bE xs=[]:=ai7 h;have:x≠0:=λe=>hn ⟨e,h0⟩
    simp only[ak1];omega
   |succ k=>
    have:=ih k h;rw[aj5];omega
theorem fC {xs ys:List Nat} (hx:Wf xs) (h:nl xs<nl ys):au xs<au ys:=by
 have h1:au xs<10^(nl xs):=by rw[<-dC xs];exact dG _ hx.ve
 obtain⟨k,hk⟩:∃k,nl ys=k+1:=⟨nl ys-1,by omega⟩;have h2:=eh k hk;have h3:10^(nl xs)<=10^k:=ak2 (by omega) (by omega);omega
theorem xA {xs ys:List Nat} (hx:Wf xs) (hy:Wf ys) (h:nl xs≠nl ys):eT (au xs) (au ys)=if nl ys<nl xs then 1 else-1:=by
 unfold eT;by_cases h1:nl ys<nl xs
 ·have:=fC hy h1;rw[if_pos h1,if_neg (by omega),if_neg (by omega)]
 ·have:=fC hx (show nl xs<nl ys by omega);rw[if_neg h1,if_pos this]
theorem GR {xs ys:List Nat} (hx:Wf xs) (hy:Wf ys) (n j:Nat) (h1:nl xs=n) (h2:nl ys=n) (hj:j<n) (heq:∀i,j<i->i<n->xs.getD i 0=ys.getD i 0) (hne:xs.getD j 0≠ys.getD j 0):
  eT (au xs) (au ys)=if ys.getD j 0<xs.getD j 0 then 1 else-1:=by
 have key:∀(a b:List Nat),Wf a->Wf b->nl a=n->nl b=n->(∀i,j<i->i<n->a.getD i 0=b.getD i 0)->a.getD j 0<b.getD j 0->au a<au b:=by
  intro a b ha hb na nb he hl;rw[<-dC a,<-dC b];have la:(bE a).length=n:=na;have lb:(bE b).length=n:=nb;refine tS _ _ j (by omega) (by omega) ha.ve hb.ve (λi h3 h4=>?_) ?_
  ·rw[ey a i (by omega),ey b i (by omega)];exact he i h3 (by omega)
  ·rw[ey a j (by omega),ey b j (by omega)];exact hl
 unfold eT;by_cases hlt:ys.getD j 0<xs.getD j 0
 ·have:=key ys xs hy hx h2 h1 (λi h3 h4=>(heq i h3 h4).symm) hlt;rw[if_pos hlt,if_neg (by omega),if_neg (by omega)]
 ·have:=key xs ys hx hy h1 h2 heq (by omega);rw[if_neg hlt,if_pos this]
theorem xB {xs ys:List Nat} (n:Nat) (h1:nl xs=n) (h2:nl ys=n) (heq:∀i,i<n->xs.getD i 0=ys.getD i 0):eT (au xs) (au ys)=0:=by
 have:bE xs=bE ys:=by
  have la:(bE xs).length=n:=h1;have lb:(bE ys).length=n:=h2;apply ai6 (by omega);intro i h3 h4;have:=heq i (by omega);rw[<-ey xs i (by omega),<-ey ys i (by omega)]at this;simpa[ah8,h3,h4]using this
 unfold eT;rw[<-dC xs,<-dC ys,this,if_neg (by omega),if_pos rfl]
theorem iA:∀(ys:List Nat) (k v:Nat),k<ys.length->au (ys.set k v)+10^k*ys.getD k 0=au ys+10^k*v
 |[],k,v,h=>by simp at h
 |y::ys,0,v,_=>by simp[au,ah8];omega
 |y::ys,k+1,v,h=>by
  have ih:=iA ys k v (by simpa using h);have e:(y::ys).getD (k+1) 0=ys.getD k 0:=by simp[ah8]
  rw[e,ai9,bu,bu,aj5,aj8 (10^k) 10,aj7,aj7];omega
theorem bC (ys:List Nat) (k:Nat) (h:k<ys.length):au (ys.take (k+1))=au (ys.take k)+10^k*ys.getD k 0:=by
 rw[cv ys k h,bW,ah7,ak5 (by omega),bu,di,ak6,ak7]
theorem jM {ys:List Nat} {k y c S T:Nat} (hk:k<ys.length) (h:au ys+10^k*c=S+T):
  au (ys.set k ((ys.getD k 0+y+c)%10))+10^(k+1)*((ys.getD k 0+y+c)/10)=S+(T+10^k*y):=by
 have h1:=iA ys k ((ys.getD k 0+y+c)%10) hk;generalize ys.getD k 0=u at*
 have h2:10^k*((u+y+c)%10)+10^(k+1)*((u+y+c)/10)=10^k*u+10^k*y+10^k*c:=by
  rw[aj5,aj7,<-aj6,<-aj6,<-aj6]
  congr 1
  omega
 omega
def ig (u y c:Nat):Nat:=(u+10-y-c)%10
def im (u y c:Nat):Nat:=if u<y+c then 1 else 0
theorem pD {ys:List Nat} {k y c S T:Nat} (hk:k<ys.length) (hu:ys.getD k 0<10) (hy:y<10) (hc:c<=1) (h:au ys+T=S+10^k*c):
  au (ys.set k (ig (ys.getD k 0) y c))+(T+10^k*y)=S+10^(k+1)*im (ys.getD k 0) y c:=by
 have h1:=iA ys k (ig (ys.getD k 0) y c) hk;generalize ys.getD k 0=u at*
 have h2:10^k*ig u y c+10^k*y+10^k*c=10^k*u+10^(k+1)*im u y c:=by
  rw[aj5,aj7,<-aj6,<-aj6,<-aj6]
  congr 1
  unfold ig im;split<;>omega
 omega
theorem nQ (u y c:Nat):ig u y c<10:=ak8 _ (by omega)
theorem sQ (u y c:Nat):im u y c<=1:=by unfold im;split<;>omega
theorem BO {ys:List Nat} {n k c S:Nat} (h:au ys+10^k*c=S) (hS:S<10^(n+1)) (hk:k<=n+1) (hc:c<=1):c=0∨k<=n:=by
 rcases ak9 n k with hlt|hge
 ·left
  obtain rfl:k=n+1:=by omega
  rcases al0 c with h0|h0
  ·exact h0
  ·obtain rfl:c=1:=by omega
   omega
 ·right;exact hge
theorem Hj {a b n:Nat} (ha:a<10^n) (hb:b<10^n):a+b<10^(n+1):=by
 rw[aj5];omega
theorem pG {xs:List Nat} (h:Wf xs) (n:Nat) (hn:n<=xs.length):au (xs.take n)<10^n:=by
 have:=dG _ (h.take n);rwa[ah7,ak5 hn]at this
theorem rD (xs:List Nat):au (xs.take (nl xs))=au xs:=by rw[<-cF,dC]
theorem jC {xs:List Nat} (h:Wf xs) (n:Nat) (hn:nl xs<=n):au xs<10^n:=by
 have h1:=dG _ h.ve;rw[dC]at h1;have:(bE xs).length<=n:=hn;exact al1 h1 (ak2 (by omega) this)
theorem gw (zs:List Nat) (i:Nat) (h:i<zs.length):au (zs.drop i)=zs.getD i 0+10*au (zs.drop (i+1)):=by
 rw[aj0 h,bu];simp[ah8,h]
theorem nR (xs:List Nat) (hw:Wf xs) (k:Nat):au (xs.drop k)=au xs/10^k:=by
 by_cases hk:k<=xs.length
 ·have h:=bW (xs.take k) (xs.drop k);rw[aj1,ah7,ak5 hk]at h;have hl:=pG hw k hk;rw[h,al9 _ _ (am0 (by omega)),am1 hl,am2]
 ·rw[aj2 (by omega),di];have:=dG xs hw;have h2:10^xs.length<=10^k:=ak2 (by omega) (by omega);exact(am1 (by omega)).symm
theorem I3 (xs:List Nat) (hw:Wf xs) (k:Nat):au ((bE xs).drop k)=au xs/10^k:=by
 rw[nR _ hw.ve,dC]
end Go.Proofs.YtmenbpmciblnlaaGreatDoor.Dg

/- Plain, BitOps, Wraps, AddPlain, BitsPlain, ShlPlain, ShrPlain, DigPlain -/
import Derived.WalkKit
import Derived.Lib.Hide
import Derived.IntWalk
import Derived.Lib.BitFns
set_option maxHeartbeats 40000000
set_option maxRecDepth 100000
/- Plain facts on lists of limbs and numbers (no program): value, canonical form, the canonical limbs of a number. -/
namespace Go.Proofs.YtmenbpmciblnlaaGreatDoor
def val:List Nat->Nat
 |[]=>0
 |x::xs=>x+4294967296*val xs
def bG:List Nat->List Nat
 |[]=>[]
 |x::xs=>if x=0/\ bG xs=[]then[]else x::bG xs
def nl (xs:List Nat):Nat:=(bG xs).length
theorem Vj:nl []=0:=rfl
theorem mV (xs:List Nat):bG (xs++[0])=bG xs:=by
 induction xs with
 |nil=>simp[bG]
 |cons x xs ih=>simp[bG,ih]
theorem sO (xs:List Nat) {x:Nat} (h:x≠0):bG (xs++[x])=xs++[x]:=by
 induction xs with
 |nil=>simp[bG,h]
 |cons y xs ih=>simp[bG,ih]
theorem cK (xs:List Nat):bG xs=xs.take (nl xs):=by
 unfold nl;induction xs with
 |nil=>rfl
 |cons x xs ih=>
  unfold bG;split
  ·rfl
  ·simp only[List.length_cons,List.take_succ_cons];rw[<-ih]
theorem iF (xs:List Nat):nl xs<=xs.length:=by
 have h:=congrArg List.length (cK xs);rw[List.length_take]at h;unfold nl at*
 omega
theorem bZ (xs:List Nat) (k:Nat) (h:k<xs.length):xs.take (k+1)=xs.take k++[xs.getD k 0]:=by
 rw[List.take_succ_eq_append_getElem h];simp[List.getD,h]
theorem kV (xs:List Nat) (k:Nat) (h:k<xs.length) (h0:xs.getD k 0=0):nl (xs.take (k+1))=nl (xs.take k):=by
 unfold nl;rw[bZ xs k h,h0,mV]
theorem wJ (xs:List Nat) (k:Nat) (h:k<xs.length) (h0:xs.getD k 0≠0):nl (xs.take (k+1))=k+1:=by
 unfold nl;rw[bZ xs k h,sO _ h0];simp;omega
def Wf (xs:List Nat):Prop:=∀x∈xs,x<4294967296
theorem Wf.cons {x:Nat} {xs:List Nat} (h:Wf (x::xs)):x<4294967296/\ Wf xs:=
 ⟨h x List.mem_cons_self,fun y hy=>h y (List.mem_cons_of_mem _ hy)⟩
theorem dQ:val []=0:=rfl
theorem bq (x:Nat) (xs:List Nat):val (x::xs)=x+4294967296*val xs:=rfl
theorem dZ (xs:List Nat):val (bG xs)=val xs:=by
 induction xs with
 |nil=>rfl
 |cons x xs ih=>
  unfold bG;split
  ·rename_i h;rw[bq,<-ih,h.2,h.1];rfl
  ·rw[bq,bq,ih]
theorem jJ {xs:List Nat}:bG xs=[]↔val xs=0:=by
 induction xs with
 |nil=>simp[bG,val]
 |cons x xs ih=>
  simp only[bG,val];split
  ·rename_i h;have:=ih.1 h.2;simp;omega
  ·rename_i h;simp only[reduceCtorEq,false_iff];intro h0;exact h ⟨by omega,ih.2 (by omega)⟩
theorem Wf.trim {xs:List Nat} (h:Wf xs):Wf (bG xs):=fun y hy=>h y (List.mem_of_mem_take (by rw[<-cK];exact hy))
theorem Wf.take {xs:List Nat} (h:Wf xs) (k:Nat):Wf (xs.take k):=fun y hy=>h y (List.mem_of_mem_take hy)
def ja:Nat->Nat->List Nat
 |0,_=>[]
 |f+1,n=>if n=0 then[]else n%4294967296::ja f (n/4294967296)
def limbs (n:Nat):List Nat:=ja n n
theorem qN (f:Nat):∀g n,n<=f->n<=g->ja f n=ja g n:=by
 induction f with
 |zero=>
  intro g n h1 _;obtain rfl:n=0:=by omega
  cases g<;>simp[ja]
 |succ f ih=>
  intro g n h1 h2;cases g with
  |zero=>obtain rfl:n=0:=by omega
         simp[ja]
  |succ g=>
   simp only[ja];split
   ·rfl
   ·rw[ih g _ (by omega) (by omega)]
theorem gT:limbs 0=[]:=rfl
theorem gF {n:Nat} (h:0<n):limbs n=n%4294967296::limbs (n/4294967296):=by
 unfold limbs;obtain⟨m,rfl⟩:∃m,n=m+1:=⟨n-1,by omega⟩;rw[ja,if_neg (by omega),qN m ((m+1)/4294967296) _ (by omega) (Nat.le_refl _)]
theorem bX (xs:List Nat) (h:Wf xs):bG xs=limbs (val xs):=by
 induction xs with
 |nil=>rfl
 |cons x xs ih=>
  obtain⟨hx,hxs⟩:=h.cons;unfold bG;split
  ·rename_i h;have h0:val xs=0:=jJ.1 h.2;rw[bq,h.1,h0];rfl
  ·rename_i h
   have hpos:0<val (x::xs):=by
    rw[bq];by_cases hx0:x=0
    ·have:val xs≠0:=fun e=>h ⟨hx0,jJ.2 e⟩
     omega
    ·omega
   rw[gF hpos,bq,ih hxs]
   congr 1
   ·omega
   ·congr 1;omega
theorem au (n:Nat):val (limbs n)=n:=by
 induction n using Nat.strongRecOn with
 | _ n ih=>
  by_cases h:0<n
  ·rw[gF h,bq,ih _ (by omega)];omega
  ·obtain rfl:n=0:=by omega
   rfl
theorem dR (n:Nat):Wf (limbs n):=by
 induction n using Nat.strongRecOn with
 | _ n ih=>
  by_cases h:0<n
  ·rw[gF h];intro x hx;rcases List.mem_cons.1 hx with rfl|hx
   ·omega
   ·exact ih _ (by omega) x hx
  ·obtain rfl:n=0:=by omega
   intro x hx;cases hx
theorem kF (n:Nat):bG (limbs n)=limbs n:=by
 rw[bX _ (dR n),au]
theorem fH (n:Nat):nl (limbs n)=(limbs n).length:=by unfold nl;rw[kF]
theorem Tw (xs:List Nat) (h:Wf xs):nl xs=(limbs (val xs)).length:=by unfold nl;rw[bX _ h]
theorem val_append (xs ys:List Nat):val (xs++ys)=val xs+4294967296^xs.length*val ys:=by
 induction xs with
 |nil=>simp[val]
 |cons x xs ih=>
  rw[List.cons_append,bq,bq,ih,List.length_cons,Nat.pow_succ,Nat.mul_add,<-Nat.mul_assoc,Nat.mul_comm 4294967296 (4294967296^_)];omega
theorem eu (xs:List Nat) (h:Wf xs):val xs<4294967296^xs.length:=by
 induction xs with
 |nil=>simp[val]
 |cons x xs ih=>
  obtain⟨hx,hxs⟩:=h.cons;have:=ih hxs;rw[bq,List.length_cons,Nat.pow_succ];have h2:4294967296*(val xs+1)<=4294967296*4294967296^xs.length:=Nat.mul_le_mul_left _ this;rw[Nat.mul_comm (4294967296^xs.length)];omega
theorem gU (k:Nat):val (List.replicate k 0)=0:=by
 induction k with
 |zero=>rfl
 |succ k ih=>rw[List.replicate_succ,bq,ih]
theorem wu:∀(X Y:List Nat) (j:Nat),X.length=Y.length->j<X.length->Wf X->Wf Y->(∀i,j<i->i<X.length->X.getD i 0=Y.getD i 0)->X.getD j 0<Y.getD j 0->val X<val Y:=by
 intro X;induction X with
 |nil=>intro Y j _ hj;simp at hj
 |cons x X ih=>
  intro Y j hl hj hX hY heq hlt;cases Y with
  |nil=>simp at hl
  |cons y Y=>
   obtain⟨hx,hX'⟩:=hX.cons;obtain⟨hy,hY'⟩:=hY.cons;have hl':X.length=Y.length:=by simpa using hl
   rw[bq,bq];cases j with
   |zero=>
    have e:X=Y:=by
     apply List.ext_getElem hl';intro i h1 h2;have:=heq (i+1) (by omega) (by simp;omega);simpa[List.getD,h1,h2]using this
    have:x<y:=by simpa[List.getD]using hlt
    rw[e];omega
   |succ j=>
    have:=ih Y j hl' (by simpa using hj) hX' hY' (fun i h1 h2=>by
     have:=heq (i+1) (by omega) (by simp;omega);simpa[List.getD]using this) (by simpa[List.getD]using hlt)
    omega
def fP (a b:Nat):Int:=if a<b then-1 else if a=b then 0 else 1
theorem fu {xs:List Nat} (k:Nat) (h:nl xs=k+1):4294967296^k<=val xs:=by
 induction xs generalizing k with
 |nil=>simp[nl,bG]at h
 |cons x xs ih=>
  rw[bq];unfold nl bG at h;split at h
  ·simp at h
  ·rename_i hn;simp only[List.length_cons,Nat.add_right_cancel_iff]at h;cases k with
   |zero=>
    have h0:bG xs=[]:=List.eq_nil_of_length_eq_zero h;have:x≠0:=fun e=>hn ⟨e,h0⟩
    simp only[Nat.pow_zero];omega
   |succ k=>
    have:=ih k h;rw[Nat.pow_succ];omega
theorem gK {xs ys:List Nat} (hx:Wf xs) (h:nl xs<nl ys):val xs<val ys:=by
 have h1:val xs<4294967296^(nl xs):=by rw[<-dZ xs];exact eu _ hx.trim
 obtain⟨k,hk⟩:∃k,nl ys=k+1:=⟨nl ys-1,by omega⟩;have h2:=fu k hk;have h3:4294967296^(nl xs)<=4294967296^k:=Nat.pow_le_pow_right (by omega) (by omega);omega
theorem fA (xs:List Nat) (i:Nat) (h:i<nl xs):(bG xs).getD i 0=xs.getD i 0:=by
 rw[cK];simp[List.getD,h]
theorem yK {xs ys:List Nat} (hx:Wf xs) (hy:Wf ys) (h:nl xs≠nl ys):fP (val xs) (val ys)=if nl ys<nl xs then 1 else-1:=by
 unfold fP;by_cases h1:nl ys<nl xs
 ·have:=gK hy h1;rw[if_pos h1,if_neg (by omega),if_neg (by omega)]
 ·have:=gK hx (show nl xs<nl ys by omega);rw[if_neg h1,if_pos this]
theorem Gw {xs ys:List Nat} (hx:Wf xs) (hy:Wf ys) (n j:Nat) (h1:nl xs=n) (h2:nl ys=n) (hj:j<n) (heq:∀i,j<i->i<n->xs.getD i 0=ys.getD i 0) (hne:xs.getD j 0≠ys.getD j 0):
  fP (val xs) (val ys)=if ys.getD j 0<xs.getD j 0 then 1 else-1:=by
 have key:∀(a b:List Nat),Wf a->Wf b->nl a=n->nl b=n->(∀i,j<i->i<n->a.getD i 0=b.getD i 0)->a.getD j 0<b.getD j 0->val a<val b:=by
  intro a b ha hb na nb he hl;rw[<-dZ a,<-dZ b];have la:(bG a).length=n:=na;have lb:(bG b).length=n:=nb;refine wu _ _ j (by omega) (by omega) ha.trim hb.trim (fun i h3 h4=>?_) ?_
  ·rw[fA a i (by omega),fA b i (by omega)];exact he i h3 (by omega)
  ·rw[fA a j (by omega),fA b j (by omega)];exact hl
 unfold fP;by_cases hlt:ys.getD j 0<xs.getD j 0
 ·have:=key ys xs hy hx h2 h1 (fun i h3 h4=>(heq i h3 h4).symm) hlt;rw[if_pos hlt,if_neg (by omega),if_neg (by omega)]
 ·have:=key xs ys hx hy h1 h2 heq (by omega);rw[if_neg hlt,if_pos this]
theorem yL {xs ys:List Nat} (n:Nat) (h1:nl xs=n) (h2:nl ys=n) (heq:∀i,i<n->xs.getD i 0=ys.getD i 0):fP (val xs) (val ys)=0:=by
 have:bG xs=bG ys:=by
  have la:(bG xs).length=n:=h1;have lb:(bG ys).length=n:=h2;apply List.ext_getElem (by omega);intro i h3 h4;have:=heq i (by omega);rw[<-fA xs i (by omega),<-fA ys i (by omega)]at this;simpa[List.getD,h3,h4]using this
 unfold fP;rw[<-dZ xs,<-dZ ys,this,if_neg (by omega),if_pos rfl]
theorem dh (xs:List Nat) (n:Nat) (h:xs.length=n):xs.take n=xs:=by
 rw[List.take_of_length_le (by omega)]
theorem jU {xs:List Nat} (h:nl xs=0):bG xs=[]:=List.eq_nil_of_length_eq_zero h
end Go.Proofs.YtmenbpmciblnlaaGreatDoor
/- Plain facts on the model's bit operations over natural numbers. -/
namespace Go.Proofs.YtmenbpmciblnlaaGreatDoor
theorem wrap_u64 (n:Nat) (h:n<18446744073709551616):IntKind.u64.wrap (n:Int)=(n:Int):=by
 simp only[IntKind.wrap,IntKind.bits,IntKind.signed];simp only[Bool.false_and,Bool.false_eq_true,if_false];have:(2:Int)^64=18446744073709551616:=by decide
 rw[this];omega
theorem Vk (a b k:Nat) (ha:a<2^k) (hb:2^k*b+a<18446744073709551616):bits .or .u64 (a:Int) ((2^k*b:Nat):Int)=((2^k*b+a:Nat):Int):=by
 rw[u64_or_nat a (2^k*b) (by omega) (by omega),Nat.or_comm,<-Nat.two_pow_add_eq_or_of_lt ha]
theorem Jh (a b k:Nat) (ha:a<2^k) (hb:2^k*b+a<18446744073709551616):bits .or .u64 ((2^k*b:Nat):Int) (a:Int)=((2^k*b+a:Nat):Int):=by
 rw[u64_or_nat (2^k*b) a (by omega) (by omega),<-Nat.two_pow_add_eq_or_of_lt ha]
theorem Vl (a b k:Nat) (ha:a<2^k) (hb:2^k*b+a<4294967296):bits .or .u32 (a:Int) ((2^k*b:Nat):Int)=((2^k*b+a:Nat):Int):=by
 rw[u32_or_nat a (2^k*b) (by omega) (by omega),Nat.or_comm,<-Nat.two_pow_add_eq_or_of_lt ha]
end Go.Proofs.YtmenbpmciblnlaaGreatDoor
/- Plain facts: a number within a kind is not wrapped. -/
namespace Go.Proofs.YtmenbpmciblnlaaGreatDoor
theorem wrap_i64 (n:Nat) (h:n<9223372036854775808):IntKind.i64.wrap (n:Int)=(n:Int):=
 IntWalk.i64_in _ (by omega)
end Go.Proofs.YtmenbpmciblnlaaGreatDoor
/- Plain facts on sums and differences limb by limb. -/
namespace Go.Proofs.YtmenbpmciblnlaaGreatDoor
theorem jB:∀(ys:List Nat) (k v:Nat),k<ys.length->val (ys.set k v)+4294967296^k*ys.getD k 0=val ys+4294967296^k*v
 |[],k,v,h=>by simp at h
 |y::ys,0,v,_=>by simp[val,List.getD];omega
 |y::ys,k+1,v,h=>by
  have ih:=jB ys k v (by simpa using h);have e:(y::ys).getD (k+1) 0=ys.getD k 0:=by simp[List.getD]
  rw[e,List.set_cons_succ,bq,bq,Nat.pow_succ,Nat.mul_comm (4294967296^k) 4294967296,Nat.mul_assoc,Nat.mul_assoc];omega
theorem bE (ys:List Nat) (k:Nat) (h:k<ys.length):val (ys.take (k+1))=val (ys.take k)+4294967296^k*ys.getD k 0:=by
 rw[bZ ys k h,val_append,List.length_take,Nat.min_eq_left (by omega),bq,dQ,Nat.mul_zero,Nat.add_zero]
theorem kI {ys:List Nat} {k y c S T:Nat} (hk:k<ys.length) (h:val ys+4294967296^k*c=S+T):
  val (ys.set k ((ys.getD k 0+y+c)%4294967296))+4294967296^(k+1)*((ys.getD k 0+y+c)/4294967296)=S+(T+4294967296^k*y):=by
 have h1:=jB ys k ((ys.getD k 0+y+c)%4294967296) hk;generalize ys.getD k 0=u at*
 have h2:4294967296^k*((u+y+c)%4294967296)+4294967296^(k+1)*((u+y+c)/4294967296)=4294967296^k*u+4294967296^k*y+4294967296^k*c:=by
  rw[Nat.pow_succ,Nat.mul_assoc,<-Nat.mul_add,<-Nat.mul_add,<-Nat.mul_add]
  congr 1
  omega
 omega
def jc (u y c:Nat):Nat:=(u+4294967296-y-c)%4294967296
def jm (u y c:Nat):Nat:=if u<y+c then 1 else 0
theorem qE {ys:List Nat} {k y c S T:Nat} (hk:k<ys.length) (hu:ys.getD k 0<4294967296) (hy:y<4294967296) (hc:c<=1) (h:val ys+T=S+4294967296^k*c):
  val (ys.set k (jc (ys.getD k 0) y c))+(T+4294967296^k*y)=S+4294967296^(k+1)*jm (ys.getD k 0) y c:=by
 have h1:=jB ys k (jc (ys.getD k 0) y c) hk;generalize ys.getD k 0=u at*
 have h2:4294967296^k*jc u y c+4294967296^k*y+4294967296^k*c=4294967296^k*u+4294967296^(k+1)*jm u y c:=by
  rw[Nat.pow_succ,Nat.mul_assoc,<-Nat.mul_add,<-Nat.mul_add,<-Nat.mul_add]
  congr 1
  unfold jc jm;split<;>omega
 omega
theorem pu (u y c:Nat):jc u y c<4294967296:=Nat.mod_lt _ (by omega)
theorem ve (u y c:Nat):jm u y c<=1:=by unfold jm;split<;>omega
theorem Df {ys:List Nat} {n k c S:Nat} (h:val ys+4294967296^k*c=S) (hS:S<4294967296^(n+1)) (hk:k<=n+1) (hc:c<=1):c=0∨k<=n:=by
 rcases Nat.lt_or_ge n k with hlt|hge
 ·left
  obtain rfl:k=n+1:=by omega
  rcases Nat.eq_zero_or_pos c with h0|h0
  ·exact h0
  ·obtain rfl:c=1:=by omega
   omega
 ·right;exact hge
theorem sum_lt {a b n:Nat} (ha:a<4294967296^n) (hb:b<4294967296^n):a+b<4294967296^(n+1):=by
 rw[Nat.pow_succ];omega
theorem qO {xs:List Nat} (h:Wf xs) (n:Nat) (hn:n<=xs.length):val (xs.take n)<4294967296^n:=by
 have:=eu _ (h.take n);rwa[List.length_take,Nat.min_eq_left hn]at this
theorem dN (n t:Nat):(List.replicate n 0).getD t 0=0:=by
 by_cases h:t<n<;>simp[List.getD,h]
theorem tO (xs:List Nat):val (xs.take (nl xs))=val xs:=by rw[<-cK,dZ]
theorem ko {xs:List Nat} (h:Wf xs) (n:Nat) (hn:nl xs<=n):val xs<4294967296^n:=by
 have h1:=eu _ h.trim;rw[dZ]at h1;have:(bG xs).length<=n:=hn;exact Nat.lt_of_lt_of_le h1 (Nat.pow_le_pow_right (by omega) this)
end Go.Proofs.YtmenbpmciblnlaaGreatDoor
/- Plain facts on how many bits a number has. -/
namespace Go.Proofs.YtmenbpmciblnlaaGreatDoor
def nbits (n:Nat):Nat:=if n=0 then 0 else n.log2+1
theorem Fw {n k:Nat} (h1:2^k<=n) (h2:n<2^(k+1)):nbits n=k+1:=by
 have h0:n≠0:=by have:=Nat.two_pow_pos k;omega
 unfold nbits;rw[if_neg h0,(Nat.log2_eq_iff h0).2 ⟨h1,h2⟩]
theorem rH {n:Nat} (h:n≠0):∃k,nbits n=k+1/\ 2^k<=n/\ n<2^(k+1):=by
 refine⟨n.log2,?_,(Nat.log2_eq_iff h).1 rfl⟩;unfold nbits;rw[if_neg h]
theorem kE {n:Nat}:nbits n=0↔n=0:=by
 unfold nbits;split<;>simp_all
theorem pM:∀(f x:Nat),x<2^f->Lib.bitLenAux f x=nbits x
 |0,x,h=>by
  obtain rfl:x=0:=by simpa using h
  rfl
 |f+1,x,h=>by
  rw[Lib.bitLenAux];split
  ·rename_i h0;rw[h0];rfl
  ·rename_i h0;rw[pM f (x/2) (by rw[Nat.pow_succ]at h;omega)];by_cases h2:x/2=0
   ·have:x=1:=by omega
    subst this;rfl
   ·obtain⟨k,e,a,b⟩:=rH h2;rw[e];have:=Fw (n:=x) (k:=k+1) (by rw[Nat.pow_succ];omega) (by rw[Nat.pow_succ];omega);omega
theorem u6 (x:Nat) (h:x<4294967296):Lib.bitLen x=nbits x:=
 pM 64 x (by have:(4294967296:Nat)<2^64:=by decide
             omega)
theorem u7 {n k:Nat} (h:n<2^k):nbits n<=k:=by
 by_cases h0:n=0
 ·subst h0;simp[nbits]
 ·obtain⟨j,e,a,b⟩:=rH h0;rw[e];have:=(Nat.pow_lt_pow_iff_right (a:=2) (by omega)).1 (Nat.lt_of_le_of_lt a h);omega
theorem BJ {xs:List Nat} (h:Wf xs) (k:Nat) (hk:nl xs=k+1):nbits (val xs)=32*k+nbits (xs.getD k 0):=by
 have hlen:(bG xs).length=k+1:=hk
 have hsplit:bG xs=(bG xs).take k++[xs.getD k 0]:=by
  have:=bZ (bG xs) k (by omega);rw[List.take_of_length_le (by omega),fA xs k (by omega)]at this;exact this
 have hv:val xs=val ((bG xs).take k)+4294967296^k*xs.getD k 0:=by
  have h2:=congrArg val hsplit;rw[val_append,List.length_take,Nat.min_eq_left (by omega),bq,dQ,dZ]at h2;simpa using h2
 have hlow:val ((bG xs).take k)<4294967296^k:=by
  have:=eu _ (h.trim.take k);rwa[List.length_take,Nat.min_eq_left (by omega)]at this
 have hne:xs.getD k 0≠0:=by
  intro e;have h1:=fu k hk;rw[hv,e]at h1;omega
 obtain⟨j,e,a,b⟩:=rH hne;rw[e];have hp:(4294967296:Nat)^k=2^(32*k):=by rw[Nat.pow_mul]
 rw[hp]at hv hlow
 have:=Fw (n:=val xs) (k:=32*k+j) (by
  rw[hv,Nat.pow_add];have:=Nat.mul_le_mul_left (2^(32*k)) a;omega) (by
  rw[hv,show 32*k+j+1=32*k+(j+1)from by omega,Nat.pow_add];have:=Nat.mul_le_mul_left (2^(32*k)) (show xs.getD k 0+1<=2^(j+1)from b);rw[Nat.mul_add,Nat.mul_one]at this;omega)
 rw[this];omega
end Go.Proofs.YtmenbpmciblnlaaGreatDoor
/- Plain facts on shifts limb by limb. -/
namespace Go.Proofs.YtmenbpmciblnlaaGreatDoor
theorem fI (zs:List Nat) (i v t:Nat):(zs.set i v).getD t 0=if t=i/\ i<zs.length then v else zs.getD t 0:=by
 by_cases h:i<zs.length
 ·by_cases ht:t=i
  ·subst ht;simp[List.getD,h]
  ·rw[if_neg (fun e=>ht e.1)];simp[List.getD,List.getElem?_set_ne (Ne.symm ht)]
 ·rw[if_neg (fun e=>h e.2),List.set_eq_of_length_le (by omega)]
theorem x_lt (x d:Nat) (hx:x<4294967296) (hd:d<32):x*2^d<18446744073709551616:=by
 have h1:2^d<=2^31:=Nat.pow_le_pow_right (by omega) (by omega);have h2:x*2^d<=4294967295*2^31:=Nat.mul_le_mul (by omega) h1;omega
theorem wz (x d:Nat) (hd:d<32):x*2^d%4294967296=2^d*(x%2^(32-d)):=by
 have e:(4294967296:Nat)=2^d*2^(32-d):=by rw[<-Nat.pow_add,show d+(32-d)=32 from by omega]
 rw[e,Nat.mul_comm x,Nat.mul_mod_mul_left]
theorem BK (x d z:Nat) (hd:d<32) (hz:z<2^d):z+x*2^d%4294967296<4294967296:=by
 rw[wz x d hd];have e:(4294967296:Nat)=2^d*2^(32-d):=by rw[<-Nat.pow_add,show d+(32-d)=32 from by omega]
 have h1:x%2^(32-d)+1<=2^(32-d):=Nat.mod_lt _ (Nat.two_pow_pos _);have h2:=Nat.mul_le_mul_left (2^d) h1;rw[Nat.mul_add,Nat.mul_one]at h2;omega
theorem xg (x d:Nat):(x:Int)*2^d=((x*2^d:Nat):Int):=by simp
theorem Vm (z x d:Nat) (hx:x<4294967296) (hd:d<32) (hz:z<2^d):
  bits BinOp.or IntKind.u32 (z:Int) (IntKind.u64.wrap ((x:Int)*2^d)%4294967296)=((z+x*2^d%4294967296:Nat):Int):=by
 have h:=BK x d z hd hz;rw[xg,wrap_u64 _ (x_lt x d hx hd)];have e:((x*2^d:Nat):Int)%4294967296=((2^d*(x%2^(32-d)):Nat):Int):=by rw[<-wz x d hd];omega
 rw[wz x d hd]at h ⊢;rw[e,Vl z _ d hz (by omega),Nat.add_comm]
theorem Vn (x d:Nat) (hx:x<4294967296) (hd:d<32):
  IntKind.u64.wrap ((x:Int)*2^d)/4294967296%4294967296=((x*2^d/4294967296:Nat):Int):=by
 have:=x_lt x d hx hd;rw[xg,wrap_u64 _ this];omega
theorem BL (x d:Nat) (hx:x<4294967296):x*2^d/4294967296<2^d:=by
 have h:0<2^d:=Nat.two_pow_pos d;rw[Nat.div_lt_iff_lt_mul (by omega),Nat.mul_comm];exact Nat.mul_lt_mul_of_pos_left hx h
theorem O5 {zs:List Nat} {j x d:Nat} (hj:j+1<zs.length) (h0:zs.getD (j+1) 0=0):
  val ((zs.set j (zs.getD j 0+x*2^d%4294967296)).set (j+1) (x*2^d/4294967296))=val zs+4294967296^j*(x*2^d):=by
 have h1:=jB zs j (zs.getD j 0+x*2^d%4294967296) (by omega);have h2:=jB (zs.set j (zs.getD j 0+x*2^d%4294967296)) (j+1) (x*2^d/4294967296) (by simpa using hj);rw[fI,if_neg (by omega),h0,Nat.mul_zero,Nat.add_zero]at h2;rw[h2];rw[Nat.mul_add]at h1
 have h3:4294967296^j*(x*2^d)=4294967296^j*(x*2^d%4294967296)+4294967296^(j+1)*(x*2^d/4294967296):=by
  rw[Nat.pow_succ,Nat.mul_assoc,<-Nat.mul_add,Nat.mod_add_div]
 omega
theorem BM (s:Nat):4294967296^(s/32)*2^(s%32)=2^s:=by
 have e:(4294967296:Nat)=2^32:=by decide
 rw[e,<-Nat.pow_mul,<-Nat.pow_add,Nat.div_add_mod]
theorem Dh (a k V x d zv:Nat) (h:zv=4294967296^a*V*2^d):zv+4294967296^(a+k)*(x*2^d)=4294967296^a*(V+4294967296^k*x)*2^d:=by
 rw[h,Nat.pow_add,Nat.mul_add,Nat.add_mul]
 congr 1
 simp only[Nat.mul_assoc]
end Go.Proofs.YtmenbpmciblnlaaGreatDoor
/- Plain facts on shifts to the right limb by limb. -/
namespace Go.Proofs.YtmenbpmciblnlaaGreatDoor
theorem iL (zs:List Nat) (i:Nat) (h:i<zs.length):val (zs.drop i)=zs.getD i 0+4294967296*val (zs.drop (i+1)):=by
 rw[List.drop_eq_getElem_cons h,bq];simp[List.getD,h]
theorem pz (xs:List Nat) (hw:Wf xs) (k:Nat):val (xs.drop k)=val xs/4294967296^k:=by
 by_cases hk:k<=xs.length
 ·have h:=val_append (xs.take k) (xs.drop k);rw[List.take_append_drop,List.length_take,Nat.min_eq_left hk]at h;have hl:=qO hw k hk;rw[h,Nat.add_mul_div_left _ _ (Nat.pow_pos (by omega)),Nat.div_eq_of_lt hl,Nat.zero_add]
 ·rw[List.drop_eq_nil_of_le (by omega),dQ];have:=eu xs hw;have h2:4294967296^xs.length<=4294967296^k:=Nat.pow_le_pow_right (by omega) (by omega);exact(Nat.div_eq_of_lt (by omega)).symm
def O6 (up d s:Nat):Nat:=(up*4294967296+d)/2^s%4294967296
theorem O7 (V W up d s:Nat) (hs:s<32) (hd:d<4294967296) (hV:V=up+4294967296*W):(d+4294967296*V)/2^s=O6 up d s+4294967296*(V/2^s):=by
 have hp:0<2^s:=Nat.two_pow_pos s;have e:(4294967296:Nat)=2^s*2^(32-s):=by rw[<-Nat.pow_add,show s+(32-s)=32 from by omega]
 have hR:V%2^s=up%2^s:=by
  rw[hV,e,Nat.mul_assoc,Nat.add_mul_mod_self_left]
 have hRl:up%2^s<2^s:=Nat.mod_lt _ hp
 have h1:d+4294967296*V=(d+4294967296*(up%2^s))+2^s*(4294967296*(V/2^s)):=by
  have h:=Nat.mod_add_div V (2^s);rw[hR]at h;have h3:4294967296*V=4294967296*(up%2^s)+4294967296*(2^s*(V/2^s)):=by rw[<-Nat.mul_add,h]
  rw[h3,Nat.mul_left_comm (2^s)];omega
 have h2:up*4294967296+d=(d+4294967296*(up%2^s))+2^s*(4294967296*(up/2^s)):=by
  have h:=Nat.mod_add_div up (2^s);have h3:4294967296*up=4294967296*(up%2^s)+4294967296*(2^s*(up/2^s)):=by rw[<-Nat.mul_add,h]
  rw[Nat.mul_comm up,h3,Nat.mul_left_comm (2^s)];omega
 have hlt:(d+4294967296*(up%2^s))/2^s<4294967296:=by
  rw[Nat.div_lt_iff_lt_mul hp];have:=Nat.mul_le_mul_left 4294967296 (show up%2^s+1<=2^s from hRl);omega
 unfold O6;rw[h1,h2,Nat.add_mul_div_left _ _ hp,Nat.add_mul_div_left _ _ hp,Nat.add_mul_mod_self_left,Nat.mod_eq_of_lt hlt]
theorem O8 (up x d:Nat) (hu:up<4294967296) (hx:x<4294967296):
  bits BinOp.or IntKind.u64 ((up:Int)*4294967296) (x:Int)/2^d%4294967296=((O6 up x d:Nat):Int):=by
 have e:(up:Int)*4294967296=((2^32*up:Nat):Int):=by omega
 rw[e,Jh x up 32 (by omega) (by omega)];unfold O6;rw[show 2^32*up+x=up*4294967296+x from by omega];simp
theorem R5 (up d s:Nat):O6 up d s<4294967296:=Nat.mod_lt _ (by omega)
theorem Jq (n s:Nat):n/4294967296^(s/32)/2^(s%32)=n/2^s:=by
 rw[Nat.div_div_eq_div_mul,BM]
theorem Jr (xs:List Nat) (hw:Wf xs) (k:Nat):val ((bG xs).drop k)=val xs/4294967296^k:=by
 rw[pz _ hw.trim,dZ]
end Go.Proofs.YtmenbpmciblnlaaGreatDoor
/- Plain facts on decimal digits (the lowest one first): value, canonical form, the canonical digits of a number. -/
namespace Go.Proofs.YtmenbpmciblnlaaGreatDoor.Dg
def val:List Nat->Nat
 |[]=>0
 |x::xs=>x+10*val xs
def Wf (xs:List Nat):Prop:=∀x∈xs,x<10
theorem Wf.cons {x:Nat} {xs:List Nat} (h:Wf (x::xs)):x<10/\ Wf xs:=
 ⟨h x List.mem_cons_self,fun y hy=>h y (List.mem_cons_of_mem _ hy)⟩
theorem dQ:val []=0:=rfl
theorem bq (x:Nat) (xs:List Nat):val (x::xs)=x+10*val xs:=rfl
theorem dZ (xs:List Nat):val (bG xs)=val xs:=by
 induction xs with
 |nil=>rfl
 |cons x xs ih=>
  unfold bG;split
  ·rename_i h;rw[bq,<-ih,h.2,h.1];rfl
  ·rw[bq,bq,ih]
theorem jJ {xs:List Nat}:bG xs=[]↔val xs=0:=by
 induction xs with
 |nil=>simp[bG,val]
 |cons x xs ih=>
  simp only[bG,val];split
  ·rename_i h;have:=ih.1 h.2;simp;omega
  ·rename_i h;simp only[reduceCtorEq,false_iff];intro h0;exact h ⟨by omega,ih.2 (by omega)⟩
theorem Wf.trim {xs:List Nat} (h:Wf xs):Wf (bG xs):=fun y hy=>h y (List.mem_of_mem_take (by rw[<-cK];exact hy))
theorem Wf.take {xs:List Nat} (h:Wf xs) (k:Nat):Wf (xs.take k):=fun y hy=>h y (List.mem_of_mem_take hy)
def ja:Nat->Nat->List Nat
 |0,_=>[]
 |f+1,n=>if n=0 then[]else n%10::ja f (n/10)
def limbs (n:Nat):List Nat:=ja n n
theorem qN (f:Nat):∀g n,n<=f->n<=g->ja f n=ja g n:=by
 induction f with
 |zero=>
  intro g n h1 _;obtain rfl:n=0:=by omega
  cases g<;>simp[ja]
 |succ f ih=>
  intro g n h1 h2;cases g with
  |zero=>obtain rfl:n=0:=by omega
         simp[ja]
  |succ g=>
   simp only[ja];split
   ·rfl
   ·rw[ih g _ (by omega) (by omega)]
theorem gT:limbs 0=[]:=rfl
theorem gF {n:Nat} (h:0<n):limbs n=n%10::limbs (n/10):=by
 unfold limbs;obtain⟨m,rfl⟩:∃m,n=m+1:=⟨n-1,by omega⟩;rw[ja,if_neg (by omega),qN m ((m+1)/10) _ (by omega) (Nat.le_refl _)]
theorem bX (xs:List Nat) (h:Wf xs):bG xs=limbs (val xs):=by
 induction xs with
 |nil=>rfl
 |cons x xs ih=>
  obtain⟨hx,hxs⟩:=h.cons;unfold bG;split
  ·rename_i h;have h0:val xs=0:=jJ.1 h.2;rw[bq,h.1,h0];rfl
  ·rename_i h
   have hpos:0<val (x::xs):=by
    rw[bq];by_cases hx0:x=0
    ·have:val xs≠0:=fun e=>h ⟨hx0,jJ.2 e⟩
     omega
    ·omega
   rw[gF hpos,bq,ih hxs]
   congr 1
   ·omega
   ·congr 1;omega
theorem au (n:Nat):val (limbs n)=n:=by
 induction n using Nat.strongRecOn with
 | _ n ih=>
  by_cases h:0<n
  ·rw[gF h,bq,ih _ (by omega)];omega
  ·obtain rfl:n=0:=by omega
   rfl
theorem dR (n:Nat):Wf (limbs n):=by
 induction n using Nat.strongRecOn with
 | _ n ih=>
  by_cases h:0<n
  ·rw[gF h];intro x hx;rcases List.mem_cons.1 hx with rfl|hx
   ·omega
   ·exact ih _ (by omega) x hx
  ·obtain rfl:n=0:=by omega
   intro x hx;cases hx
theorem kF (n:Nat):bG (limbs n)=limbs n:=by
 rw[bX _ (dR n),au]
theorem fH (n:Nat):nl (limbs n)=(limbs n).length:=by unfold nl;rw[kF]
theorem Tw (xs:List Nat) (h:Wf xs):nl xs=(limbs (val xs)).length:=by unfold nl;rw[bX _ h]
theorem val_append (xs ys:List Nat):val (xs++ys)=val xs+10^xs.length*val ys:=by
 induction xs with
 |nil=>simp[val]
 |cons x xs ih=>
  rw[List.cons_append,bq,bq,ih,List.length_cons,Nat.pow_succ,Nat.mul_add,<-Nat.mul_assoc,Nat.mul_comm 10 (10^_)];omega
theorem eu (xs:List Nat) (h:Wf xs):val xs<10^xs.length:=by
 induction xs with
 |nil=>simp[val]
 |cons x xs ih=>
  obtain⟨hx,hxs⟩:=h.cons;have:=ih hxs;rw[bq,List.length_cons,Nat.pow_succ];have h2:10*(val xs+1)<=10*10^xs.length:=Nat.mul_le_mul_left _ this;rw[Nat.mul_comm (10^xs.length)];omega
theorem gU (k:Nat):val (List.replicate k 0)=0:=by
 induction k with
 |zero=>rfl
 |succ k ih=>rw[List.replicate_succ,bq,ih]
theorem wu:∀(X Y:List Nat) (j:Nat),X.length=Y.length->j<X.length->Wf X->Wf Y->(∀i,j<i->i<X.length->X.getD i 0=Y.getD i 0)->X.getD j 0<Y.getD j 0->val X<val Y:=by
 intro X;induction X with
 |nil=>intro Y j _ hj;simp at hj
 |cons x X ih=>
  intro Y j hl hj hX hY heq hlt;cases Y with
  |nil=>simp at hl
  |cons y Y=>
   obtain⟨hx,hX'⟩:=hX.cons;obtain⟨hy,hY'⟩:=hY.cons;have hl':X.length=Y.length:=by simpa using hl
   rw[bq,bq];cases j with
   |zero=>
    have e:X=Y:=by
     apply List.ext_getElem hl';intro i h1 h2;have:=heq (i+1) (by omega) (by simp;omega);simpa[List.getD,h1,h2]using this
    have:x<y:=by simpa[List.getD]using hlt
    rw[e];omega
   |succ j=>
    have:=ih Y j hl' (by simpa using hj) hX' hY' (fun i h1 h2=>by
     have:=heq (i+1) (by omega) (by simp;omega);simpa[List.getD]using this) (by simpa[List.getD]using hlt)
    omega
theorem fu {xs:List Nat} (k:Nat) (h:nl xs=k+1):10^k<=val xs:=by
 induction xs generalizing k with
 |nil=>simp[nl,bG]at h
 |cons x xs ih=>
  rw[bq];unfold nl bG at h;split at h
  ·simp at h
  ·rename_i hn;simp only[List.length_cons,Nat.add_right_cancel_iff]at h;cases k with
   |zero=>
    have h0:bG xs=[]:=List.eq_nil_of_length_eq_zero h;have:x≠0:=fun e=>hn ⟨e,h0⟩
    simp only[Nat.pow_zero];omega
   |succ k=>
    have:=ih k h;rw[Nat.pow_succ];omega
theorem gK {xs ys:List Nat} (hx:Wf xs) (h:nl xs<nl ys):val xs<val ys:=by
 have h1:val xs<10^(nl xs):=by rw[<-dZ xs];exact eu _ hx.trim
 obtain⟨k,hk⟩:∃k,nl ys=k+1:=⟨nl ys-1,by omega⟩;have h2:=fu k hk;have h3:10^(nl xs)<=10^k:=Nat.pow_le_pow_right (by omega) (by omega);omega
theorem yK {xs ys:List Nat} (hx:Wf xs) (hy:Wf ys) (h:nl xs≠nl ys):fP (val xs) (val ys)=if nl ys<nl xs then 1 else-1:=by
 unfold fP;by_cases h1:nl ys<nl xs
 ·have:=gK hy h1;rw[if_pos h1,if_neg (by omega),if_neg (by omega)]
 ·have:=gK hx (show nl xs<nl ys by omega);rw[if_neg h1,if_pos this]
theorem Gw {xs ys:List Nat} (hx:Wf xs) (hy:Wf ys) (n j:Nat) (h1:nl xs=n) (h2:nl ys=n) (hj:j<n) (heq:∀i,j<i->i<n->xs.getD i 0=ys.getD i 0) (hne:xs.getD j 0≠ys.getD j 0):
  fP (val xs) (val ys)=if ys.getD j 0<xs.getD j 0 then 1 else-1:=by
 have key:∀(a b:List Nat),Wf a->Wf b->nl a=n->nl b=n->(∀i,j<i->i<n->a.getD i 0=b.getD i 0)->a.getD j 0<b.getD j 0->val a<val b:=by
  intro a b ha hb na nb he hl;rw[<-dZ a,<-dZ b];have la:(bG a).length=n:=na;have lb:(bG b).length=n:=nb;refine wu _ _ j (by omega) (by omega) ha.trim hb.trim (fun i h3 h4=>?_) ?_
  ·rw[fA a i (by omega),fA b i (by omega)];exact he i h3 (by omega)
  ·rw[fA a j (by omega),fA b j (by omega)];exact hl
 unfold fP;by_cases hlt:ys.getD j 0<xs.getD j 0
 ·have:=key ys xs hy hx h2 h1 (fun i h3 h4=>(heq i h3 h4).symm) hlt;rw[if_pos hlt,if_neg (by omega),if_neg (by omega)]
 ·have:=key xs ys hx hy h1 h2 heq (by omega);rw[if_neg hlt,if_pos this]
theorem yL {xs ys:List Nat} (n:Nat) (h1:nl xs=n) (h2:nl ys=n) (heq:∀i,i<n->xs.getD i 0=ys.getD i 0):fP (val xs) (val ys)=0:=by
 have:bG xs=bG ys:=by
  have la:(bG xs).length=n:=h1;have lb:(bG ys).length=n:=h2;apply List.ext_getElem (by omega);intro i h3 h4;have:=heq i (by omega);rw[<-fA xs i (by omega),<-fA ys i (by omega)]at this;simpa[List.getD,h3,h4]using this
 unfold fP;rw[<-dZ xs,<-dZ ys,this,if_neg (by omega),if_pos rfl]
theorem jB:∀(ys:List Nat) (k v:Nat),k<ys.length->val (ys.set k v)+10^k*ys.getD k 0=val ys+10^k*v
 |[],k,v,h=>by simp at h
 |y::ys,0,v,_=>by simp[val,List.getD];omega
 |y::ys,k+1,v,h=>by
  have ih:=jB ys k v (by simpa using h);have e:(y::ys).getD (k+1) 0=ys.getD k 0:=by simp[List.getD]
  rw[e,List.set_cons_succ,bq,bq,Nat.pow_succ,Nat.mul_comm (10^k) 10,Nat.mul_assoc,Nat.mul_assoc];omega
theorem bE (ys:List Nat) (k:Nat) (h:k<ys.length):val (ys.take (k+1))=val (ys.take k)+10^k*ys.getD k 0:=by
 rw[bZ ys k h,val_append,List.length_take,Nat.min_eq_left (by omega),bq,dQ,Nat.mul_zero,Nat.add_zero]
theorem kI {ys:List Nat} {k y c S T:Nat} (hk:k<ys.length) (h:val ys+10^k*c=S+T):
  val (ys.set k ((ys.getD k 0+y+c)%10))+10^(k+1)*((ys.getD k 0+y+c)/10)=S+(T+10^k*y):=by
 have h1:=jB ys k ((ys.getD k 0+y+c)%10) hk;generalize ys.getD k 0=u at*
 have h2:10^k*((u+y+c)%10)+10^(k+1)*((u+y+c)/10)=10^k*u+10^k*y+10^k*c:=by
  rw[Nat.pow_succ,Nat.mul_assoc,<-Nat.mul_add,<-Nat.mul_add,<-Nat.mul_add]
  congr 1
  omega
 omega
def jc (u y c:Nat):Nat:=(u+10-y-c)%10
def jm (u y c:Nat):Nat:=if u<y+c then 1 else 0
theorem qE {ys:List Nat} {k y c S T:Nat} (hk:k<ys.length) (hu:ys.getD k 0<10) (hy:y<10) (hc:c<=1) (h:val ys+T=S+10^k*c):
  val (ys.set k (jc (ys.getD k 0) y c))+(T+10^k*y)=S+10^(k+1)*jm (ys.getD k 0) y c:=by
 have h1:=jB ys k (jc (ys.getD k 0) y c) hk;generalize ys.getD k 0=u at*
 have h2:10^k*jc u y c+10^k*y+10^k*c=10^k*u+10^(k+1)*jm u y c:=by
  rw[Nat.pow_succ,Nat.mul_assoc,<-Nat.mul_add,<-Nat.mul_add,<-Nat.mul_add]
  congr 1
  unfold jc jm;split<;>omega
 omega
theorem pu (u y c:Nat):jc u y c<10:=Nat.mod_lt _ (by omega)
theorem ve (u y c:Nat):jm u y c<=1:=by unfold jm;split<;>omega
theorem Df {ys:List Nat} {n k c S:Nat} (h:val ys+10^k*c=S) (hS:S<10^(n+1)) (hk:k<=n+1) (hc:c<=1):c=0∨k<=n:=by
 rcases Nat.lt_or_ge n k with hlt|hge
 ·left
  obtain rfl:k=n+1:=by omega
  rcases Nat.eq_zero_or_pos c with h0|h0
  ·exact h0
  ·obtain rfl:c=1:=by omega
   omega
 ·right;exact hge
theorem sum_lt {a b n:Nat} (ha:a<10^n) (hb:b<10^n):a+b<10^(n+1):=by
 rw[Nat.pow_succ];omega
theorem qO {xs:List Nat} (h:Wf xs) (n:Nat) (hn:n<=xs.length):val (xs.take n)<10^n:=by
 have:=eu _ (h.take n);rwa[List.length_take,Nat.min_eq_left hn]at this
theorem tO (xs:List Nat):val (xs.take (nl xs))=val xs:=by rw[<-cK,dZ]
theorem ko {xs:List Nat} (h:Wf xs) (n:Nat) (hn:nl xs<=n):val xs<10^n:=by
 have h1:=eu _ h.trim;rw[dZ]at h1;have:(bG xs).length<=n:=hn;exact Nat.lt_of_lt_of_le h1 (Nat.pow_le_pow_right (by omega) this)
theorem iL (zs:List Nat) (i:Nat) (h:i<zs.length):val (zs.drop i)=zs.getD i 0+10*val (zs.drop (i+1)):=by
 rw[List.drop_eq_getElem_cons h,bq];simp[List.getD,h]
theorem pz (xs:List Nat) (hw:Wf xs) (k:Nat):val (xs.drop k)=val xs/10^k:=by
 by_cases hk:k<=xs.length
 ·have h:=val_append (xs.take k) (xs.drop k);rw[List.take_append_drop,List.length_take,Nat.min_eq_left hk]at h;have hl:=qO hw k hk;rw[h,Nat.add_mul_div_left _ _ (Nat.pow_pos (by omega)),Nat.div_eq_of_lt hl,Nat.zero_add]
 ·rw[List.drop_eq_nil_of_le (by omega),dQ];have:=eu xs hw;have h2:10^xs.length<=10^k:=Nat.pow_le_pow_right (by omega) (by omega);exact(Nat.div_eq_of_lt (by omega)).symm
theorem Jr (xs:List Nat) (hw:Wf xs) (k:Nat):val ((bG xs).drop k)=val xs/10^k:=by
 rw[pz _ hw.trim,dZ]
end Go.Proofs.YtmenbpmciblnlaaGreatDoor.Dg

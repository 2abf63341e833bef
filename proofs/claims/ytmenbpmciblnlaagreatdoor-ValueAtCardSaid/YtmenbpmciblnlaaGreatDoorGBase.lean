/- Plain, BitOps, Wraps, AddPlain, BitsPlain, ShlPlain, ShrPlain, DigPlain -/
import Derived.WalkKit
import Derived.Lib.Hide
import Derived.Lib.BitFns
set_option maxHeartbeats 0
set_option maxRecDepth 100000
open Go.IntKind renaming bits->a0c,signed->a0d,u32->a0e,u64->a0a,wrap->a0b
open List renaming cons_append->a0m,drop_eq_getElem_cons->a0t,drop_eq_nil_of_le->a0v,eq_nil_of_length_eq_zero->a0q,ext_getElem->a0p,getD->a0h,length_cons->a0f,length_take->a0g,mem_cons->a0l,mem_cons_of_mem->a0j,mem_cons_self->a0i,mem_of_mem_take->a0k,replicate->a0n,replicate_succ->a0o,set_cons_succ->a0s,take_append_drop->a0u,take_of_length_le->a0r
open Nat renaming add_mul_div_left->a0W,add_mul_mod_self_left->a1a,add_right_cancel_iff->a0D,add_zero->a0K,div_eq_of_lt->a0Y,div_lt_iff_lt_mul->a0U,eq_zero_or_pos->a0N,le_refl->a0w,log2_eq_iff->a0Q,lt_of_lt_of_le->a0O,lt_or_ge->a0M,min_eq_left->a0I,mod_add_div->a0V,mod_lt->a0L,mul_add->a0z,mul_assoc->a0A,mul_comm->a0B,mul_le_mul_left->a0C,mul_left_comm->a1b,mul_one->a0T,mul_zero->a0J,or_comm->a0G,pow_add->a0S,pow_le_pow_right->a0F,pow_mul->a0R,pow_pos->a0X,pow_succ->a0y,pow_zero->a0E,strongRecOn->a0x,two_pow_add_eq_or_of_lt->a0H,two_pow_pos->a0P,zero_add->a0Z
/- Plain facts on lists of limbs and numbers (no program): value, canonical form, the canonical limbs of a number. -/
namespace Go.Proofs.YtmenbpmciblnlaaGreatDoor
section
def val:List Nat->Nat
 |[]=>0
 |x::xs=>x+4294967296*val xs
def bG:List Nat->List Nat
 |[]=>[]
 |x::xs=>if x=0/\ bG xs=[]then[]else x::bG xs
def nl (xs:List Nat):Nat:=(bG xs).length
theorem Y8:nl []=0:=rfl
theorem oz (xs:List Nat):bG (xs++[0])=bG xs:=by
 induction xs with
 |nil=>simp[bG]
 |cons x xs ih=>simp[bG,ih]
theorem u6 (xs:List Nat) {x:Nat} (h:x≠0):bG (xs++[x])=xs++[x]:=by
 induction xs with
 |nil=>simp[bG,h]
 |cons y xs ih=>simp[bG,ih]
theorem dA (xs:List Nat):bG xs=xs.take (nl xs):=by
 unfold nl;induction xs with
 |nil=>rfl
 |cons x xs ih=>
  unfold bG;split
  ·rfl
  ·simp only[a0f,List.take_succ_cons];rw[<-ih]
theorem iP (xs:List Nat):nl xs<=xs.length:=by
 have h:=congrArg List.length (dA xs);rw[a0g]at h;unfold nl at*
 omega
theorem dw (xs:List Nat) (k:Nat) (h:k<xs.length):xs.take (k+1)=xs.take k++[xs.getD k 0]:=by
 rw[List.take_succ_eq_append_getElem h];simp[a0h,h]
theorem mI (xs:List Nat) (k:Nat) (h:k<xs.length) (h0:xs.getD k 0=0):nl (xs.take (k+1))=nl (xs.take k):=by
 unfold nl;rw[dw xs k h,h0,oz]
theorem yU (xs:List Nat) (k:Nat) (h:k<xs.length) (h0:xs.getD k 0≠0):nl (xs.take (k+1))=k+1:=by
 unfold nl;rw[dw xs k h,u6 _ h0];simp;omega
def Wf (xs:List Nat):Prop:=∀x∈xs,x<4294967296
theorem Wf.cons {x:Nat} {xs:List Nat} (h:Wf (x::xs)):x<4294967296/\ Wf xs:=
 ⟨h x a0i,λy hy=>h y (a0j _ hy)⟩
theorem dY:val []=0:=rfl
theorem bB (x:Nat) (xs:List Nat):val (x::xs)=x+4294967296*val xs:=rfl
theorem eX (xs:List Nat):val (bG xs)=val xs:=by
 induction xs with
 |nil=>rfl
 |cons x xs ih=>
  unfold bG;split
  ·rename_i h;rw[bB,<-ih,h.2,h.1];rfl
  ·rw[bB,bB,ih]
theorem kz {xs:List Nat}:bG xs=[]↔val xs=0:=by
 induction xs with
 |nil=>simp[bG,val]
 |cons x xs ih=>
  simp only[bG,val];split
  ·rename_i h;have:=ih.1 h.2;simp;omega
  ·rename_i h;simp only[reduceCtorEq,false_iff];intro h0;exact h ⟨by omega,ih.2 (by omega)⟩
theorem Wf.trim {xs:List Nat} (h:Wf xs):Wf (bG xs):=λy hy=>h y (a0k (by rw[<-dA];exact hy))
theorem Wf.take {xs:List Nat} (h:Wf xs) (k:Nat):Wf (xs.take k):=λy hy=>h y (a0k hy)
def jA:Nat->Nat->List Nat
 |0,_=>[]
 |f+1,n=>if n=0 then[]else n%4294967296::jA f (n/4294967296)
def limbs (n:Nat):List Nat:=jA n n
theorem sF (f:Nat):∀g n,n<=f->n<=g->jA f n=jA g n:=by
 induction f with
 |zero=>
  intro g n h1 _;obtain rfl:n=0:=by omega
  cases g<;>simp[jA]
 |succ f ih=>
  intro g n h1 h2;cases g with
  |zero=>obtain rfl:n=0:=by omega
         simp[jA]
  |succ g=>
   simp only[jA];split
   ·rfl
   ·rw[ih g _ (by omega) (by omega)]
theorem iy:limbs 0=[]:=rfl
theorem gT {n:Nat} (h:0<n):limbs n=n%4294967296::limbs (n/4294967296):=by
 unfold limbs;obtain⟨m,rfl⟩:∃m,n=m+1:=⟨n-1,by omega⟩;rw[jA,if_neg (by omega),sF m ((m+1)/4294967296) _ (by omega) (a0w _)]
theorem di (xs:List Nat) (h:Wf xs):bG xs=limbs (val xs):=by
 induction xs with
 |nil=>rfl
 |cons x xs ih=>
  obtain⟨hx,hxs⟩:=h.cons;unfold bG;split
  ·rename_i h;have h0:val xs=0:=kz.1 h.2;rw[bB,h.1,h0];rfl
  ·rename_i h
   have hpos:0<val (x::xs):=by
    rw[bB];by_cases hx0:x=0
    ·have:val xs≠0:=λe=>h ⟨hx0,kz.2 e⟩
     omega
    ·omega
   rw[gT hpos,bB,ih hxs]
   congr 1
   ·omega
   ·congr 1;omega
theorem au (n:Nat):val (limbs n)=n:=by
 induction n using a0x with
 | _ n ih=>
  by_cases h:0<n
  ·rw[gT h,bB,ih _ (by omega)];omega
  ·obtain rfl:n=0:=by omega
   rfl
theorem eF (n:Nat):Wf (limbs n):=by
 induction n using a0x with
 | _ n ih=>
  by_cases h:0<n
  ·rw[gT h];intro x hx;rcases a0l.1 hx with rfl|hx
   ·omega
   ·exact ih _ (by omega) x hx
  ·obtain rfl:n=0:=by omega
   intro x hx;cases hx
theorem lQ (n:Nat):bG (limbs n)=limbs n:=by
 rw[di _ (eF n),au]
theorem fQ (n:Nat):nl (limbs n)=(limbs n).length:=by unfold nl;rw[lQ]
theorem Xc (xs:List Nat) (h:Wf xs):nl xs=(limbs (val xs)).length:=by unfold nl;rw[di _ h]
theorem val_append (xs ys:List Nat):val (xs++ys)=val xs+4294967296^xs.length*val ys:=by
 induction xs with
 |nil=>simp[val]
 |cons x xs ih=>
  rw[a0m,bB,bB,ih,a0f,a0y,a0z,<-a0A,a0B 4294967296 (4294967296^_)];omega
theorem eG (xs:List Nat) (h:Wf xs):val xs<4294967296^xs.length:=by
 induction xs with
 |nil=>simp[val]
 |cons x xs ih=>
  obtain⟨hx,hxs⟩:=h.cons;have:=ih hxs;rw[bB,a0f,a0y];have h2:4294967296*(val xs+1)<=4294967296*4294967296^xs.length:=a0C _ this;rw[a0B (4294967296^xs.length)];omega
theorem iA (k:Nat):val (a0n k 0)=0:=by
 induction k with
 |zero=>rfl
 |succ k ih=>rw[a0o,bB,ih]
theorem xW:∀(X Y:List Nat) (j:Nat),X.length=Y.length->j<X.length->Wf X->Wf Y->(∀i,j<i->i<X.length->X.getD i 0=Y.getD i 0)->X.getD j 0<Y.getD j 0->val X<val Y:=by
 intro X;induction X with
 |nil=>intro Y j _ hj;simp at hj
 |cons x X ih=>
  intro Y j hl hj hX hY heq hlt;cases Y with
  |nil=>simp at hl
  |cons y Y=>
   obtain⟨hx,ZG⟩:=hX.cons;obtain⟨hy,hY'⟩:=hY.cons;have hl':X.length=Y.length:=by simpa using hl
   rw[bB,bB];cases j with
   |zero=>
    have e:X=Y:=by
     apply a0p hl';intro i h1 h2;have:=heq (i+1) (by omega) (by simp;omega);simpa[a0h,h1,h2]using this
    have:x<y:=by simpa[a0h]using hlt
    rw[e];omega
   |succ j=>
    have:=ih Y j hl' (by simpa using hj) ZG hY' (λi h1 h2=>by
     have:=heq (i+1) (by omega) (by simp;omega);simpa[a0h]using this) (by simpa[a0h]using hlt)
    omega
def gG (a b:Nat):Int:=if a<b then-1 else if a=b then 0 else 1
theorem fC {xs:List Nat} (k:Nat) (h:nl xs=k+1):4294967296^k<=val xs:=by
 induction xs generalizing k with
 |nil=>simp[nl,bG]at h
 |cons x xs ih=>
  rw[bB];unfold nl bG at h;split at h
  ·simp at h
  ·rename_i hn;simp only[a0f,a0D]at h;cases k with
   |zero=>
    have h0:bG xs=[]:=a0q h;have:x≠0:=λe=>hn ⟨e,h0⟩
    simp only[a0E];omega
   |succ k=>
    have:=ih k h;rw[a0y];omega
theorem gZ {xs ys:List Nat} (hx:Wf xs) (h:nl xs<nl ys):val xs<val ys:=by
 have h1:val xs<4294967296^(nl xs):=by rw[<-eX xs];exact eG _ hx.trim
 obtain⟨k,hk⟩:∃k,nl ys=k+1:=⟨nl ys-1,by omega⟩;have h2:=fC k hk;have h3:4294967296^(nl xs)<=4294967296^k:=a0F (by omega) (by omega);omega
theorem fK (xs:List Nat) (i:Nat) (h:i<nl xs):(bG xs).getD i 0=xs.getD i 0:=by
 rw[dA];simp[a0h,h]
theorem BJ {xs ys:List Nat} (hx:Wf xs) (hy:Wf ys) (h:nl xs≠nl ys):gG (val xs) (val ys)=if nl ys<nl xs then 1 else-1:=by
 unfold gG;by_cases h1:nl ys<nl xs
 ·have:=gZ hy h1;rw[if_pos h1,if_neg (by omega),if_neg (by omega)]
 ·have:=gZ hx (show nl xs<nl ys by omega);rw[if_neg h1,if_pos this]
theorem KV {xs ys:List Nat} (hx:Wf xs) (hy:Wf ys) (n j:Nat) (h1:nl xs=n) (h2:nl ys=n) (hj:j<n) (heq:∀i,j<i->i<n->xs.getD i 0=ys.getD i 0) (hne:xs.getD j 0≠ys.getD j 0):
  gG (val xs) (val ys)=if ys.getD j 0<xs.getD j 0 then 1 else-1:=by
 have key:∀(a b:List Nat),Wf a->Wf b->nl a=n->nl b=n->(∀i,j<i->i<n->a.getD i 0=b.getD i 0)->a.getD j 0<b.getD j 0->val a<val b:=by
  intro a b ha hb na nb he hl;rw[<-eX a,<-eX b];have la:(bG a).length=n:=na;have lb:(bG b).length=n:=nb;refine xW _ _ j (by omega) (by omega) ha.trim hb.trim (λi h3 h4=>?_) ?_
  ·rw[fK a i (by omega),fK b i (by omega)];exact he i h3 (by omega)
  ·rw[fK a j (by omega),fK b j (by omega)];exact hl
 unfold gG;by_cases hlt:ys.getD j 0<xs.getD j 0
 ·have:=key ys xs hy hx h2 h1 (λi h3 h4=>(heq i h3 h4).symm) hlt;rw[if_pos hlt,if_neg (by omega),if_neg (by omega)]
 ·have:=key xs ys hx hy h1 h2 heq (by omega);rw[if_neg hlt,if_pos this]
theorem BK {xs ys:List Nat} (n:Nat) (h1:nl xs=n) (h2:nl ys=n) (heq:∀i,i<n->xs.getD i 0=ys.getD i 0):gG (val xs) (val ys)=0:=by
 have:bG xs=bG ys:=by
  have la:(bG xs).length=n:=h1;have lb:(bG ys).length=n:=h2;apply a0p (by omega);intro i h3 h4;have:=heq i (by omega);rw[<-fK xs i (by omega),<-fK ys i (by omega)]at this;simpa[a0h,h3,h4]using this
 unfold gG;rw[<-eX xs,<-eX ys,this,if_neg (by omega),if_pos rfl]
theorem dz (xs:List Nat) (n:Nat) (h:xs.length=n):xs.take n=xs:=by
 rw[a0r (by omega)]
theorem kL {xs:List Nat} (h:nl xs=0):bG xs=[]:=a0q h
end
/- Plain facts on the model's bit operations over natural numbers. -/
section
theorem wrap_u64 (n:Nat) (h:n<18446744073709551616):a0a.wrap (n:Int)=(n:Int):=by
 simp only[a0b,a0c,a0d];simp only[Bool.false_and,Bool.false_eq_true,if_false];have:(2:Int)^64=18446744073709551616:=by decide
 rw[this];omega
theorem Y9 (a b k:Nat) (ha:a<2^k) (hb:2^k*b+a<18446744073709551616):bits .or .u64 (a:Int) ((2^k*b:Nat):Int)=((2^k*b+a:Nat):Int):=by
 rw[u64_or_nat a (2^k*b) (by omega) (by omega),a0G,<-a0H ha]
theorem Mg (a b k:Nat) (ha:a<2^k) (hb:2^k*b+a<18446744073709551616):bits .or .u64 ((2^k*b:Nat):Int) (a:Int)=((2^k*b+a:Nat):Int):=by
 rw[u64_or_nat (2^k*b) a (by omega) (by omega),<-a0H ha]
theorem Za (a b k:Nat) (ha:a<2^k) (hb:2^k*b+a<4294967296):bits .or .u32 (a:Int) ((2^k*b:Nat):Int)=((2^k*b+a:Nat):Int):=by
 rw[u32_or_nat a (2^k*b) (by omega) (by omega),a0G,<-a0H ha]
end
/- Plain facts: a number within a kind is not wrapped. -/
section
theorem wrap_u32 (n:Nat) (h:n<4294967296):a0e.wrap (n:Int)=(n:Int):=by
 simp only[a0b,a0c,a0d];simp only[Bool.false_and,Bool.false_eq_true,if_false];have:(2:Int)^32=4294967296:=by decide
 rw[this];omega
theorem wrap_i64 (n:Nat) (h:n<9223372036854775808):IntKind.i64.wrap (n:Int)=(n:Int):=
 IntWalk.i64_in _ (by omega)
end
/- Plain facts on sums and differences limb by limb. -/
section
theorem jW:∀(ys:List Nat) (k v:Nat),k<ys.length->val (ys.set k v)+4294967296^k*ys.getD k 0=val ys+4294967296^k*v
 |[],k,v,h=>by simp at h
 |y::ys,0,v,_=>by simp[val,a0h];omega
 |y::ys,k+1,v,h=>by
  have ih:=jW ys k v (by simpa using h);have e:(y::ys).getD (k+1) 0=ys.getD k 0:=by simp[a0h]
  rw[e,a0s,bB,bB,a0y,a0B (4294967296^k) 4294967296,a0A,a0A];omega
theorem bE (ys:List Nat) (k:Nat) (h:k<ys.length):val (ys.take (k+1))=val (ys.take k)+4294967296^k*ys.getD k 0:=by
 rw[dw ys k h,val_append,a0g,a0I (by omega),bB,dY,a0J,a0K]
theorem lX {ys:List Nat} {k y c S T:Nat} (hk:k<ys.length) (h:val ys+4294967296^k*c=S+T):
  val (ys.set k ((ys.getD k 0+y+c)%4294967296))+4294967296^(k+1)*((ys.getD k 0+y+c)/4294967296)=S+(T+4294967296^k*y):=by
 have h1:=jW ys k ((ys.getD k 0+y+c)%4294967296) hk;generalize ys.getD k 0=u at*
 have h2:4294967296^k*((u+y+c)%4294967296)+4294967296^(k+1)*((u+y+c)/4294967296)=4294967296^k*u+4294967296^k*y+4294967296^k*c:=by
  rw[a0y,a0A,<-a0z,<-a0z,<-a0z]
  congr 1
  omega
 omega
def jG (u y c:Nat):Nat:=(u+4294967296-y-c)%4294967296
def jM (u y c:Nat):Nat:=if u<y+c then 1 else 0
theorem sw {ys:List Nat} {k y c S T:Nat} (hk:k<ys.length) (hu:ys.getD k 0<4294967296) (hy:y<4294967296) (hc:c<=1) (h:val ys+T=S+4294967296^k*c):
  val (ys.set k (jG (ys.getD k 0) y c))+(T+4294967296^k*y)=S+4294967296^(k+1)*jM (ys.getD k 0) y c:=by
 have h1:=jW ys k (jG (ys.getD k 0) y c) hk;generalize ys.getD k 0=u at*
 have h2:4294967296^k*jG u y c+4294967296^k*y+4294967296^k*c=4294967296^k*u+4294967296^(k+1)*jM u y c:=by
  rw[a0y,a0A,<-a0z,<-a0z,<-a0z]
  congr 1
  unfold jG jM;split<;>omega
 omega
theorem qJ (u y c:Nat):jG u y c<4294967296:=a0L _ (by omega)
theorem wW (u y c:Nat):jM u y c<=1:=by unfold jM;split<;>omega
theorem FO {ys:List Nat} {n k c S:Nat} (h:val ys+4294967296^k*c=S) (hS:S<4294967296^(n+1)) (hk:k<=n+1) (hc:c<=1):c=0∨k<=n:=by
 rcases a0M n k with hlt|hge
 ·left
  obtain rfl:k=n+1:=by omega
  rcases a0N c with h0|h0
  ·exact h0
  ·obtain rfl:c=1:=by omega
   omega
 ·right;exact hge
theorem sum_lt {a b n:Nat} (ha:a<4294967296^n) (hb:b<4294967296^n):a+b<4294967296^(n+1):=by
 rw[a0y];omega
theorem sG {xs:List Nat} (h:Wf xs) (n:Nat) (hn:n<=xs.length):val (xs.take n)<4294967296^n:=by
 have:=eG _ (h.take n);rwa[a0g,a0I hn]at this
theorem eB (n t:Nat):(a0n n 0).getD t 0=0:=by
 by_cases h:t<n<;>simp[a0h,h]
theorem vE (xs:List Nat):val (xs.take (nl xs))=val xs:=by rw[<-dA,eX]
theorem lG {xs:List Nat} (h:Wf xs) (n:Nat) (hn:nl xs<=n):val xs<4294967296^n:=by
 have h1:=eG _ h.trim;rw[eX]at h1;have:(bG xs).length<=n:=hn;exact a0O h1 (a0F (by omega) this)
end
/- Plain facts on how many bits a number has. -/
section
def nbits (n:Nat):Nat:=if n=0 then 0 else n.log2+1
theorem IL {n k:Nat} (h1:2^k<=n) (h2:n<2^(k+1)):nbits n=k+1:=by
 have h0:n≠0:=by have:=a0P k;omega
 unfold nbits;rw[if_neg h0,(a0Q h0).2 ⟨h1,h2⟩]
theorem uf {n:Nat} (h:n≠0):∃k,nbits n=k+1/\ 2^k<=n/\ n<2^(k+1):=by
 refine⟨n.log2,?_,(a0Q h).1 rfl⟩;unfold nbits;rw[if_neg h]
theorem lN {n:Nat}:nbits n=0↔n=0:=by
 unfold nbits;split<;>simp_all
theorem qU:∀(f x:Nat),x<2^f->Lib.bitLenAux f x=nbits x
 |0,x,h=>by
  obtain rfl:x=0:=by simpa using h
  rfl
 |f+1,x,h=>by
  rw[Lib.bitLenAux];split
  ·rename_i h0;rw[h0];rfl
  ·rename_i h0;rw[qU f (x/2) (by rw[a0y]at h;omega)];by_cases h2:x/2=0
   ·have:x=1:=by omega
    subst this;rfl
   ·obtain⟨k,e,a,b⟩:=uf h2;rw[e];have:=IL (n:=x) (k:=k+1) (by rw[a0y];omega) (by rw[a0y];omega);omega
theorem wU (x:Nat) (h:x<4294967296):Lib.bitLen x=nbits x:=
 qU 64 x (by have:(4294967296:Nat)<2^64:=by decide
             omega)
theorem wV {n k:Nat} (h:n<2^k):nbits n<=k:=by
 by_cases h0:n=0
 ·subst h0;simp[nbits]
 ·obtain⟨j,e,a,b⟩:=uf h0;rw[e];have:=(Nat.pow_lt_pow_iff_right (a:=2) (by omega)).1 (Nat.lt_of_le_of_lt a h);omega
theorem D7 {xs:List Nat} (h:Wf xs) (k:Nat) (hk:nl xs=k+1):nbits (val xs)=32*k+nbits (xs.getD k 0):=by
 have hlen:(bG xs).length=k+1:=hk
 have hsplit:bG xs=(bG xs).take k++[xs.getD k 0]:=by
  have:=dw (bG xs) k (by omega);rw[a0r (by omega),fK xs k (by omega)]at this;exact this
 have hv:val xs=val ((bG xs).take k)+4294967296^k*xs.getD k 0:=by
  have h2:=congrArg val hsplit;rw[val_append,a0g,a0I (by omega),bB,dY,eX]at h2;simpa using h2
 have hlow:val ((bG xs).take k)<4294967296^k:=by
  have:=eG _ (h.trim.take k);rwa[a0g,a0I (by omega)]at this
 have hne:xs.getD k 0≠0:=by
  intro e;have h1:=fC k hk;rw[hv,e]at h1;omega
 obtain⟨j,e,a,b⟩:=uf hne;rw[e];have hp:(4294967296:Nat)^k=2^(32*k):=by rw[a0R]
 rw[hp]at hv hlow
 have:=IL (n:=val xs) (k:=32*k+j) (by
  rw[hv,a0S];have:=a0C (2^(32*k)) a;omega) (by
  rw[hv,show 32*k+j+1=32*k+(j+1)from by omega,a0S];have:=a0C (2^(32*k)) (show xs.getD k 0+1<=2^(j+1)from b);rw[a0z,a0T]at this;omega)
 rw[this];omega
end
/- Plain facts on shifts limb by limb. -/
section
theorem fP (zs:List Nat) (i v t:Nat):(zs.set i v).getD t 0=if t=i/\ i<zs.length then v else zs.getD t 0:=by
 by_cases h:i<zs.length
 ·by_cases ht:t=i
  ·subst ht;simp[a0h,h]
  ·rw[if_neg (λe=>ht e.1)];simp[a0h,List.getElem?_set_ne (Ne.symm ht)]
 ·rw[if_neg (λe=>h e.2),List.set_eq_of_length_le (by omega)]
theorem x_lt (x d:Nat) (hx:x<4294967296) (hd:d<32):x*2^d<18446744073709551616:=by
 have h1:2^d<=2^31:=a0F (by omega) (by omega);have h2:x*2^d<=4294967295*2^31:=Nat.mul_le_mul (by omega) h1;omega
theorem xX (x d:Nat) (hd:d<32):x*2^d%4294967296=2^d*(x%2^(32-d)):=by
 have e:(4294967296:Nat)=2^d*2^(32-d):=by rw[<-a0S,show d+(32-d)=32 from by omega]
 rw[e,a0B x,Nat.mul_mod_mul_left]
theorem D8 (x d z:Nat) (hd:d<32) (hz:z<2^d):z+x*2^d%4294967296<4294967296:=by
 rw[xX x d hd];have e:(4294967296:Nat)=2^d*2^(32-d):=by rw[<-a0S,show d+(32-d)=32 from by omega]
 have h1:x%2^(32-d)+1<=2^(32-d):=a0L _ (a0P _);have h2:=a0C (2^d) h1;rw[a0z,a0T]at h2;omega
theorem yV (x d:Nat):(x:Int)*2^d=((x*2^d:Nat):Int):=by simp
theorem Zc (z x d:Nat) (hx:x<4294967296) (hd:d<32) (hz:z<2^d):
  bits BinOp.or a0e (z:Int) (a0a.wrap ((x:Int)*2^d)%4294967296)=((z+x*2^d%4294967296:Nat):Int):=by
 have h:=D8 x d z hd hz;rw[yV,wrap_u64 _ (x_lt x d hx hd)];have e:((x*2^d:Nat):Int)%4294967296=((2^d*(x%2^(32-d)):Nat):Int):=by rw[<-xX x d hd];omega
 rw[xX x d hd]at h ⊢;rw[e,Za z _ d hz (by omega),Nat.add_comm]
theorem Ze (x d:Nat) (hx:x<4294967296) (hd:d<32):
  a0a.wrap ((x:Int)*2^d)/4294967296%4294967296=((x*2^d/4294967296:Nat):Int):=by
 have:=x_lt x d hx hd;rw[yV,wrap_u64 _ this];omega
theorem Ea (x d:Nat) (hx:x<4294967296):x*2^d/4294967296<2^d:=by
 have h:0<2^d:=a0P d;rw[a0U (by omega),a0B];exact Nat.mul_lt_mul_of_pos_left hx h
theorem Tg {zs:List Nat} {j x d:Nat} (hj:j+1<zs.length) (h0:zs.getD (j+1) 0=0):
  val ((zs.set j (zs.getD j 0+x*2^d%4294967296)).set (j+1) (x*2^d/4294967296))=val zs+4294967296^j*(x*2^d):=by
 have h1:=jW zs j (zs.getD j 0+x*2^d%4294967296) (by omega);have h2:=jW (zs.set j (zs.getD j 0+x*2^d%4294967296)) (j+1) (x*2^d/4294967296) (by simpa using hj);rw[fP,if_neg (by omega),h0,a0J,a0K]at h2;rw[h2];rw[a0z]at h1
 have h3:4294967296^j*(x*2^d)=4294967296^j*(x*2^d%4294967296)+4294967296^(j+1)*(x*2^d/4294967296):=by
  rw[a0y,a0A,<-a0z,a0V]
 omega
theorem Eb (s:Nat):4294967296^(s/32)*2^(s%32)=2^s:=by
 have e:(4294967296:Nat)=2^32:=by decide
 rw[e,<-a0R,<-a0S,Nat.div_add_mod]
theorem FP (a k V x d zv:Nat) (h:zv=4294967296^a*V*2^d):zv+4294967296^(a+k)*(x*2^d)=4294967296^a*(V+4294967296^k*x)*2^d:=by
 rw[h,a0S,a0z,Nat.add_mul]
 congr 1
 simp only[a0A]
end
/- Plain facts on shifts to the right limb by limb. -/
section
theorem iL (zs:List Nat) (i:Nat) (h:i<zs.length):val (zs.drop i)=zs.getD i 0+4294967296*val (zs.drop (i+1)):=by
 rw[a0t h,bB];simp[a0h,h]
theorem qK (xs:List Nat) (hw:Wf xs) (k:Nat):val (xs.drop k)=val xs/4294967296^k:=by
 by_cases hk:k<=xs.length
 ·have h:=val_append (xs.take k) (xs.drop k);rw[a0u,a0g,a0I hk]at h;have hl:=sG hw k hk;rw[h,a0W _ _ (a0X (by omega)),a0Y hl,a0Z]
 ·rw[a0v (by omega),dY];have:=eG xs hw;have h2:4294967296^xs.length<=4294967296^k:=a0F (by omega) (by omega);exact(a0Y (by omega)).symm
def Ti (up d s:Nat):Nat:=(up*4294967296+d)/2^s%4294967296
theorem Tj (V W up d s:Nat) (hs:s<32) (hd:d<4294967296) (hV:V=up+4294967296*W):(d+4294967296*V)/2^s=Ti up d s+4294967296*(V/2^s):=by
 have hp:0<2^s:=a0P s;have e:(4294967296:Nat)=2^s*2^(32-s):=by rw[<-a0S,show s+(32-s)=32 from by omega]
 have hR:V%2^s=up%2^s:=by
  rw[hV,e,a0A,a1a]
 have hRl:up%2^s<2^s:=a0L _ hp
 have h1:d+4294967296*V=(d+4294967296*(up%2^s))+2^s*(4294967296*(V/2^s)):=by
  have h:=a0V V (2^s);rw[hR]at h;have h3:4294967296*V=4294967296*(up%2^s)+4294967296*(2^s*(V/2^s)):=by rw[<-a0z,h]
  rw[h3,a1b (2^s)];omega
 have h2:up*4294967296+d=(d+4294967296*(up%2^s))+2^s*(4294967296*(up/2^s)):=by
  have h:=a0V up (2^s);have h3:4294967296*up=4294967296*(up%2^s)+4294967296*(2^s*(up/2^s)):=by rw[<-a0z,h]
  rw[a0B up,h3,a1b (2^s)];omega
 have hlt:(d+4294967296*(up%2^s))/2^s<4294967296:=by
  rw[a0U hp];have:=a0C 4294967296 (show up%2^s+1<=2^s from hRl);omega
 unfold Ti;rw[h1,h2,a0W _ _ hp,a0W _ _ hp,a1a,Nat.mod_eq_of_lt hlt]
theorem Tk (up x d:Nat) (hu:up<4294967296) (hx:x<4294967296):
  bits BinOp.or a0a ((up:Int)*4294967296) (x:Int)/2^d%4294967296=((Ti up x d:Nat):Int):=by
 have e:(up:Int)*4294967296=((2^32*up:Nat):Int):=by omega
 rw[e,Mg x up 32 (by omega) (by omega)];unfold Ti;rw[show 2^32*up+x=up*4294967296+x from by omega];simp
theorem VS (up d s:Nat):Ti up d s<4294967296:=a0L _ (by omega)
theorem Mk (n s:Nat):n/4294967296^(s/32)/2^(s%32)=n/2^s:=by
 rw[Nat.div_div_eq_div_mul,Eb]
theorem Mq (xs:List Nat) (hw:Wf xs) (k:Nat):val ((bG xs).drop k)=val xs/4294967296^k:=by
 rw[qK _ hw.trim,eX]
end
end Go.Proofs.YtmenbpmciblnlaaGreatDoor
/- Plain facts on decimal digits (the lowest one first): value, canonical form, the canonical digits of a number. -/
namespace Go.Proofs.YtmenbpmciblnlaaGreatDoor.Dg
def val:List Nat->Nat
 |[]=>0
 |x::xs=>x+10*val xs
def Wf (xs:List Nat):Prop:=∀x∈xs,x<10
theorem Wf.cons {x:Nat} {xs:List Nat} (h:Wf (x::xs)):x<10/\ Wf xs:=
 ⟨h x a0i,λy hy=>h y (a0j _ hy)⟩
theorem dY:val []=0:=rfl
theorem bB (x:Nat) (xs:List Nat):val (x::xs)=x+10*val xs:=rfl
theorem eX (xs:List Nat):val (bG xs)=val xs:=by
 induction xs with
 |nil=>rfl
 |cons x xs ih=>
  unfold bG;split
  ·rename_i h;rw[bB,<-ih,h.2,h.1];rfl
  ·rw[bB,bB,ih]
theorem kz {xs:List Nat}:bG xs=[]↔val xs=0:=by
 induction xs with
 |nil=>simp[bG,val]
 |cons x xs ih=>
  simp only[bG,val];split
  ·rename_i h;have:=ih.1 h.2;simp;omega
  ·rename_i h;simp only[reduceCtorEq,false_iff];intro h0;exact h ⟨by omega,ih.2 (by omega)⟩
theorem Wf.trim {xs:List Nat} (h:Wf xs):Wf (bG xs):=λy hy=>h y (a0k (by rw[<-dA];exact hy))
theorem Wf.take {xs:List Nat} (h:Wf xs) (k:Nat):Wf (xs.take k):=λy hy=>h y (a0k hy)
def jA:Nat->Nat->List Nat
 |0,_=>[]
 |f+1,n=>if n=0 then[]else n%10::jA f (n/10)
def limbs (n:Nat):List Nat:=jA n n
theorem sF (f:Nat):∀g n,n<=f->n<=g->jA f n=jA g n:=by
 induction f with
 |zero=>
  intro g n h1 _;obtain rfl:n=0:=by omega
  cases g<;>simp[jA]
 |succ f ih=>
  intro g n h1 h2;cases g with
  |zero=>obtain rfl:n=0:=by omega
         simp[jA]
  |succ g=>
   simp only[jA];split
   ·rfl
   ·rw[ih g _ (by omega) (by omega)]
theorem iy:limbs 0=[]:=rfl
theorem gT {n:Nat} (h:0<n):limbs n=n%10::limbs (n/10):=by
 unfold limbs;obtain⟨m,rfl⟩:∃m,n=m+1:=⟨n-1,by omega⟩;rw[jA,if_neg (by omega),sF m ((m+1)/10) _ (by omega) (a0w _)]
theorem di (xs:List Nat) (h:Wf xs):bG xs=limbs (val xs):=by
 induction xs with
 |nil=>rfl
 |cons x xs ih=>
  obtain⟨hx,hxs⟩:=h.cons;unfold bG;split
  ·rename_i h;have h0:val xs=0:=kz.1 h.2;rw[bB,h.1,h0];rfl
  ·rename_i h
   have hpos:0<val (x::xs):=by
    rw[bB];by_cases hx0:x=0
    ·have:val xs≠0:=λe=>h ⟨hx0,kz.2 e⟩
     omega
    ·omega
   rw[gT hpos,bB,ih hxs]
   congr 1
   ·omega
   ·congr 1;omega
theorem au (n:Nat):val (limbs n)=n:=by
 induction n using a0x with
 | _ n ih=>
  by_cases h:0<n
  ·rw[gT h,bB,ih _ (by omega)];omega
  ·obtain rfl:n=0:=by omega
   rfl
theorem eF (n:Nat):Wf (limbs n):=by
 induction n using a0x with
 | _ n ih=>
  by_cases h:0<n
  ·rw[gT h];intro x hx;rcases a0l.1 hx with rfl|hx
   ·omega
   ·exact ih _ (by omega) x hx
  ·obtain rfl:n=0:=by omega
   intro x hx;cases hx
theorem lQ (n:Nat):bG (limbs n)=limbs n:=by
 rw[di _ (eF n),au]
theorem fQ (n:Nat):nl (limbs n)=(limbs n).length:=by unfold nl;rw[lQ]
theorem Xc (xs:List Nat) (h:Wf xs):nl xs=(limbs (val xs)).length:=by unfold nl;rw[di _ h]
theorem val_append (xs ys:List Nat):val (xs++ys)=val xs+10^xs.length*val ys:=by
 induction xs with
 |nil=>simp[val]
 |cons x xs ih=>
  rw[a0m,bB,bB,ih,a0f,a0y,a0z,<-a0A,a0B 10 (10^_)];omega
theorem eG (xs:List Nat) (h:Wf xs):val xs<10^xs.length:=by
 induction xs with
 |nil=>simp[val]
 |cons x xs ih=>
  obtain⟨hx,hxs⟩:=h.cons;have:=ih hxs;rw[bB,a0f,a0y];have h2:10*(val xs+1)<=10*10^xs.length:=a0C _ this;rw[a0B (10^xs.length)];omega
theorem iA (k:Nat):val (a0n k 0)=0:=by
 induction k with
 |zero=>rfl
 |succ k ih=>rw[a0o,bB,ih]
theorem xW:∀(X Y:List Nat) (j:Nat),X.length=Y.length->j<X.length->Wf X->Wf Y->(∀i,j<i->i<X.length->X.getD i 0=Y.getD i 0)->X.getD j 0<Y.getD j 0->val X<val Y:=by
 intro X;induction X with
 |nil=>intro Y j _ hj;simp at hj
 |cons x X ih=>
  intro Y j hl hj hX hY heq hlt;cases Y with
  |nil=>simp at hl
  |cons y Y=>
   obtain⟨hx,ZG⟩:=hX.cons;obtain⟨hy,hY'⟩:=hY.cons;have hl':X.length=Y.length:=by simpa using hl
   rw[bB,bB];cases j with
   |zero=>
    have e:X=Y:=by
     apply a0p hl';intro i h1 h2;have:=heq (i+1) (by omega) (by simp;omega);simpa[a0h,h1,h2]using this
    have:x<y:=by simpa[a0h]using hlt
    rw[e];omega
   |succ j=>
    have:=ih Y j hl' (by simpa using hj) ZG hY' (λi h1 h2=>by
     have:=heq (i+1) (by omega) (by simp;omega);simpa[a0h]using this) (by simpa[a0h]using hlt)
    omega
theorem fC {xs:List Nat} (k:Nat) (h:nl xs=k+1):10^k<=val xs:=by
 induction xs generalizing k with
 |nil=>simp[nl,bG]at h
 |cons x xs ih=>
  rw[bB];unfold nl bG at h;split at h
  ·simp at h
  ·rename_i hn;simp only[a0f,a0D]at h;cases k with
   |zero=>
    have h0:bG xs=[]:=a0q h;have:x≠0:=λe=>hn ⟨e,h0⟩
    simp only[a0E];omega
   |succ k=>
    have:=ih k h;rw[a0y];omega
theorem gZ {xs ys:List Nat} (hx:Wf xs) (h:nl xs<nl ys):val xs<val ys:=by
 have h1:val xs<10^(nl xs):=by rw[<-eX xs];exact eG _ hx.trim
 obtain⟨k,hk⟩:∃k,nl ys=k+1:=⟨nl ys-1,by omega⟩;have h2:=fC k hk;have h3:10^(nl xs)<=10^k:=a0F (by omega) (by omega);omega
theorem BJ {xs ys:List Nat} (hx:Wf xs) (hy:Wf ys) (h:nl xs≠nl ys):gG (val xs) (val ys)=if nl ys<nl xs then 1 else-1:=by
 unfold gG;by_cases h1:nl ys<nl xs
 ·have:=gZ hy h1;rw[if_pos h1,if_neg (by omega),if_neg (by omega)]
 ·have:=gZ hx (show nl xs<nl ys by omega);rw[if_neg h1,if_pos this]
theorem KV {xs ys:List Nat} (hx:Wf xs) (hy:Wf ys) (n j:Nat) (h1:nl xs=n) (h2:nl ys=n) (hj:j<n) (heq:∀i,j<i->i<n->xs.getD i 0=ys.getD i 0) (hne:xs.getD j 0≠ys.getD j 0):
  gG (val xs) (val ys)=if ys.getD j 0<xs.getD j 0 then 1 else-1:=by
 have key:∀(a b:List Nat),Wf a->Wf b->nl a=n->nl b=n->(∀i,j<i->i<n->a.getD i 0=b.getD i 0)->a.getD j 0<b.getD j 0->val a<val b:=by
  intro a b ha hb na nb he hl;rw[<-eX a,<-eX b];have la:(bG a).length=n:=na;have lb:(bG b).length=n:=nb;refine xW _ _ j (by omega) (by omega) ha.trim hb.trim (λi h3 h4=>?_) ?_
  ·rw[fK a i (by omega),fK b i (by omega)];exact he i h3 (by omega)
  ·rw[fK a j (by omega),fK b j (by omega)];exact hl
 unfold gG;by_cases hlt:ys.getD j 0<xs.getD j 0
 ·have:=key ys xs hy hx h2 h1 (λi h3 h4=>(heq i h3 h4).symm) hlt;rw[if_pos hlt,if_neg (by omega),if_neg (by omega)]
 ·have:=key xs ys hx hy h1 h2 heq (by omega);rw[if_neg hlt,if_pos this]
theorem BK {xs ys:List Nat} (n:Nat) (h1:nl xs=n) (h2:nl ys=n) (heq:∀i,i<n->xs.getD i 0=ys.getD i 0):gG (val xs) (val ys)=0:=by
 have:bG xs=bG ys:=by
  have la:(bG xs).length=n:=h1;have lb:(bG ys).length=n:=h2;apply a0p (by omega);intro i h3 h4;have:=heq i (by omega);rw[<-fK xs i (by omega),<-fK ys i (by omega)]at this;simpa[a0h,h3,h4]using this
 unfold gG;rw[<-eX xs,<-eX ys,this,if_neg (by omega),if_pos rfl]
theorem jW:∀(ys:List Nat) (k v:Nat),k<ys.length->val (ys.set k v)+10^k*ys.getD k 0=val ys+10^k*v
 |[],k,v,h=>by simp at h
 |y::ys,0,v,_=>by simp[val,a0h];omega
 |y::ys,k+1,v,h=>by
  have ih:=jW ys k v (by simpa using h);have e:(y::ys).getD (k+1) 0=ys.getD k 0:=by simp[a0h]
  rw[e,a0s,bB,bB,a0y,a0B (10^k) 10,a0A,a0A];omega
theorem bE (ys:List Nat) (k:Nat) (h:k<ys.length):val (ys.take (k+1))=val (ys.take k)+10^k*ys.getD k 0:=by
 rw[dw ys k h,val_append,a0g,a0I (by omega),bB,dY,a0J,a0K]
theorem lX {ys:List Nat} {k y c S T:Nat} (hk:k<ys.length) (h:val ys+10^k*c=S+T):
  val (ys.set k ((ys.getD k 0+y+c)%10))+10^(k+1)*((ys.getD k 0+y+c)/10)=S+(T+10^k*y):=by
 have h1:=jW ys k ((ys.getD k 0+y+c)%10) hk;generalize ys.getD k 0=u at*
 have h2:10^k*((u+y+c)%10)+10^(k+1)*((u+y+c)/10)=10^k*u+10^k*y+10^k*c:=by
  rw[a0y,a0A,<-a0z,<-a0z,<-a0z]
  congr 1
  omega
 omega
def jG (u y c:Nat):Nat:=(u+10-y-c)%10
def jM (u y c:Nat):Nat:=if u<y+c then 1 else 0
theorem sw {ys:List Nat} {k y c S T:Nat} (hk:k<ys.length) (hu:ys.getD k 0<10) (hy:y<10) (hc:c<=1) (h:val ys+T=S+10^k*c):
  val (ys.set k (jG (ys.getD k 0) y c))+(T+10^k*y)=S+10^(k+1)*jM (ys.getD k 0) y c:=by
 have h1:=jW ys k (jG (ys.getD k 0) y c) hk;generalize ys.getD k 0=u at*
 have h2:10^k*jG u y c+10^k*y+10^k*c=10^k*u+10^(k+1)*jM u y c:=by
  rw[a0y,a0A,<-a0z,<-a0z,<-a0z]
  congr 1
  unfold jG jM;split<;>omega
 omega
theorem qJ (u y c:Nat):jG u y c<10:=a0L _ (by omega)
theorem wW (u y c:Nat):jM u y c<=1:=by unfold jM;split<;>omega
theorem FO {ys:List Nat} {n k c S:Nat} (h:val ys+10^k*c=S) (hS:S<10^(n+1)) (hk:k<=n+1) (hc:c<=1):c=0∨k<=n:=by
 rcases a0M n k with hlt|hge
 ·left
  obtain rfl:k=n+1:=by omega
  rcases a0N c with h0|h0
  ·exact h0
  ·obtain rfl:c=1:=by omega
   omega
 ·right;exact hge
theorem sum_lt {a b n:Nat} (ha:a<10^n) (hb:b<10^n):a+b<10^(n+1):=by
 rw[a0y];omega
theorem sG {xs:List Nat} (h:Wf xs) (n:Nat) (hn:n<=xs.length):val (xs.take n)<10^n:=by
 have:=eG _ (h.take n);rwa[a0g,a0I hn]at this
theorem vE (xs:List Nat):val (xs.take (nl xs))=val xs:=by rw[<-dA,eX]
theorem lG {xs:List Nat} (h:Wf xs) (n:Nat) (hn:nl xs<=n):val xs<10^n:=by
 have h1:=eG _ h.trim;rw[eX]at h1;have:(bG xs).length<=n:=hn;exact a0O h1 (a0F (by omega) this)
theorem iL (zs:List Nat) (i:Nat) (h:i<zs.length):val (zs.drop i)=zs.getD i 0+10*val (zs.drop (i+1)):=by
 rw[a0t h,bB];simp[a0h,h]
theorem qK (xs:List Nat) (hw:Wf xs) (k:Nat):val (xs.drop k)=val xs/10^k:=by
 by_cases hk:k<=xs.length
 ·have h:=val_append (xs.take k) (xs.drop k);rw[a0u,a0g,a0I hk]at h;have hl:=sG hw k hk;rw[h,a0W _ _ (a0X (by omega)),a0Y hl,a0Z]
 ·rw[a0v (by omega),dY];have:=eG xs hw;have h2:10^xs.length<=10^k:=a0F (by omega) (by omega);exact(a0Y (by omega)).symm
theorem Mq (xs:List Nat) (hw:Wf xs) (k:Nat):val ((bG xs).drop k)=val xs/10^k:=by
 rw[qK _ hw.trim,eX]
end Go.Proofs.YtmenbpmciblnlaaGreatDoor.Dg

import Derived.Test.YtmenbpmciblnlaaGreatDoorVaKn
set_option maxHeartbeats 0
set_option maxRecDepth 100000
open Go.Value renaming bool->ah6,slice->ah5
namespace Go.Proofs.YtmenbpmciblnlaaGreatDoor
open Go.RowKit
section
variable {p q:List ai} {D E:Nat} {c:Int}
theorem EB.of (h:∀t∈p,∀x∈t.2,x.2<=(D:Int)):EB p D:=λt ht u=>AB (h t ht) u
theorem EB.dK (h:EB p D) (u:Nat):Go.Proofs.YtmenbpmciblnlaaGreatDoor.dK p u<=D:=by
 unfold Go.Proofs.YtmenbpmciblnlaaGreatDoor.dK;rcases pR p (u:Int)with h0|⟨t,ht,h1⟩
 ·omega
 ·have:=h t ht (u:Int);omega
theorem EB.add (hp:bD p) (hq:gG q) (h:EB p D) (k:EB q D):EB (eu p q) D:=λx hx u=>by
 obtain⟨y,hy|hy,e⟩:=Ht hp hq hx
 ·rw[<-e];exact h y hy u
 ·rw[<-e];exact k y hy u
theorem EB.Ao (hp:bD p) (hq:bD q) (hf:kC p q) (h:EB p D) (k:EB q E):EB (df p q) ((D+E:Nat):Int):=λx hx u=>by
 obtain⟨t,ht,s,hs,e⟩:=yO hf hx (oz hp hq hf);rw[e,fg (bG hp t ht) (bG hq s hs)];have:=h t ht u;have:=k s hs u;omega
def Cl (p:List ai) (c:Int):Prop:=∀t∈p,∀v,c<v->aI t.2 v=0
theorem Cl.of (hp:bD p) (h:bA p<=c):Cl p c:=λt ht v hv=>mg (bG hp t ht) (by have:=np hp ht;omega)
theorem Cl.le (hp:bD p) (h:Cl p c) (h0:0<=c):bA p<=c:=by
 by_cases hc:bA p<=c
 ·exact hc
 ·have h1:=yP hp (by omega);rcases pR p (bA p)with e|⟨t,ht,e⟩
  ·omega
  ·have:=h t ht (bA p) (by omega);omega
theorem Cl.add (hp:bD p) (hq:gG q) (h:Cl p c) (k:Cl q c):Cl (eu p q) c:=λx hx v hv=>by
 obtain⟨y,hy|hy,e⟩:=Ht hp hq hx
 ·rw[<-e];exact h y hy v hv
 ·rw[<-e];exact k y hy v hv
theorem Cl.Ao (hp:bD p) (hq:bD q) (hf:kC p q) (h:Cl p c) (k:Cl q c):Cl (df p q) c:=λx hx v hv=>by
 obtain⟨t,ht,s,hs,e⟩:=yO hf hx (oz hp hq hf);rw[e,fg (bG hp t ht) (bG hq s hs),h t ht v hv,k s hs v hv];rfl
end
theorem Hu (X:Nat):∀{p:List ai},(∀t∈p,t.1.natAbs<=X)->bY p<=p.length*X
 |[],_=>by simp[bY]
 |t::r,h=>by
  have h1:=h t (by simp);have h2:=Hu X (p:=r) λs hs=>h s (by simp[hs])
  simp only[bY,List.length_cons,Nat.add_mul,Nat.one_mul];omega
theorem rP {p:List ai} {K:Nat} (h:∀t∈p,Bd t.1 K) (hl:p.length<=1000):bY p<4294967296^(K+1):=by
 have h1:=Hu (4294967296^K) λt ht=>Nat.le_of_lt (h t ht)
 have h2:p.length*4294967296^K<=1000*4294967296^K:=Nat.mul_le_mul_right _ hl;have h3:0<4294967296^K:=Nat.pow_pos (by omega);rw[Nat.pow_succ];omega
theorem LU {p q:List ai} {K:Nat} (h:bY p<4294967296^K) (k:bY q<4294967296^K):bY (eu p q)<4294967296^(K+1):=by
 have h1:=vQ q p;have h3:0<4294967296^K:=Nat.pow_pos (by omega);rw[Nat.pow_succ];omega
theorem EZ {p q:List ai} {K L:Nat} (h:bY p<4294967296^K) (k:bY q<4294967296^L):bY (df p q)<4294967296^(K+L):=by
 rw[Nat.pow_add];exact Nat.lt_of_le_of_lt (E8 p q) (Nat.mul_lt_mul_of_lt_of_lt h k)
theorem vO [Ol] {K:Nat} {w:World} {ao:Z'} {n ae:Nat} {p:List ai} (h:Pc K w ao n ae p):∀t∈p,Bd t.1 K:=by
 obtain⟨X,_,h2⟩:=h.ex
 have:∀{X:List (List Value)} {p:List ai},bV (gL K w) X p->∀t∈p,Bd t.1 K:=by
  intro X;induction X with
  |nil=>intro p h t ht;cases p with
   |nil=>cases ht
   |cons a r=>exact h.elim
  |cons x X ih=>intro p h t ht;cases p with
   |nil=>cases ht
   |cons a r=>
    rcases List.mem_cons.1 ht with rfl|ht
    ·obtain⟨m,ao,n,ae,bo,k,cb,_,_,h3,_⟩:=h.1;exact h3
    ·exact ih h.2 t ht
 exact this h2
def XD (w:World) (e:Ending) (w':World) (er:Int):Prop:=∃m a n c k b l d,e= .returned (.tuple #[.agg #[ah6 m,ah5 a n c,ah6 k,ah5 b l d],.int .i64 er])/\ Below w.heap.size w w'
def yg (ps:List kr) (m:Nat):Prop:=jZ ps=true/\ bA (ps.map iP)<=(m:Int)
structure Hq (ps:List kr):Prop where
 n:ps.length<=12
 l:∀t∈ps,t.1.2.length<=20
 e:∀t∈ps,∀x∈t.2,x.2<=12
theorem Hq.of {ps:List kr} {rs:List ly} (h:dZ ps rs=false):Hq ps:=by
 obtain⟨h1,_,h3,_⟩:=nj h;obtain⟨a,b⟩:=Jd h1;exact⟨by omega,λt ht=>(a t ht).1,h3⟩
section
variable {ao bo po:Option Addr} {n ae m cb pn pc:Nat} {ps qs:List kr} {w:World} {l:List Rat}
theorem Hq.eb (h:Hq ps):EB (ps.map iP) ((12:Nat):Int):=EB.of λt ht x hx=>by
 obtain⟨s,hs,rfl⟩:=List.mem_map.1 ht;exact h.e s hs x hx
theorem Az [Ol] (hp:Pr w ao n ae ps) (h:Hq ps) (hm:jZ ps=true):Pc 20 w ao n ae (ps.map iP)/\ bD (ps.map iP)/\ n<=12:=by
 obtain⟨h1,h2⟩:=rQ hp.wfs hm;exact⟨Pr.pc (h2▸hp) (h2▸h.l),h1,by rw[<-hp.len];exact h.n⟩
theorem Hr [Ol] (hp:Pr w ao n ae ps) (h:Hq ps) (ho:yg ps pn) (hq:Pt w po pn pc l 3) (hl:Lq 3 l):
  Calls Tryz.prog 10 #[ah5 ao n ae,ah5 po pn pc] w (SP w (rv (rO l) (ps.map iP)) 820 0):=by
 obtain⟨h1,h2,h3⟩:=Az hp h ho.1;exact vg (j:=3) h1 h2 (by omega) ho.2 (λu=>Nat.le_trans (h.eb.dK u) (by omega)) (by omega) hq (ye.TQ h.eb.dK hl (rP (vO h1) (by rw[h1.len];omega)) (by omega) (by omega))
theorem LR [Ol] (hp:Pr w ao n ae ps) (h:Hq ps) (ho:¬yg ps pn):∃er:Int,(er !=0)=true/\ Calls Tryz.prog 10 #[ah5 ao n ae,ah5 po pn pc] w (cr (.tuple #[.agg #[ah6 false,ah5 none 0 0,ah6 false,ah5 none 0 0],.int .i64 er]) w):=by
 by_cases hm:jZ ps=true
 ·have hc:(pn:Int)<bA (ps.map iP):=by
   by_cases hc:bA (ps.map iP)<=(pn:Int)
   ·exact absurd ⟨hm,hc⟩ ho
   ·omega
  obtain⟨h1,h2,h3⟩:=Az hp h hm;exact⟨5,rfl,Hv rfl λV hV=>AD (h1.below hV) h2 (by omega) hc⟩
 ·exact⟨2,rfl,Hv rfl λV hV=>CA (hp.below hV) (λt ht=>Nat.le_trans (h.l t ht) (by omega)) (by simpa using hm)⟩
theorem TP [Ol] (hp:Pr w ao n ae ps) (h:Hq ps) (hq:Pt w po pn pc l 3) (hl:Lq 3 l):∃er:Int,Calls Tryz.prog 10 #[ah5 ao n ae,ah5 po pn pc] w (λe w'=>XD w e w' er):=by
 by_cases ho:yg ps pn
 ·exact⟨0,(Hr hp h ho hq hl).mono λe w' ⟨m,a,n,c,k,b,l,d,h1,_,h2⟩=>⟨m,a,n,c,k,b,l,d,h1,h2⟩⟩
 ·obtain⟨er,_,h⟩:=LR (po:=po) (pc:=pc) hp h ho;exact⟨er,h.mono λe w' h=>⟨_,_,_,_,_,_,_,_,h.1,h.2⟩⟩
end
theorem vP [Ol] {m k m2 k2:Bool} {a b a2 b2:Z'} {n c l d n2 c2 l2 d2:Nat} {q r:Rat} {j i:Nat} {w:World} (hx:Rc w m a n c k b l d q j) (hy:Rc w m2 a2 n2 c2 k2 b2 l2 d2 r i) (h:q=r) (hj:1<=j) (hi:1<=i) (hji:j+i+1<=100000):
  Calls Tryz.prog 27 #[.agg #[ah6 m,ah5 a n c,ah6 k,ah5 b l d],.agg #[ah6 m2,ah5 a2 n2 c2,ah6 k2,ah5 b2 l2 d2],.int .i64 0,.int .i64 0] w (cr (ah6 true) w):=by
 have hz:qs (q-r)=0:=by rw[h,Rat.sub_self];decide+kernel
 have HX:Hid (∀V,Below w.heap.size w V->Rc V m a n c k b l d q j/\ Rc V m2 a2 n2 c2 k2 b2 l2 d2 r i):=λV hV=>⟨hx.aW hV,hy.aW hV⟩
 have HZ:=Lib.hid hz;clear hx hy hz h;go_enter Tryz.func27,Tryz.ntmps27;go_upto_region 1 with(fail)
 refine aj (λW hW=>?_);have a4:aS W w.heap.size [ah6 m,ah5 a n c,ah6 k,ah5 b l d] 31/\ aS W (w.heap.size+1) [ah6 m2,ah5 a2 n2 c2,ah6 k2,ah5 b2 l2 d2] 31/\ Below w.heap.size w W:=by rw[hW];exact Je w _ _ _ _
 have HB:=Lib.hid a4.2.2;obtain⟨x0,x1,x2,x3⟩:=a4.1.q4;obtain⟨y0,y1,y2,y3⟩:=a4.2.1.q4;clear hW a4;go_wp2_with fail;refine(L1 0 (HX.o W HB.o).1.rx (HX.o W HB.o).2.rx hj hi hji HZ.o).mono ?_;rintro e w1 ⟨rfl,hB⟩;have HB1:=Lib.hid (Below.ar HB.o hB);clear hB x0 x1 x2 x3 y0 y1 y2 y3;go_wp2_with fail;go_ret;exact⟨rfl,HB1.o⟩
end Go.Proofs.YtmenbpmciblnlaaGreatDoor

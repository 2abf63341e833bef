/- VaSign, VaRgP, VaRg, VaRAtP, VaRAt -/
import Derived.Test.YtmenbpmciblnlaaGreatDoorVaKn
set_option maxHeartbeats 0
set_option maxRecDepth 100000
open And renaming intro->a0a
open Go.Value renaming slice->a0b
open List renaming getD->a0e,getElem_mem->a0g,mem_cons->a0c,take_of_length_le->a0h,take_succ_eq_append_getElem->a0d,take_zero->a0f
open Option.some renaming inj->a0i
namespace Go.Proofs.YtmenbpmciblnlaaGreatDoor
open Lib (hid)
open Go.RowKit
theorem Mx [Ol] {K J j:Nat} {ao po:Option Addr} {n cap pn pc:Nat} {w:World} {l:List Rat} {p:List Term} (z:Int) (hp:Pc K w ao n cap p) (hf:fall p) (hK:1<=K/\ K<=1000/\ K<=J/\ J<=30000/\ 1<=j/\ j<=30) (hc:bC p<=(pn:Int)) (hdg:∀u,fD p u<=999) (hn:n<=100000) (hq:Pt w po pn pc l j) (hJ:Big p (Cf l) (Cg l) J) (hz:qs (rv (kM l) p)=z):
  Calls Tryz.prog 11 #[a0b ao n cap,a0b po pn pc] w (cu (.tuple #[.int .i64 z,.int .i64 0]) w):=by
 have HB:=yh hp hf hK hc hdg hn hq hJ;have XA:=hid HB;have HZ:=hid hz;clear HB hp hf hc hdg hn hq hJ hz;go_enter Tryz.func11,Tryz.ntmps11;go_wp2_with fail;refine XA.out.mono ?_;rintro e w1 ⟨x,d,m1,a1,n1,c1,k1,d1,l1,e1,rfl,hX1,hX2,h0,hv,hB⟩;obtain⟨b6,hb6⟩:∃b,b=w1.heap.size:=⟨_,rfl⟩;go_upto_region 2 with(fail)
 refine aj (λW2 hW=>?_);have a6:bD W2 b6 [.bool m1,a0b a1 n1 c1,.bool k1,a0b d1 l1 e1] 31/\ Below w1.heap.size w1 W2:=by rw[hW,hb6];exact jC w1 _ 31
 rw[<-hb6]
 have HR:Hid (Rx W2 m1 a1 n1 c1 k1 d1 l1 e1 x d (rv (kM l) p) J):=by
  have h:=oV (hX1.below' a6.2) (hX2.below' a6.2);have e:qv x d=rv (kM l) p:=by rw[<-hv,PO (by omega)]
  rw[e]at h;exact h
 have HS:=hid (Below.steps hB a6.2);obtain⟨x0,x1,x2,x3⟩:=a6.1.q4;clear hW hb6 a6 hB hX1 hX2 h0 hv;go_wp2_with fail;refine(CU z HR.out (by omega) HZ.out).mono ?_;rintro e w3 ⟨rfl,hB⟩;have HB3:=hid (Below.steps HS.out hB);clear hB x0 x1 x2 x3;go_wp2_with fail;refine bodyPost_ret (v:= .tuple #[.int .i64 z,.int .i64 0]) (by simp[results,Tryz.results11,go_sem]) rfl ?_;exact⟨rfl,HB3.out⟩
theorem CS [Ol] {ao po:Option Addr} {n cap pn pc:Nat} {w:World} {er:Int} (h:Calls Tryz.prog 40 #[a0b ao n cap,a0b po pn pc] w (cu (.tuple #[.agg #[.bool false,a0b none 0 0,.bool false,a0b none 0 0],.int .i64 er]) w)):
  Calls Tryz.prog 11 #[a0b ao n cap,a0b po pn pc] w (cu (.tuple #[.int .i64 0,.int .i64 er]) w):=by
 have XA:=hid h;clear h;go_enter Tryz.func11,Tryz.ntmps11;go_wp2_with fail;refine XA.out.mono ?_;rintro e w1 ⟨rfl,hB⟩;obtain⟨b6,hb6⟩:∃b,b=w1.heap.size:=⟨_,rfl⟩;go_upto_region 2 with(fail)
 refine aj (λW2 hW=>?_);have a6:bD W2 b6 [.bool false,a0b none 0 0,.bool false,a0b none 0 0] 31/\ Below w1.heap.size w1 W2:=by rw[hW,hb6];exact jC w1 _ 31
 rw[<-hb6];have HS:=hid (Below.steps hB a6.2);obtain⟨x0,x1,x2,x3⟩:=a6.1.q4;clear hW hb6 a6 hB;go_wp2_with fail;refine(CU (j:=1) 0 (Lb W2) (by omega) (by decide+kernel)).mono ?_;rintro e w3 ⟨rfl,hB⟩;have HB3:=hid (Below.steps HS.out hB);clear hB x0 x1 x2 x3;go_wp2_with fail;refine bodyPost_ret (v:= .tuple #[.int .i64 0,.int .i64 er]) (by simp[results,Tryz.results11,go_sem]) rfl ?_;exact⟨rfl,HB3.out⟩
section
variable {p q:List Term} {D E:Nat} {c:Int}
theorem EB.of (h:∀t∈p,∀x∈t.2,x.2<=(D:Int)):EB p D:=λt ht u=>Ej (h t ht) u
theorem EB.fD (h:EB p D) (u:Nat):Go.Proofs.YtmenbpmciblnlaaGreatDoor.fD p u<=D:=by
 unfold Go.Proofs.YtmenbpmciblnlaaGreatDoor.fD;rcases qd p (u:Int)with h0|⟨t,ht,h1⟩
 ·omega
 ·have:=h t ht (u:Int);omega
theorem EB.add (hp:fall p) (hq:jJ q) (h:EB p D) (k:EB q D):EB (jk p q) D:=λx hx u=>by
 obtain⟨y,hy|hy,e⟩:=Lc hp hq hx
 ·rw[<-e];exact h y hy u
 ·rw[<-e];exact k y hy u
theorem EB.times (hp:fall p) (hq:fall q) (hf:rf p q) (h:EB p D) (k:EB q E):EB (iV p q) ((D+E:Nat):Int):=λx hx u=>by
 obtain⟨t,ht,s,hs,e⟩:=CV hf hx (yj hp hq hf);rw[e,kY (bU hp t ht) (bU hq s hs)];have:=h t ht u;have:=k s hs u;omega
def Cl (p:List Term) (c:Int):Prop:=∀t∈p,∀v,c<v->aJ t.2 v=0
theorem Cl.of (hp:fall p) (h:bC p<=c):Cl p c:=λt ht v hv=>mK (bU hp t ht) (by have:=mr hp ht;omega)
theorem Cl.le (hp:fall p) (h:Cl p c) (h0:0<=c):bC p<=c:=by
 by_cases hc:bC p<=c
 ·exact hc
 ·have h1:=CW hp (by omega);rcases qd p (bC p)with e|⟨t,ht,e⟩
  ·omega
  ·have:=h t ht (bC p) (by omega);omega
theorem Cl.add (hp:fall p) (hq:jJ q) (h:Cl p c) (k:Cl q c):Cl (jk p q) c:=λx hx v hv=>by
 obtain⟨y,hy|hy,e⟩:=Lc hp hq hx
 ·rw[<-e];exact h y hy v hv
 ·rw[<-e];exact k y hy v hv
theorem Cl.times (hp:fall p) (hq:fall q) (hf:rf p q) (h:Cl p c) (k:Cl q c):Cl (iV p q) c:=λx hx v hv=>by
 obtain⟨t,ht,s,hs,e⟩:=CV hf hx (yj hp hq hf);rw[e,kY (bU hp t ht) (bU hq s hs),h t ht v hv,k s hs v hv];rfl
end
theorem Ld (X:Nat):∀{p:List Term},(∀t∈p,t.1.natAbs<=X)->fA p<=p.length*X
 |[],_=>by simp[fA]
 |t::r,h=>by
  have h1:=h t (by simp);have h2:=Ld X (p:=r) λs hs=>h s (by simp[hs])
  simp only[fA,List.length_cons,Nat.add_mul,Nat.one_mul];omega
theorem Ug {p:List Term} {K:Nat} (h:∀t∈p,Bd t.1 K) (hl:p.length<=1000):fA p<4294967296^(K+1):=by
 have h1:=Ld (4294967296^K) λt ht=>Nat.le_of_lt (h t ht)
 have h2:p.length*4294967296^K<=1000*4294967296^K:=Nat.mul_le_mul_right _ hl;have h3:0<4294967296^K:=Nat.pow_pos (by omega);rw[Nat.pow_succ];omega
theorem Xz [Ol] {K:Nat} {w:World} {ao:Option Addr} {n cap:Nat} {p:List Term} (h:Pc K w ao n cap p):∀t∈p,Bd t.1 K:=by
 obtain⟨X,_,h2⟩:=h.ex
 have:∀{X:List (List Value)} {p:List Term},cB (kD K w) X p->∀t∈p,Bd t.1 K:=by
  intro X;induction X with
  |nil=>intro p h t ht;cases p with
   |nil=>cases ht
   |cons a r=>exact h.elim
  |cons x X ih=>intro p h t ht;cases p with
   |nil=>cases ht
   |cons a r=>
    rcases a0c.1 ht with rfl|ht
    ·obtain⟨m,ao,n,cap,bo,k,cb,_,_,h3,_⟩:=h.1;exact h3
    ·exact ih h.2 t ht
 exact this h2
structure Wv (ps:List Raw):Prop where
 n:ps.length<=12
 l:∀t∈ps,t.1.2.length<=20
 e:∀t∈ps,∀x∈t.2,x.2<=12
theorem Wv.of {ps:List Raw} {rs:List oC} (h:iU ps rs=false):Wv ps:=by
 obtain⟨h1,_,h3,_⟩:=qb h;obtain⟨a,b⟩:=sM h1;exact⟨by omega,λt ht=>(a t ht).1,h3⟩
section
variable {ao bo po:Option Addr} {n cap m cb pn pc:Nat} {ps qs:List Raw} {w:World} {l:List Rat}
theorem Wv.eb (h:Wv ps):EB (ps.map mq) ((12:Nat):Int):=EB.of λt ht x hx=>by
 obtain⟨s,hs,rfl⟩:=List.mem_map.1 ht;exact h.e s hs x hx
theorem PG [Ol] (hp:Pr w ao n cap ps) (h:Wv ps) (hm:kX ps=true):Pc 20 w ao n cap (ps.map mq)/\ fall (ps.map mq)/\ n<=12:=by
 obtain⟨h1,h2⟩:=vL hp.wfs hm;exact⟨Pr.pc (h2▸hp) (h2▸h.l),h1,by rw[<-hp.len];exact h.n⟩
end
theorem Jv [Ol] {w w':World} {g:Nat} (hc:eO w g) (hG:w.grownBy w' (some g)) {ao:Option Addr} {n cap:Nat} {xs:List Nat} (h:Dg.Sl w ao n cap xs):Dg.Sl w' ao n cap xs:=
 ⟨h.len,h.le,h.big,h.wf,h.nil,λad had t ht=>nT hc hG (h.cells ad had t ht),λh0 ad had=>by
  obtain⟨x,hx⟩:=h.int h0 had;exact(h.kp h0 ad had).grown (h.blt h0 had) hG λeq=>hc.far hx (a0i eq)⟩
theorem Zx.fM [Ol] {w w':World} {g:Nat} (hc:eO w g) (hG:w.grownBy w' (some g)) {m:Bool} {ao:Option Addr} {n cap:Nat} {z:Int} (h:Zx w m ao n cap z):Zx w' m ao n cap z:=⟨⟨h.zd.neg,Jv hc hG h.zd.sl⟩,h.le⟩
section
variable {w w':World} {m k:Bool} {a b:Option Addr} {n c l d:Nat} {x y:Int} {q:Rat} {j i g:Nat}
theorem Qx.fM [Ol] (hc:eO w g) (hG:w.grownBy w' (some g)) (h:Qx w m a n c k b l d x y q j):Qx w' m a n c k b l d x y q j:=⟨h.num.fM hc hG,h.den.fM hc hG,h.nz,h.val,h.bn,h.bd⟩
theorem Qx.oD [Ol] (h:Qx w m a n c k b l d x y q j) (hb:Below w.heap.size w w'):Qx w' m a n c k b l d x y q j:=⟨h.num.below hb,h.den.below hb,h.nz,h.val,h.bn,h.bd⟩
theorem Qx.mono [Ol] (h:Qx w m a n c k b l d x y q j) (hi:j<=i):Qx w m a n c k b l d x y q i:=⟨h.num,h.den,h.nz,h.val,h.bn.mono hi,h.bd.mono hi⟩
end
def QV [Ol] (w:World) (g:Nat) (q:Rat) (j:Nat):Prop:=∃m a n c k b l d x y,bD w g [.bool m,a0b a n c,.bool k,a0b b l d] 47/\ Qx w m a n c k b l d x y q j
theorem sN (m:Bool) (a:Option Addr) (n c:Nat) (k:Bool) (b:Option Addr) (l d:Nat):Clean [.bool m,a0b a n c,.bool k,a0b b l d]:=λu hu=>by simp at hu;rcases hu with rfl|rfl|rfl|rfl<;>rfl
section
variable {w w':World} {g h:Nat} {q r:Rat} {i j:Nat}
theorem QV.below [Ol] (hq:QV w g q j) (hb:Below w.heap.size w w'):QV w' g q j:=by
 obtain⟨m,a,n,c,k,b,l,d,x,y,h1,h2⟩:=hq;exact⟨m,a,n,c,k,b,l,d,x,y,h1.below hb,h2.oD hb⟩
theorem QV.mono [Ol] (hq:QV w g q j) (hi:j<=i):QV w g q i:=by
 obtain⟨m,a,n,c,k,b,l,d,x,y,h1,h2⟩:=hq;exact⟨m,a,n,c,k,b,l,d,x,y,h1,h2.mono hi⟩
end
theorem Lf {w:World} {g:Nat} {v0 v1 v2 v3:Value} {T:TypeId} (h:bD w g [v0,v1,v2,v3] T) (m:Bool) (a:Option Addr) (n c:Nat) (k:Bool) (b:Option Addr) (l d:Nat):
  bD ((((w.setCell ⟨g,0,none⟩ (.bool m)).setCell ⟨g,1,none⟩ (a0b a n c)).setCell ⟨g,2,none⟩ (.bool k)).setCell ⟨g,3,none⟩ (a0b b l d)) g [.bool m,a0b a n c,.bool k,a0b b l d] T/\ w.grownBy ((((w.setCell ⟨g,0,none⟩ (.bool m)).setCell ⟨g,1,none⟩ (a0b a n c)).setCell ⟨g,2,none⟩ (.bool k)).setCell ⟨g,3,none⟩ (a0b b l d)) (some g):=
 ⟨(((h.set 0 _).set 1 _).set 2 _).set 3 _,dS (dS (dS (bV _ _ _ _) (bV _ _ _ _)) (bV _ _ _ _)) (bV _ _ _ _)⟩
theorem QV.far [Ol] {w w':World} {g h:Nat} {q:Rat} {j:Nat} (hq:QV w g q j) (hc:eO w h) (hG:w.grownBy w' (some h)) (hne:g≠h):QV w' g q j:=by
 obtain⟨m,a,n,c,k,b,l,d,x,y,h1,h2⟩:=hq;exact⟨m,a,n,c,k,b,l,d,x,y,h1.apart hG (λe=>hne (a0i e)),h2.fM hc hG⟩
theorem vM:∀(l:List (Int×Int)) (lo:Int) (k:Nat) (hk:k<l.length),aZ lo l=true->(lo<l[k].1/\ l[k].1<=200/\ 0<l[k].2)/\∀q∈l.take k,q.1<l[k].1
 |[],_,_,hk,_=>by simp at hk
 |p::r,lo,k,hk,hm=>by
  unfold aZ El at hm;simp only[Bool.and_eq_true,decide_eq_true_eq]at hm;obtain⟨⟨h1,h2,h3,h4⟩,h5⟩:=hm;cases k with
  |zero=>exact⟨⟨by simpa using h1,by simp;omega,by simp;omega⟩,λq hq=>by simp at hq⟩
  |succ k=>
   obtain⟨⟨a,b,c⟩,d⟩:=vM r p.1 k (by simpa using hk) h5;refine⟨⟨by simp only[List.getElem_cons_succ];omega,b,c⟩,λq hq=>?_⟩;simp only[List.take_succ_cons,a0c]at hq;rcases hq with rfl|hq
   ·exact a
   ·exact d q hq
theorem PS {m:List (Int×Int)} (hm:aZ 0 m=true) {k:Nat} (hk:k<m.length):aJ m m[k].1=m[k].2:=by
 have h:=(vM m 0 k hk hm).2;have e:m=m.take k++(m[k]::m.drop (k+1)):=by rw[<-List.drop_eq_getElem_cons hk,List.take_append_drop]
 have:=vN (ys:=m[k]::m.drop (k+1)) (λp hp=>Int.ne_of_lt (h p hp));rw[<-e]at this;rw[this];simp[aJ]
theorem Ui {m:List (Int×Int)} (hm:aZ 0 m=true) {k:Nat} (hk:k<m.length) (ρ:Nat->Rat):rM ρ (m.take (k+1))=rM ρ (m.take k)*ρ (m[k].1).toNat^(m[k].2).toNat:=by
 obtain⟨⟨h1,h2,h3⟩,h4⟩:=vM m 0 k hk hm
 have hx:∀u:Int,aJ (m.take (k+1)) u=if u=m[k].1 then m[k].2 else aJ (m.take k) u:=λu=>by
  rw[a0d hk];exact sO h4
 have h0:aJ (m.take k) m[k].1=0:=by
  have:=vN (ys:=[]) (λp hp=>Int.ne_of_lt (h4 p hp));rw[List.append_nil]at this;exact this
 unfold rM;rw[rq (f:=Em (m.take (k+1))) (g:=λu=>Em (m.take k) u+(if u=(m[k].1).toNat then(m[k].2).toNat else 0)) (σ:=ρ) 201 (λu _=>?_) (λ_ _ _=>rfl),Jw,Jy,if_pos (by omega)];unfold Em;rw[hx];by_cases hu:(u:Int)=m[k].1
 ·rw[if_pos hu,if_pos (by omega),hu,h0];simp
 ·rw[if_neg hu,if_neg (by omega),Nat.add_zero]
theorem Uj (ρ:Nat->Rat) {p:List Term} {i:Nat} (hi:i<p.length):rv ρ (p.take (i+1))=rv ρ (p.take i)+(p[i].1:Rat)*rM ρ p[i].2:=by
 unfold rv;rw[a0d hi]
 have:∀(φ:List (Int×Int)->Rat) (a b:List Term),qV φ (a++b)=qV φ a+qV φ b:=λφ a b=>by
  induction a with
  |nil=>simp[qV];grind
  |cons t r ih=>simp only[List.cons_append,qV,ih];grind
 rw[this];simp only[qV]
 grind
open Lib (hid)
theorem Pz.iW [Ol] {K:Nat} {w:World} {ao:Option Addr} {n cap:Nat} {p:List Term} (h:Pz K w ao n cap p) {i:Nat} (hi:i<n) (hl:i<p.length):∃b off m a k c a2 k2 c2,ao=some ⟨b,off,none⟩/\ b<w.heap.size/\ (∀V:World,Below w.heap.size w V->V.cell? ⟨b,off+i*3,none⟩=some (.bool m)/\ V.cell? ⟨b,off+i*3+1,none⟩=some (a0b a k c)/\ V.cell? ⟨b,off+i*3+2,none⟩=some (a0b a2 k2 c2))/\ Zd w m a k c p[i].1/\ Bd p[i].1 K/\ Ml w a2 k2 c2 p[i].2:=by
 obtain⟨bS,h1,h2⟩:=h.ex;obtain⟨b,off,e1,e2,e3⟩:=h1.at (by omega);obtain⟨m,a,k,c,a2,k2,c2,hv,g1,g2,g3⟩:=cB.get (0,[]) h2 i hl;have e:p.getD i (0,[])=p[i]:=by simp[a0e,hl]
 rw[e]at g1 g2 g3;refine⟨b,off,m,a,k,c,a2,k2,c2,e1,e2,λV hV=>?_,g1,g2,g3⟩;have f:=e3 V hV i hi;rw[hv]at f;exact⟨f 0 (by omega),f 1 (by omega),f 2 (by omega)⟩
def Gc [Ol] (w wr:World) (b4 b5:Nat) (q:Rat) (j:Nat):Prop:=bD wr b4 [.bool false,a0b none 0 0,.bool false,a0b none 0 0] 47/\ QV wr b5 q j/\ Below w.heap.size w wr/\ b4<b5/\ w.heap.size<=b4
theorem Gc.below [Ol] {w wr w':World} {b4 b5:Nat} {q:Rat} {j:Nat} (h:Gc w wr b4 b5 q j) (hb:Below wr.heap.size wr w'):Gc w w' b4 b5 q j:=⟨h.1.below hb,h.2.1.below hb,Below.steps h.2.2.1 hb,h.2.2.2⟩
theorem Gc.put [Ol] {w wr:World} {b4 b5:Nat} {q r q0:Rat} {j i g j0:Nat} (h:Gc w wr b4 b5 q j) {m:Bool} {a:Option Addr} {n c:Nat} {k:Bool} {b:Option Addr} {l d:Nat} {x y:Int} (hg:QV wr g q0 j0) (hx:Qx wr m a n c k b l d x y r i) (hgt:b5<g):
  Gc w ((((wr.setCell ⟨g,0,none⟩ (.bool m)).setCell ⟨g,1,none⟩ (a0b a n c)).setCell ⟨g,2,none⟩ (.bool k)).setCell ⟨g,3,none⟩ (a0b b l d)) b4 b5 q j/\ QV ((((wr.setCell ⟨g,0,none⟩ (.bool m)).setCell ⟨g,1,none⟩ (a0b a n c)).setCell ⟨g,2,none⟩ (.bool k)).setCell ⟨g,3,none⟩ (a0b b l d)) g r i:=by
 obtain⟨m',a',n',c',k',b',l',d',x',y',hA,_⟩:=hg;obtain⟨p1,p2⟩:=Lf hA m a n c k b l d;have hc:=hA.fT (sN _ _ _ _ _ _ _ _);exact⟨⟨h.1.apart p2 (λe=>by have:=a0i e;have:=h.2.2.2;omega),h.2.1.far hc p2 (by omega),h.2.2.1.trans (iD p2 (by have:=h.2.2.2;omega) h.2.2.1.size),h.2.2.2⟩,⟨_,_,_,_,_,_,_,_,_,_,p1,hx.fM hc p2⟩⟩
theorem MB [Ol] {ao po:Option Addr} {n cap pn pc:Nat} {p:List Term} {qs:List Rat} {w:World} (hp:Pz 32 w ao n cap p) (hf:fall p) (hq:Pt w po pn pc qs 3) (hc:bC p<=(pn:Int)) (he:∀t∈p,t.2.length<=12/\∀x∈t.2,x.2<=12) (hn:n<=12):
  Calls Tryz.prog 15 #[a0b ao n cap,a0b po pn pc] w (λe w'=>∃x y,Gd w x y (rv (kM qs) p) 6000 e w'):=by
 have HP:=hid hp;have uj:Hid (p.length=n):=hp.len;have HF:Hid (fall p/\ bC p<=(pn:Int)/\∀t∈p,t.2.length<=12/\∀x∈t.2,x.2<=12):=⟨hf,hc,he⟩;have HQ:=hid hq;have hnb:n<=1000:=by omega
 clear hp hf hq hc he;go_enter Tryz.func15,Tryz.ntmps15;obtain⟨b4,hb4⟩:∃b,b=w.heap.size:=⟨_,rfl⟩;go_upto_region 1 with(fail)
 refine aj (λW0 hW=>?_);have a4:bD W0 b4 [.bool false,a0b none 0 0,.bool false,a0b none 0 0] 47/\ Below w.heap.size w W0:=by rw[hW,hb4];exact jC w _ 47
 rw[<-hb4];have H4:=hid (a0a a4 (show w.heap.size<=b4 by omega));clear hW hb4 a4;go_wp2_with fail;refine(qf 0 1 _ (by omega) (by omega) (by decide)).mono ?_;rintro e w1 ⟨zm,za,zn,zc,zk,zb,zl,zd,rfl,hX,hB⟩;obtain⟨b5,hb5⟩:∃b,b=w1.heap.size:=⟨_,rfl⟩;go_upto_region 2 with(fail)
 refine aj (λW1 hW=>?_);have a5:bD W1 b5 [.bool zm,a0b za zn zc,.bool zk,a0b zb zl zd] 47/\ Below w1.heap.size w1 W1:=by rw[hW,hb5];exact jC w1 _ 47
 rw[<-hb5]
 have Ci:Hid (Gc w W1 b4 b5 (rv (kM qs) (p.take 0)) (2+465*0)):=by
  have e0:Rat.divInt 0 1=rv (kM qs) (p.take 0):=by rw[a0f];show _=(0:Rat);decide+kernel
  have hlt:b4<b5:=by have h1:=H4.out.1.1.lt;have h2:=hB.size;omega
  exact⟨(H4.out.1.1.below hB).below a5.2,⟨_,_,_,_,_,_,_,_,_,_,a5.1,e0▸hX.oD a5.2⟩,Below.steps (Below.steps H4.out.1.2 hB) a5.2,hlt,H4.out.2⟩
 clear hW hb5 a5 hX hB H4;go_wp2_with fail;go_loopw [6] (λi wr=>∃k:Nat,i= .int .i64 k/\ k<=n/\ Hid (Gc w wr b4 b5 (rv (kM qs) (p.take k)) (2+465*k))) (λi _=>n-(intOf i).toNat)
 case atStart=>exact⟨0,rfl,Nat.zero_le _,Ci.out⟩
 case round=>
  clear Ci;obtain⟨i,rfl,hi,HS⟩:=hrel;by_cases hin:i<n
  ·have hil:i<p.length:=by rw[uj.out];exact hin
   obtain⟨b,off,tm,ta,tn,tc,ma,mn,mc,Cj,hbl,hcl,hz,hbd,hml⟩:=HP.out.iW hin hil;subst Cj;have hmay:=bU HF.out.1 p[i] (a0g hil);have hex:=HF.out.2.2 p[i] (a0g hil);have hcm:=mr HF.out.1 (a0g hil);have hrv:=Uj (kM qs) hil;obtain⟨C,hC⟩:∃C,p[i].1=C:=⟨_,rfl⟩;obtain⟨ms,hms⟩:∃ms,p[i].2=ms:=⟨_,rfl⟩;rw[hC]at hz hbd hrv;rw[hms]at hml hmay hex hcm hrv;have HT:Hid (rv (kM qs) (p.take (i+1))=rv (kM qs) (p.take i)+(C:Rat)*rM (kM qs) ms/\ aZ 0 ms=true/\ (ms.length<=12/\∀x∈ms,x.2<=12)/\ fe ms<=(pn:Int)/\ Bd C 32):=⟨hrv,hmay,hex,by have:=HF.out.2.1;omega,hbd⟩;have mM:=hid hcl;have HZ:Hid (∀V,Below w.heap.size w V->Zd V tm ta tn tc C):=λV hV=>hz.below hV
   have CX:=hid hml;have hmn:mn<=12:=by rw[<-hml.len];exact hex.1
   have hii:(i:Int)<(n:Int):=by omega
   obtain⟨c0,c1,c2⟩:=hcl wr HS.out.2.2.1;clear hcl hz hbd hml hmay hex hcm hrv hC hms hbl;go_upto_region 5 with(fail)
   clear c0 c1 c2;refine wp_region_held_drew (S:=λw'=>w'.cell? ⟨b,off+i*3,none⟩=some (.bool tm)/\ w'.cell? ⟨b,off+i*3+1,none⟩=some (a0b ta tn tc)) (by kernel_rfl) (by obtain⟨c0,c1,_⟩:=mM.out wr.drew (HS.out.2.2.1.drew);exact⟨c0,c1⟩) (λhH=>?_);refine ai (λV hW=>?_);have T0:Hid (Gc w V b4 b5 (rv (kM qs) (p.take i)) (2+465*i)):=by rw[hW];exact HS.out.below (Below.refl _ _).drew
   rw[<-hW]at hH;clear hW HS;refine aQ 0 hH ?_
   try simp only[ax]
   refine aQ 1 hH ?_
   try simp only[ax]
   refine aQ 2 hH ?_
   try simp only[ax]
   refine aQ 3 hH ?_
   try simp only[ax]
   refine aQ 4 hH ?_
   try simp only[ax]
   refine wpAnyH_ready (rs:=[5,7]) (by kernel_rfl) (by simp) (aO rfl (λKK hK=>?_) (aO rfl (λKK hK=>?_) (AllReadyH.nil)))
   focus go_simp
   refine(jX 1 _ (by omega)).mono ?_;rintro e V1 ⟨um,ua,un,uc,rfl,hX,hB⟩;have T1:=hid (a0a (T0.out.below hB) hX);clear hB hX T0
   focus go_wp2_with fail
   clear hH;refine hK.out _ _ (by obtain⟨c0,c1,_⟩:=mM.out _ T1.out.1.2.2.1;exact⟨c0,c1⟩) λhH=>?_;clear hK KK
   try simp only[ax]
   refine aQ 6 hH ?_
   try simp only[ax]
   refine ah 7 rfl (by kernel_rfl) (λKK hK=>?_);obtain⟨b7,yo⟩:∃b,b=V1.heap.size:=⟨_,rfl⟩
   focus go_simp
   have a7:=jC V1 [.bool false,a0b none 0 0,.bool false,a0b none 0 0] 47;clear hH;refine hK.out _ _ (by obtain⟨c0,c1,_⟩:=mM.out _ (Below.steps T1.out.1.2.2.1 a7.2);exact⟨c0,c1⟩) λhH=>?_;clear hK KK
   try simp only[ax]
   rw[<-yo];refine ai (λV3 hW=>?_);rw[<-hW]at a7 hH;have T3:Hid (Gc w V3 b4 b5 (rv (kM qs) (p.take i)) (2+465*i)/\ Zd V3 um ua un uc 1/\ bD V3 b7 [.bool false,a0b none 0 0,.bool false,a0b none 0 0] 47/\ b5<b7):=⟨T1.out.1.below a7.2,T1.out.2.below a7.2,yo▸a7.1,by rw[yo];obtain⟨_,_,_,_,_,_,_,_,_,_,h,_⟩:=T1.out.1.2.1;exact h.lt⟩;clear hW yo a7 T1
   rotate_left
   obtain⟨b7,yo⟩:∃b,b=V.heap.size:=⟨_,rfl⟩
   focus go_simp
   have a7:=jC V [.bool false,a0b none 0 0,.bool false,a0b none 0 0] 47;clear hH;refine hK.out _ _ (by obtain⟨c0,c1,_⟩:=mM.out _ (Below.steps T0.out.2.2.1 a7.2);exact⟨c0,c1⟩) λhH=>?_;clear hK KK
   try simp only[ax]
   rw[<-yo];refine ai (λV1 hW=>?_);rw[<-hW]at a7 hH;have T1:Hid (Gc w V1 b4 b5 (rv (kM qs) (p.take i)) (2+465*i)/\ bD V1 b7 [.bool false,a0b none 0 0,.bool false,a0b none 0 0] 47/\ b5<b7):=⟨T0.out.below a7.2,yo▸a7.1,by rw[yo];obtain⟨_,_,_,_,_,_,_,_,_,_,h,_⟩:=T0.out.2.1;exact h.lt⟩;clear hW yo a7 T0;refine ah 5 rfl (by kernel_rfl) (λKK hK=>?_)
   focus go_simp
   refine(jX 1 _ (by omega)).mono ?_;rintro e V3 ⟨um,ua,un,uc,rfl,hX,hB⟩;have T3:Hid (Gc w V3 b4 b5 (rv (kM qs) (p.take i)) (2+465*i)/\ Zd V3 um ua un uc 1/\ bD V3 b7 [.bool false,a0b none 0 0,.bool false,a0b none 0 0] 47/\ b5<b7):=⟨T1.out.1.below hB,hX,T1.out.2.1.below hB,T1.out.2.2⟩;clear hB hX T1
   focus go_wp2_with fail
   clear hH;refine hK.out _ _ (by obtain⟨c0,c1,_⟩:=mM.out _ T3.out.1.2.2.1;exact⟨c0,c1⟩) λhH=>?_;clear hK KK
   try simp only[ax]
   refine aQ 6 hH ?_
   try simp only[ax]
   all_goals
    refine ah 8 rfl (by kernel_rfl) (λKK hK=>?_);obtain⟨x0,x1,x2,x3⟩:=bD.q4 T3.out.2.2.1;obtain⟨y0,y1,y2,y3⟩:=bD.r4 T3.out.2.2.1;go_simp;clear x0 x1 x2 x3 y0 y1 y2 y3;have uo:=Lf T3.out.2.2.1 tm ta tn tc um ua un uc;obtain⟨W4,hW4⟩:∃W4,((((V3.setCell ⟨b7,0,none⟩ (.bool tm)).setCell ⟨b7,1,none⟩ (a0b ta tn tc)).setCell ⟨b7,2,none⟩ (.bool um)).setCell ⟨b7,3,none⟩ (a0b ua un uc))=W4:=⟨_,rfl⟩;rw[hW4]at uo ⊢;clear hW4;have hcb:=T3.out.2.2.1.fT (sN _ _ _ _ _ _ _ _);have Uk:=iD uo.2 (show w.heap.size<=b7 by have h1:=T3.out.1.2.2.2;have h2:=T3.out.2.2.2;omega) T3.out.1.2.2.1.size
    have T4:Hid (Gc w W4 b4 b5 (rv (kM qs) (p.take i)) (2+465*i)/\ QV W4 b7 ((C:Rat)*rM (kM qs) (ms.take 0)) (32+36*0)):=by
     have hv:Rat.divInt C 1=(C:Rat)*rM (kM qs) (ms.take 0):=by rw[a0f,PU,Rat.mul_one,zV]
     have hx:Qx V3 tm ta tn tc um ua un uc C 1 ((C:Rat)*rM (kM qs) (ms.take 0)) (32+36*0):=⟨(HZ.out V3 T3.out.1.2.2.1).zx HT.out.2.2.2.2 (by omega),T3.out.2.1.zx (k:=1) (by unfold Bd;decide) (by omega),by decide,hv,HT.out.2.2.2.2,(show Bd 1 1 by unfold Bd;decide).mono (by omega)⟩;exact⟨⟨T3.out.1.1.apart uo.2 (λe=>by have:=a0i e;have h1:=T3.out.1.2.2.2;have h2:=T3.out.2.2.2;omega),T3.out.1.2.1.far hcb uo.2 (by have h2:=T3.out.2.2.2;omega),T3.out.1.2.2.1.trans Uk,T3.out.1.2.2.2⟩,⟨_,_,_,_,_,_,_,_,_,_,uo.1,hx.fM hcb uo.2⟩⟩
    refine hK.out _ _ (by obtain⟨c0,c1,_⟩:=mM.out _ T4.out.1.2.2.1;exact⟨c0,c1⟩) (λh2=>?_);clear hK KK hH h2
    try rw[ax.2.1]
    refine wpAnyH_done (by kernel_rfl) ?_ _
    have H57:Hid (b5<b7):=T3.out.2.2.2;clear uo hcb Uk T3;go_wp2_with fail;go_loopw [8] (λx wr=>∃k:Nat,x= .int .i64 k/\ k<=mn/\ Hid (Gc w wr b4 b5 (rv (kM qs) (p.take i)) (2+465*i)/\ QV wr b7 ((C:Rat)*rM (kM qs) (ms.take k)) (32+36*k))) (λx _=>mn-(intOf x).toNat)
    case atStart=>exact⟨0,rfl,Nat.zero_le _,T4.out⟩
    case round=>
     clear T4;obtain⟨k,rfl,hk,HS⟩:=hrel;obtain⟨c0,c1,c2⟩:=mM.out wr HS.out.1.2.2.1;by_cases hkn:k<mn
     ·have hkl:k<ms.length:=by rw[CX.out.len];exact hkn
      obtain⟨b2,off2,Cj,_,hpc⟩:=CX.out.at (by omega);subst Cj;obtain⟨g0,g1⟩:=hpc k hkn;have hmk:ms.getD k (0,0)=ms[k]:=by simp[a0e,hkl]
      rw[hmk]at g0 g1;obtain⟨⟨a1,a2,a3⟩,_⟩:=vM ms 0 k hkl HT.out.2.1;have hle:=HT.out.2.2.1.2 ms[k] (a0g hkl);have hrm:=Ui HT.out.2.1 hkl (kM qs)
      have hvp:ms[k].1<=(pn:Int):=by
       have hx:=PS HT.out.2.1 hkl;have h1:=HT.out.2.2.2.1;by_cases hcc:ms[k].1<=fe ms
       ·omega
       ·have:=mK HT.out.2.1 (v:=ms[k].1) (by omega);omega
      obtain⟨vn,hvn⟩:∃vn:Nat,ms[k].1=(vn:Int)+1:=⟨(ms[k].1-1).toNat,by omega⟩;obtain⟨E,hE⟩:∃E:Nat,ms[k].2=(E:Int):=⟨(ms[k].2).toNat,by omega⟩;rw[hvn]at g0 hrm a2 hvp;rw[hE]at g1 hrm hle;have HG:Hid (∀V:World,Below w.heap.size w V->V.cell? ⟨b2,off2+k*2,none⟩=some (.int .i64 ((vn:Int)+1))/\ V.cell? ⟨b2,off2+k*2+1,none⟩=some (.int .i64 (E:Int))):=λV hV=>⟨by rw[hV.cell (p:=⟨b2,off2+k*2,none⟩) (World.block_lt_of_cell? w _ g0)];exact g0,by rw[hV.cell (p:=⟨b2,off2+k*2+1,none⟩) (World.block_lt_of_cell? w _ g1)];exact g1⟩
      have HRM:Hid (rM (kM qs) (ms.take (k+1))=rM (kM qs) (ms.take k)*kM qs (vn+1)^E):=by rw[Hid,hrm];rw[show((vn:Int)+1).toNat=vn+1 by omega,Int.toNat_natCast]
      have al3:E<=12:=by omega
      have ah7:vn<pn:=by omega
      have hvb: -9223372036854775808<=(vn:Int)/\ (vn:Int)<=9223372036854775807:=by omega
      have HVW:Hid (IntKind.i64.wrap ((vn:Int)+1-1)=(vn:Int)/\ wrap64 (vn:Int)=(vn:Int)/\ IntKind.i64.wrap (vn:Int)=(vn:Int)):=⟨by rw[show(vn:Int)+1-1=vn by omega];exact IntWalk.i64_in _ hvb,IntWalk.wrap64_in _ hvb,IntWalk.i64_in _ hvb⟩;have hki:(k:Int)<(mn:Int):=by omega
      clear hpc g0 g1 hmk a1 a2 a3 hle hrm hvp hvn hE hvb;go_wp2_with fail;clear c0 c1 c2;go_loopw [9] (λx wr=>∃t:Nat,x= .int .i64 t/\ t<=E/\ Hid (Gc w wr b4 b5 (rv (kM qs) (p.take i)) (2+465*i)/\ QV wr b7 ((C:Rat)*rM (kM qs) (ms.take k)*kM qs (vn+1)^t) (32+36*k+3*t))) (λx _=>E-(intOf x).toNat)
      case atStart=>exact⟨0,rfl,Nat.zero_le _,HS.out.1,by rw[Rat.pow_zero,Rat.mul_one];exact HS.out.2⟩
      case round=>
       clear HS;obtain⟨t,rfl,ht,HJ⟩:=hrel;obtain⟨_,_,c2⟩:=mM.out wr HJ.out.1.2.2.1;have g1:=(HG.out wr HJ.out.1.2.2.1).2;by_cases htE:t<E
       ·have hti:(t:Int)<(E:Int):=by omega
        obtain⟨pb,pf,pm,pa,pk,Wy,Wz,WA,WB,pc2,ν,δ,hpo,_,hpc,hpr⟩:=HQ.out.iW ah7;subst hpo;have TU:Hid (∀V,Below w.heap.size w V->V.cell? ⟨pb,pf+vn*4,none⟩=some (.bool pm)/\ V.cell? ⟨pb,pf+vn*4+1,none⟩=some (a0b pa pk Wy)/\ V.cell? ⟨pb,pf+vn*4+2,none⟩=some (.bool Wz)/\ V.cell? ⟨pb,pf+vn*4+3,none⟩=some (a0b WA WB pc2)):=hpc;have Pm:Hid (∀V,Below w.heap.size w V->Rx V pm pa pk Wy Wz WA WB pc2 ν δ (kM qs (vn+1)) 3):=λV hV=>hpr.below' hV
        have hv0:(0:Int)<=(vn:Int):=by omega
        have hv1:(vn:Int)<(pn:Int):=by omega
        clear hpc hpr;go_upto_region 12 with(fail)
        clear c2 g1;refine wp_region_held_drew (S:=(λw'=>w'.cell? ⟨b,off+i*3+2,none⟩=some (a0b (some ⟨b2,off2,none⟩) mn mc)/\ w'.cell? ⟨b2,off2+k*2,none⟩=some (.int .i64 ((vn:Int)+1))/\ w'.cell? ⟨pb,pf+vn*4,none⟩=some (.bool pm)/\ w'.cell? ⟨pb,pf+vn*4+1,none⟩=some (a0b pa pk Wy)/\ w'.cell? ⟨pb,pf+vn*4+2,none⟩=some (.bool Wz)/\ w'.cell? ⟨pb,pf+vn*4+3,none⟩=some (a0b WA WB pc2))) (by kernel_rfl) ⟨(mM.out _ (HJ.out.1.2.2.1.drew)).2.2,(HG.out _ (HJ.out.1.2.2.1.drew)).1,TU.out _ (HJ.out.1.2.2.1.drew)⟩ (λhH=>?_);refine ai (λV hW=>?_);have T0:Hid (Gc w V b4 b5 (rv (kM qs) (p.take i)) (2+465*i)/\ QV V b7 ((C:Rat)*rM (kM qs) (ms.take k)*kM qs (vn+1)^t) (32+36*k+3*t)):=by rw[hW];exact⟨HJ.out.1.below (Below.refl _ _).drew,HJ.out.2.below (Below.refl _ _).drew⟩
        rw[<-hW]at hH;clear hW HJ;obtain⟨hw1,hw2,hw3⟩:=HVW.out;refine aQ 1 hH ?_
        try simp only[ax]
        refine aQ 2 hH ?_
        try simp only[ax]
        refine aQ 3 hH ?_
        try simp only[ax]
        refine aQ 4 hH ?_
        try simp only[ax]
        refine aQ 5 hH ?_
        try simp only[ax]
        refine aQ 6 hH ?_
        try simp only[ax]
        refine aQ 7 hH ?_
        try simp only[ax]
        refine aQ 8 hH ?_
        try simp only[ax]
        refine aQ 9 hH ?_
        try simp only[ax]
        refine aQ 10 hH ?_
        try simp only[ax]
        refine aQ 11 hH ?_
        try simp only[ax]
        refine aQ 12 hH ?_
        try simp only[ax]
        refine aQ 13 hH ?_
        try simp only[ax]
        clear hw1 hw2 hw3;obtain⟨m,a,nn,c,kk,bb,l,d,x,y,hA,hX0⟩:=T0.out.2;have H7:=hid (a0a hA hX0);clear hA hX0;refine wpAnyH_ready (rs:=[0,14]) (by kernel_rfl) (by simp) (aO rfl (λKK hK=>?_) (aO rfl (λKK hK=>?_) (AllReadyH.nil)));obtain⟨x0,x1,x2,x3⟩:=bD.q4 H7.out.1
        focus go_simp
        clear x0 x1 x2 x3;clear hH;refine hK.out _ _ ⟨(mM.out _ (T0.out.1.2.2.1)).2.2,(HG.out _ (T0.out.1.2.2.1)).1,TU.out _ (T0.out.1.2.2.1)⟩ λhH=>?_;clear hK KK
        try simp only[ax]
        refine ah 14 rfl (by kernel_rfl) (λKK hK=>?_)
        focus go_simp
        refine(Eo (Pm.out V T0.out.1.2.2.1) (by omega) (by omega)).mono ?_;rintro e V1 ⟨rm,ra,rn,rc,rk,rb,rl,rd,rfl,hX,hB⟩;have T1:=hid (a0a (T0.out.1.below hB) (a0a (H7.out.1.below hB) (a0a (H7.out.2.oD hB) hX)));clear hB hX
        focus go_wp2_with fail
        clear hH;refine hK.out _ _ ⟨(mM.out _ (T1.out.1.2.2.1)).2.2,(HG.out _ (T1.out.1.2.2.1)).1,TU.out _ (T1.out.1.2.2.1)⟩ λhH=>?_;clear hK KK
        try simp only[ax]
        rotate_left
        focus go_simp
        refine(Eo (Pm.out V T0.out.1.2.2.1) (by omega) (by omega)).mono ?_;rintro e V1 ⟨rm,ra,rn,rc,rk,rb,rl,rd,rfl,hX,hB⟩;have T1:=hid (a0a (T0.out.1.below hB) (a0a (H7.out.1.below hB) (a0a (H7.out.2.oD hB) hX)));clear hB hX
        focus go_wp2_with fail
        clear hH;refine hK.out _ _ ⟨(mM.out _ (T1.out.1.2.2.1)).2.2,(HG.out _ (T1.out.1.2.2.1)).1,TU.out _ (T1.out.1.2.2.1)⟩ λhH=>?_;clear hK KK
        try simp only[ax]
        refine ah 0 rfl (by kernel_rfl) (λKK hK=>?_);obtain⟨x0,x1,x2,x3⟩:=bD.q4 T1.out.2.1
        focus go_simp
        clear x0 x1 x2 x3;clear hH;refine hK.out _ _ ⟨(mM.out _ (T1.out.1.2.2.1)).2.2,(HG.out _ (T1.out.1.2.2.1)).1,TU.out _ (T1.out.1.2.2.1)⟩ λhH=>?_;clear hK KK
        try simp only[ax]
        all_goals
         clear T0 H7;refine ah 15 rfl (by kernel_rfl) (λKK hK=>?_);go_simp;refine(PV T1.out.2.2.1 T1.out.2.2.2 (by omega) (by omega) (by omega)).mono ?_;rintro e V2 ⟨sm,sa,sn,sc,sk,sb,sl,sd,rfl,hX,hB⟩;have T2:=hid (a0a (T1.out.1.below hB) (a0a (T1.out.2.1.below hB) (a0a (T1.out.2.2.1.oD hB) hX)));clear hB hX T1;go_wp2_with fail;clear hH;refine hK.out _ _ ⟨(mM.out _ (T2.out.1.2.2.1)).2.2,(HG.out _ (T2.out.1.2.2.1)).1,TU.out _ (T2.out.1.2.2.1)⟩ λhH=>?_;clear hK KK
         try simp only[ax]
         refine ah 16 rfl (by kernel_rfl) (λKK hK=>?_);obtain⟨x0,x1,x2,x3⟩:=bD.q4 T2.out.2.1;obtain⟨y0,y1,y2,y3⟩:=bD.r4 T2.out.2.1;go_simp;clear x0 x1 x2 x3 y0 y1 y2 y3;have hput:=T2.out.1.put ⟨_,_,_,_,_,_,_,_,_,_,T2.out.2.1,T2.out.2.2.1⟩ T2.out.2.2.2 H57.out;refine hK.out _ _ ⟨(mM.out _ (hput.1.2.2.1)).2.2,(HG.out _ (hput.1.2.2.1)).1,TU.out _ (hput.1.2.2.1)⟩ (λh2=>?_);clear hK KK hH h2
         try rw[ax.2.1]
         refine wpAnyH_done (by kernel_rfl) ?_ _
         have T3:=hid hput;clear hput T2;go_wp2_with fail;go_roundw
         case rel=>exact⟨t+1,by go_num,by omega,T3.out.1,by rw[Rat.pow_succ,<-Rat.mul_assoc];exact T3.out.2.mono (by omega)⟩
         case measure=>simp[intOf];omega
       ·obtain rfl:t=E:=by omega
        have hti:¬(t:Int)<(t:Int):=by omega
        have HN:Hid (Gc w wr b4 b5 (rv (kM qs) (p.take i)) (2+465*i)/\ QV wr b7 ((C:Rat)*rM (kM qs) (ms.take (k+1))) (32+36*(k+1))):=⟨HJ.out.1,by rw[HRM.out,<-Rat.mul_assoc];exact HJ.out.2.mono (by omega)⟩;clear HJ;go_wp2_with fail;go_roundw
        case rel=>exact⟨k+1,by go_num,by omega,HN.out⟩
        case measure=>simp[intOf];omega
     ·obtain rfl:k=mn:=by omega
      have hkk:¬(k:Int)<(k:Int):=by omega
      have hX1:=HS.out.2;rw[a0h (by rw[CX.out.len];exact Nat.le_refl _)]at hX1;obtain⟨m,a,nn,c,kk,bb,l,d,x,y,hA,hX0⟩:=hX1;obtain⟨m',a',n',c',k',b',l',d',x',y',hA',ZG⟩:=HS.out.1.2.1;have H7:=hid (a0a HS.out.1 (a0a hA (a0a hX0 (a0a hA' ZG))));obtain⟨x0,x1,x2,x3⟩:=bD.q4 hA;obtain⟨z0,z1,z2,z3⟩:=bD.q4 hA';clear hA hX0 hA' ZG HS;go_wp2_with fail;refine(PW H7.out.2.2.2.2 H7.out.2.2.1 (by omega) (by omega) (by omega)).mono ?_;rw[<-HT.out.1];rintro e w8 ⟨sm,sa,sn,sc,sk,sb,sl,sd,rfl,hX,hB⟩;have H8:=hid (a0a (H7.out.1.below hB) (a0a (H7.out.2.2.2.1.below hB) hX));clear hB hX H7 x0 x1 x2 x3 z0 z1 z2 z3 c0 c1 c2;obtain⟨z0,z1,z2,z3⟩:=bD.q4 H8.out.2.1;obtain⟨y0,y1,y2,y3⟩:=bD.r4 H8.out.2.1;go_wp2_with fail;clear z0 z1 z2 z3 y0 y1 y2 y3;have uo:=Lf H8.out.2.1 sm sa sn sc sk sb sl sd;have hcb:=H8.out.2.1.fT (sN _ _ _ _ _ _ _ _);have Uk:=iD uo.2 (show w.heap.size<=b5 by have h1:=H8.out.1.2.2.2;omega) H8.out.1.2.2.1.size;go_roundw
      case rel=>exact⟨i+1,by go_num,by omega,H8.out.1.1.apart uo.2 (λe=>by have:=a0i e;have h1:=H8.out.1.2.2.2;omega),⟨_,_,_,_,_,_,_,_,_,_,uo.1,(H8.out.2.2.fM hcb uo.2).mono (by omega)⟩,H8.out.1.2.2.1.trans Uk,H8.out.1.2.2.2⟩
      case measure=>simp[intOf];omega
  ·obtain rfl:i=n:=by omega
   have hii:¬(i:Int)<(i:Int):=by omega
   have hS:=HS.out;rw[a0h (by rw[uj.out];exact Nat.le_refl _)]at hS;obtain⟨m,a,nn,c,kk,bb,l,d,x,y,hA,hX0⟩:=hS.2.1;have H7:=hid (a0a hS (a0a hA hX0));obtain⟨x0,x1,x2,x3⟩:=bD.q4 hA;obtain⟨z0,z1,z2,z3⟩:=bD.q4 hS.1;obtain⟨y0,y1,y2,y3⟩:=bD.r4 hS.1;clear hA hX0 hS HS;go_wp2_with fail;refine bodyPost_ret (v:= .agg #[.bool m,a0b a nn c,.bool kk,a0b bb l d]) (by simp[results,Tryz.results15,go_sem,z0,z1,z2,z3]) rfl ?_;have uo:=Lf H7.out.1.1 m a nn c kk bb l d;have hcb:=H7.out.1.1.fT (sN _ _ _ _ _ _ _ _);exact⟨x,y,_,_,_,_,_,_,_,_,rfl,(H7.out.2.2.fM hcb uo.2).mono (by omega),H7.out.1.2.2.1.trans (iD uo.2 H7.out.1.2.2.2.2 H7.out.1.2.2.1.size)⟩
end Go.Proofs.YtmenbpmciblnlaaGreatDoor

import Derived.Test.YtmenbpmciblnlaaGreatDoorEn
import Derived.Deep.CutRange
import Derived.Test.YtmenbpmciblnlaaGreatDoorGWD
set_option maxHeartbeats 0
set_option maxRecDepth 100000
open Go renaming World->ah5
open Go.AllReadyH renaming nil->ah6
open Go.Value renaming bool->ah8,slice->ah7
open Int renaming gcd->ai8,gcd_comm->ai3,gcd_dvd_left->ai2,gcd_dvd_right->ai4,gcd_neg->aj3,gcd_pos_of_ne_zero_right->ai5,mul_tdiv_cancel_left->ah9,natAbs_natCast->ai7,neg_gcd->aj2,neg_tdiv->aj5,one_mul->ai1,sign_eq_neg_one_of_neg->ai6,sign_eq_one_of_pos->ai0,sign_eq_zero_iff_zero->ai9,tdiv_neg->aj4,tmod_eq_zero_of_dvd->aj0,tmod_neg->aj1
open Rat renaming den_divInt->aj7,divInt->aj6
namespace Go.Proofs.YtmenbpmciblnlaaGreatDoor
section
def qv (n d:Int):Rat:=aj6 n (if d=0 then 1 else d)
theorem Dp {n g:Int} (h:g ∣ n):n.tdiv g=n/g:=by
 obtain⟨k,rfl⟩:=h;by_cases hg:g=0
 ·subst hg;simp
 ·rw[ah9 _ hg,Int.mul_ediv_cancel_left _ hg]
theorem ku {n d:Int} (h:0<d):(aj6 n d).num=n.tdiv ((n.gcd d:Nat):Int):=by
 rw[Rat.num_divInt,ai0 h,ai1,Dp (ai2 _ _),ai3]
theorem pV {n d:Int} (h:0<d):((aj6 n d).den:Int)=d.tdiv ((n.gcd d:Nat):Int):=by
 rw[aj7,if_neg (by omega),Dp (ai4 _ _),ai3];have e:((d.natAbs:Nat):Int)=d:=by omega
 rw[Int.natCast_ediv,e]
theorem ja (n d:Int):aj6 (-n) (-d)=aj6 n d:=by
 by_cases h:d=0
 ·subst h;simp
 ·have:= @Rat.divInt_mul_right n d (-1) (by omega);simpa using this
theorem zf {n d:Int} (h:d<0):(aj6 n d).num=(-n).tdiv (((-n).gcd (-d):Nat):Int):=by
 rw[<-ja,ku (by omega)]
theorem zg {n d:Int} (h:d<0):((aj6 n d).den:Int)=(-d).tdiv (((-n).gcd (-d):Nat):Int):=by
 rw[<-ja,pV (by omega)]
theorem Kl {n d:Int} (h:d≠0):((n.gcd d:Nat):Int)≠0:=by
 have:=ai5 n h;omega
theorem UW {n d:Int} (h:d≠0):(aj6 n d).num.sign=n.sign*d.sign:=by
 have hp:∀{n d:Int},0<d->(aj6 n d).num.sign=n.sign:=by
  intro n d hd;rw[ku hd];have hg:0<((n.gcd d:Nat):Int):=by have:=Kl (n:=n) (d:=d) (by omega);omega
  obtain⟨k,hk⟩:((n.gcd d:Nat):Int) ∣ n:=ai2 _ _;obtain⟨g,hgg⟩:∃g,g=((n.gcd d:Nat):Int):=⟨_,rfl⟩;rw[<-hgg]at hk hg ⊢;rw[hk,ah9 _ (by omega),Int.sign_mul,ai0 hg,ai1]
 by_cases hd:0<d
 ·rw[hp hd,ai0 hd,Int.mul_one]
 ·rw[<-ja,hp (by omega),Int.sign_neg,ai6 (show d<0 by omega)];omega
theorem NC (n d:Int) (h:d≠0):(aj6 n d).num.natAbs<=n.natAbs:=by
 have hp:∀{n d:Int},0<d->(aj6 n d).num.natAbs<=n.natAbs:=by
  intro n d hd;rw[ku hd,Int.natAbs_tdiv];exact Nat.div_le_self _ _
 by_cases hd:0<d
 ·exact hp hd
 ·have:=hp (n:= -n) (d:= -d) (by omega);rw[ja,Int.natAbs_neg]at this;exact this
theorem ND (n d:Int) (h:d≠0):(aj6 n d).den<=d.natAbs:=by
 rw[aj7,if_neg h];exact Nat.div_le_self _ _
theorem YM {n:Int} {d:Nat} (hd:0<d) (hg:n.gcd d=1):(aj6 n d).num=n/\ (aj6 n d).den=d:=by
 have h1:=ku (n:=n) (d:=(d:Int)) (by omega);have h2:=pV (n:=n) (d:=(d:Int)) (by omega);rw[hg]at h1 h2;simp at h1 h2;have h3:((aj6 n d).den:Int)=(d:Int):=by simpa using h2
 exact⟨by simpa using h1,Int.ofNat.inj h3⟩
def qs (a:Rat):Int:=a.num.sign
end
section
open Go.RowKit
def dn (d:Int):Int:=if d=0 then 1 else d
theorem jr (d:Int):dn d≠0:=by unfold dn;split<;>omega
theorem NF {d:Int} (h:d≠0):dn d=d:=by unfold dn;rw[if_neg h]
theorem Iq {d:Int} (h:d=0):dn d=1:=by unfold dn;rw[if_pos h]
theorem gY (x d:Int):qv x d=aj6 x (dn d):=rfl
theorem Tp {x d:Int} (h:d≠0):qv x d=aj6 x d:=by rw[gY,NF h]
theorem gy {d:Int} {j:Nat} (h:Bd d j) (hj:1<=j):Bd (dn d) j:=by
 unfold dn;split
 ·exact(show Bd 1 1 by unfold Bd;decide).mono hj
 ·exact h
theorem UX (q:Rat):(q.den:Int)≠0:=by have:=q.den_nz;omega
theorem Iu (q:Rat):qv q.num q.den=q:=by rw[Tp (UX q)];exact Rat.num_divInt_den q
structure Rx (w:ah5) (m:Bool) (ao:Option Addr) (n ae:Nat) (k:Bool) (bo:Option Addr) (l cb:Nat) (x d:Int) (q:Rat) (j:Nat):Prop where
 num:Nx w m ao n ae x
 den:Nx w k bo l cb d
 au:qv x d=q
 bn:Bd x j
 bd:Bd d j
structure Rc (w:ah5) (m:Bool) (ao:Option Addr) (n ae:Nat) (k:Bool) (bo:Option Addr) (l cb:Nat) (q:Rat) (j:Nat):Prop where
 num:Cx w m ao n ae q.num
 den:Cx w k bo l cb (q.den:Int)
 bn:Bd q.num j
 bd:Bd (q.den:Int) j
structure Qx [Ol] (w:ah5) (m:Bool) (ao:Option Addr) (n ae:Nat) (k:Bool) (bo:Option Addr) (l cb:Nat) (x d:Int) (q:Rat) (j:Nat):Prop where
 num:Zx w m ao n ae x
 den:Zx w k bo l cb d
 nz:d≠0
 au:aj6 x d=q
 bn:Bd x j
 bd:Bd d j
theorem Rc.rx {w:ah5} {m:Bool} {ao:Z'} {n ae:Nat} {k:Bool} {bo:Z'} {l cb:Nat} {q:Rat} {j:Nat} (h:Rc w m ao n ae k bo l cb q j):Rx w m ao n ae k bo l cb q.num q.den q j:=
 ⟨h.num.nx,h.den.nx,Iu q,h.bn,h.bd⟩
def NG (ao:Z') (n:Nat) (bo:Z') (l:Nat) (c:Nat):Prop:=gV ao n c∨gV bo l c
def En.rx (m:Bool) (ao:Option Addr) (n ae:Nat) (k:Bool) (bo:Option Addr) (l cb:Nat) (x d:Int) (q:Rat) (j:Nat):En:=
 ⟨λw=>Rx w m ao n ae k bo l cb x d q j,NG ao n bo l,
  λw w' hh h=>⟨FD w w' (λc hc=>hh c (.inl hc)) h.num,FD w w' (λc hc=>hh c (.inr hc)) h.den,h.au,h.bn,h.bd⟩,
  λw h c hc=>hc.elim (CU w h.num c) (CU w h.den c)⟩
def En.rc (m:Bool) (ao:Option Addr) (n ae:Nat) (k:Bool) (bo:Option Addr) (l cb:Nat) (q:Rat) (j:Nat):En:=
 ⟨λw=>Rc w m ao n ae k bo l cb q j,NG ao n bo l,
  λw w' hh h=>⟨FE w w' (λc hc=>hh c (.inl hc)) h.num,FE w w' (λc hc=>hh c (.inr hc)) h.den,h.bn,h.bd⟩,
  λw h c hc=>hc.elim (CU w h.num.nx c) (CU w h.den.nx c)⟩
def En.qx [Ol] (m:Bool) (ao:Option Addr) (n ae:Nat) (k:Bool) (bo:Option Addr) (l cb:Nat) (x d:Int) (q:Rat) (j:Nat):En:=
 ⟨λw=>Qx w m ao n ae k bo l cb x d q j,NG ao n bo l,
  λw w' hh h=>⟨FH w w' (λc hc=>hh c (.inl hc)) h.num,FH w w' (λc hc=>hh c (.inr hc)) h.den,h.nz,h.au,h.bn,h.bd⟩,
  λw h c hc=>hc.elim (FB w h.num.zd.sl c) (FB w h.den.zd.sl c)⟩
theorem iD.rx {w:ah5} {m:Bool} {ao:Z'} {n ae:Nat} {k:Bool} {bo:Z'} {l cb:Nat} {x d:Int} {q:Rat} {j:Nat} {r:List En} (h:iD w (.rx m ao n ae k bo l cb x d q j::r)):Rx w m ao n ae k bo l cb x d q j:=h.1
theorem iD.rc {w:ah5} {m:Bool} {ao:Z'} {n ae:Nat} {k:Bool} {bo:Z'} {l cb:Nat} {q:Rat} {j:Nat} {r:List En} (h:iD w (.rc m ao n ae k bo l cb q j::r)):Rc w m ao n ae k bo l cb q j:=h.1
theorem iD.qx [Ol] {w:ah5} {m:Bool} {ao:Z'} {n ae:Nat} {k:Bool} {bo:Z'} {l cb:Nat} {x d:Int} {q:Rat} {j:Nat} {r:List En} (h:iD w (.qx m ao n ae k bo l cb x d q j::r)):Qx w m ao n ae k bo l cb x d q j:=h.1
theorem Nx.dis {w:ah5} {p:Nat} {B:List qy} (hB:jh w p B) (hp:xV B) {m:Bool} {ao:Z'} {n ae:Nat} {z:Int} (h:Nx w m ao n ae z):∀v∈B,¬gV ao n v.b:=by
 obtain⟨xs,hs,hz⟩:=h.LB;exact FC hB hp hs
theorem Sx.rc {w0 w:ah5} {B:List qy} {N:List En} (s:Sx w0 w B N) {m:Bool} {ao:Z'} {n ae:Nat} {k:Bool} {bo:Z'} {l cb:Nat} {q:Rat} {j:Nat} (h:Rc w m ao n ae k bo l cb q j) (hp:xV B):Sx w0 w B (.rc m ao n ae k bo l cb q j::N):=
 s.add (.rc m ao n ae k bo l cb q j) h (λv hv hc=>hc.elim (h.num.nx.dis s.b hp v hv) (h.den.nx.dis s.b hp v hv))
def yy (w:ah5) (q:Rat) (j:Nat) (e:Ending) (w':ah5):Prop:=
 ∃m ao n ae k bo l cb,e= .returned (.agg #[ah8 m,ah7 ao n ae,ah8 k,ah7 bo l cb])/\ Rc w' m ao n ae k bo l cb q j/\ Below w.heap.size w w'
def SP (w:ah5) (q:Rat) (j:Nat) (er:Int) (e:Ending) (w':ah5):Prop:=
 ∃m ao n ae k bo l cb,e= .returned (.tuple #[.agg #[ah8 m,ah7 ao n ae,ah8 k,ah7 bo l cb],.int .i64 er])/\ Rc w' m ao n ae k bo l cb q j/\ Below w.heap.size w w'
def De (w:ah5) (x d:Int) (j:Nat) (e:Ending) (w':ah5):Prop:=
 ∃m ao n ae k bo l cb,e= .returned (.agg #[ah8 m,ah7 ao n ae,ah8 k,ah7 bo l cb])/\ Cb w' m ao n ae x j/\ Cb w' k bo l cb d j/\ Below w.heap.size w w'
def ab2 [Ol] (w:ah5) (x d:Int) (q:Rat) (j:Nat) (e:Ending) (w':ah5):Prop:=
 ∃m ao n ae k bo l cb,e= .returned (.agg #[ah8 m,ah7 ao n ae,ah8 k,ah7 bo l cb])/\ Qx w' m ao n ae k bo l cb x d q j/\ Below w.heap.size w w'
def UY (w:ah5) (z:Int) (e:Ending) (w':ah5):Prop:=
 ∃m ao n ae,e= .returned (.agg #[ah8 m,ah7 ao n ae])/\ Nx w' m ao n ae z/\ Below w.heap.size w w'
theorem tD {x d:Int} {j:Nat} (hx:Bd x j) (hd:d≠0):Bd (aj6 x d).num j:=Nat.lt_of_le_of_lt (NC x d hd) hx
theorem tE {x d:Int} {j:Nat} (h:Bd d j) (hd:d≠0):Bd ((aj6 x d).den:Int) j:=by
 have:=ND x d hd;unfold Bd at*
 rw[ai7];omega
end
section
open Lib (hid)
open Go.RowKit
theorem Bd.YU {x y:Int} {i j k:Nat} (h:Bd x i) (h':Bd y j) (hi:i+1<=k) (hj:j+1<=k):Bd (x+y) k:=(h.mono (show i<=k-1 by omega)).add (h'.mono (show j<=k-1 by omega)) (by omega)
theorem Bd.ac5 {x y:Int} {i j k:Nat} (h:Bd x i) (h':Bd y j) (hi:i+1<=k) (hj:j+1<=k):Bd (x-y) k:=(h.mono (show i<=k-1 by omega)).sub (h'.mono (show j<=k-1 by omega)) (by omega)
theorem wz {x d:Int} {j:Nat} (h:Bd d j) (h0:d≠0):Bd ((ai8 x d:Nat):Int) j:=by
 unfold Bd at*
 rw[ai7];have h1:ai8 x d ∣ d.natAbs:=Nat.gcd_dvd_right _ _;have:=Nat.le_of_dvd (by omega) h1;omega
theorem NH [Ol] {m:Bool} {ao:Z'} {n ae:Nat} {k:Bool} {bo:Z'} {l cb:Nat} {x d:Int} {q:Rat} {j:Nat} {w:ah5} (hx:Rx w m ao n ae k bo l cb x d q j) (h:d≠0):
  Calls Tryz.prog 80 #[.agg #[ah8 m,ah7 ao n ae,ah8 k,ah7 bo l cb]] w (UY w (dn d)):=by
 obtain⟨s,hs⟩:∃s,d.sign=s:=⟨_,rfl⟩;have e1:(s==0)=false:=by rw[<-hs];simp[ai9];exact h
 have HS:=hid hs;have H0:=hid h;clear hs h;go_enter Tryz.func80,Tryz.ntmps80;have S0:=hid (Sx.start (w:=w) (N:=[.rx m ao n ae k bo l cb x d q j]) ⟨hx,trivial⟩);clear hx;have S1:=hid (S0.o.var w.heap.size [ah8 m,ah7 ao n ae,ah8 k,ah7 bo l cb] 31 (by simp));clear S0;have S2:=hid (S1.o.var (w.heap.size+1) [ah8 false,ah7 none 0 0] 29 (by simp));clear S1;go_upto_region 1 with(fail)
 refine aj (λw1 hW=>?_);rw[<-hW]at S2;clear hW;obtain⟨cM,cN,dN,dO⟩:=S2.o.b.t.c4;go_wp2_with fail;clear cM cN dN dO;refine(iZ (s) S2.o.n.rx.den HS.o).mono ?_;rintro e w2 ⟨rfl,hB⟩;have S3:=hid ((S2.o.step hB));clear S2 hB;obtain⟨cM,cN,dN,dO⟩:=S3.o.b.t.c4;obtain⟨cI,cJ⟩:=S3.o.b.c2;obtain⟨kK,kL⟩:=S3.o.b.f2;go_wp2_with fail;have S4:Hid (Sx w _ [⟨(w.heap.size+1),[ah8 k,ah7 bo l cb]⟩,⟨w.heap.size,[ah8 m,ah7 ao n ae,ah8 k,ah7 bo l cb]⟩] _):=hid (Sx.set [] _ (Sx.set [] _ S3.o 0 (ah8 k)) 1 (ah7 bo l cb));clear S3;refine bodyPost_ret (v:= .agg #[ah8 k,ah7 bo l cb]) (by simp[results,Tryz.results80,go_sem,cI,cJ]) rfl ?_;exact⟨_,_,_,_,rfl,(by rw[NF H0.o];exact S4.o.n.rx.den),S4.o.h⟩
theorem NI [Ol] {m:Bool} {ao:Z'} {n ae:Nat} {k:Bool} {bo:Z'} {l cb:Nat} {x d:Int} {q:Rat} {j:Nat} {w:ah5} (hx:Rx w m ao n ae k bo l cb x d q j) (h:d=0):
  Calls Tryz.prog 80 #[.agg #[ah8 m,ah7 ao n ae,ah8 k,ah7 bo l cb]] w (UY w (dn d)):=by
 obtain⟨s,hs⟩:∃s,d.sign=s:=⟨_,rfl⟩;have e1:(s==0)=true:=by rw[<-hs];simp[ai9];exact h
 have HS:=hid hs;have H0:=hid h;clear hs h;go_enter Tryz.func80,Tryz.ntmps80;have S0:=hid (Sx.start (w:=w) (N:=[.rx m ao n ae k bo l cb x d q j]) ⟨hx,trivial⟩);clear hx;have S1:=hid (S0.o.var w.heap.size [ah8 m,ah7 ao n ae,ah8 k,ah7 bo l cb] 31 (by simp));clear S0;have S2:=hid (S1.o.var (w.heap.size+1) [ah8 false,ah7 none 0 0] 29 (by simp));clear S1;go_upto_region 1 with(fail)
 refine aj (λw1 hW=>?_);rw[<-hW]at S2;clear hW;obtain⟨cM,cN,dN,dO⟩:=S2.o.b.t.c4;go_wp2_with fail;clear cM cN dN dO;refine(iZ (s) S2.o.n.rx.den HS.o).mono ?_;rintro e w2 ⟨rfl,hB⟩;have S3:=hid ((S2.o.step hB));clear S2 hB;go_wp2_with fail;refine(rX (1) _ ⟨by omega,by omega⟩).mono ?_;rintro e w3 ⟨aX,aY,aZ,bf,rfl,hX,hB⟩;have S4:=hid (((S3.o.step hB).cb (hX.cb (show Bd (1:Int) 1 by unfold Bd;decide) (by omega)) rfl));clear S3 hX hB;obtain⟨cI,cJ⟩:=S4.o.b.c2;obtain⟨kK,kL⟩:=S4.o.b.f2;go_wp2_with fail;have S5:Hid (Sx w _ [⟨(w.heap.size+1),[ah8 aX,ah7 aY aZ bf]⟩,⟨w.heap.size,[ah8 m,ah7 ao n ae,ah8 k,ah7 bo l cb]⟩] _):=hid (Sx.set [] _ (Sx.set [] _ S4.o 0 (ah8 aX)) 1 (ah7 aY aZ bf));clear S4;refine bodyPost_ret (v:= .agg #[ah8 aX,ah7 aY aZ bf]) (by simp[results,Tryz.results80,go_sem,cI,cJ]) rfl ?_;exact⟨_,_,_,_,rfl,(by rw[Iq H0.o];exact S5.o.n.cb.cx.nx),S5.o.h⟩
theorem ep [Ol] {m:Bool} {ao:Z'} {n ae:Nat} {k:Bool} {bo:Z'} {l cb:Nat} {x d:Int} {q:Rat} {j:Nat} {w:ah5} (hx:Rx w m ao n ae k bo l cb x d q j):
  Calls Tryz.prog 80 #[.agg #[ah8 m,ah7 ao n ae,ah8 k,ah7 bo l cb]] w (UY w (dn d)):=by
 by_cases h:d=0
 ·exact NI hx h
 ·exact NH hx h
end
section
open Lib (hid)
open Go.RowKit
theorem Ge [Ol] {m:Bool} {ao:Z'} {n ae:Nat} {k:Bool} {bo:Z'} {l cb:Nat} {x d:Int} {q:Rat} {j:Nat} {w:ah5} (hx:Rx w m ao n ae k bo l cb x d q j) (h1:1<=j) (h2:j<=100000) (hp:0<dn d):
  Calls Tryz.prog 76 #[.agg #[ah8 m,ah7 ao n ae,ah8 k,ah7 bo l cb]] w (yy w q j):=by
 have hv:=hx.au;have hbn:Bd q.num j:=by rw[<-hv,gY];exact tD hx.bn (jr d)
 have hbd:Bd (q.den:Int) j:=by rw[<-hv,gY];exact tE (gy hx.bd h1) (jr d)
 have hg0:((ai8 x (dn d):Nat):Int)≠0:=by have:=ai5 x (jr d);omega
 obtain⟨g,hg⟩:∃g,((ai8 x (dn d):Nat):Int)=g:=⟨_,rfl⟩;have hgx:g ∣ x:=by rw[<-hg];exact ai2 _ _
 have hgd:g ∣ dn d:=by rw[<-hg];exact ai4 _ _
 rw[hg]at hg0;have HG:=hid hg;have JD:=hid hbn;have AO:=hid hbd;obtain⟨s,hs⟩:∃s,(dn d).sign=s:=⟨_,rfl⟩;have e1:decide (s<0)=false:=by rw[<-hs];simp;omega
 have H0:=hid hg0;have HR1:=hid (aj0 hgx);have HR2:=hid (aj0 hgd);have vv:Hid (x.tdiv g=q.num):=by rw[Hid,<-hv,gY,ku hp,<-hg]
 have HE2:Hid ((dn d).tdiv g=(q.den:Int)):=by rw[Hid,<-hv,gY,pV hp,<-hg]
 have HS:=hid hs;clear hs hv hbn hbd hg0 hg hgx hgd hp;go_enter Tryz.func76,Tryz.ntmps76;have S0:=hid (Sx.start (w:=w) (N:=[.rx m ao n ae k bo l cb x d q j]) ⟨hx,trivial⟩);clear hx;have S1:=hid (S0.o.var w.heap.size [ah8 m,ah7 ao n ae,ah8 k,ah7 bo l cb] 31 (by simp));clear S0;have S2:=hid (S1.o.var (w.heap.size+1) [ah8 false,ah7 none 0 0,ah8 false,ah7 none 0 0] 31 (by simp));clear S1;go_upto_region 1 with(fail)
 refine aj (λw1 hW=>?_);rw[<-hW]at S2;clear hW;obtain⟨cM,cN,dN,dO⟩:=S2.o.b.t.c4;go_wp2_with fail;clear cM cN dN dO;refine(ep S2.o.n.rx).mono ?_;rintro e w2 ⟨aX,aY,aZ,bf,rfl,hX,hB⟩;have S3:=hid (((S2.o.step hB).nb ⟨hX,gy S2.o.n.rx.bd (by omega)⟩ rfl));clear S2 hX hB;go_upto_region 2 with(fail)
 have S4:=hid (S3.o.var w2.heap.size [ah8 aX,ah7 aY aZ bf] 29 (by simp));clear S3;refine aj (λw3 hW=>?_);rw[<-hW]at S4;clear hW;obtain⟨cM,cN,dN,dO⟩:=S4.o.b.t.t.c4;obtain⟨bM,bN⟩:=S4.o.b.c2;go_wp2_with fail;clear cM cN dN dO bM bN;refine(wT S4.o.n.t.rx.num S4.o.n.nb.nx).mono ?_;rintro e w4 ⟨bO,bP,bQ,bR,rfl,hX,hB⟩;rw[HG.o]at hX;have S5:=hid (((S4.o.step hB).cb (hX.cb (HG.o▸wz S4.o.n.nb.bd (jr d)) (by omega)) rfl));clear S4 hX hB;go_upto_region 3 with(fail)
 have S6:=hid (S5.o.var w4.heap.size [ah8 bO,ah7 bP bQ bR] 29 (by simp));clear S5;refine aj (λw5 hW=>?_);rw[<-hW]at S6;clear hW;obtain⟨bM,bN⟩:=S6.o.b.t.c2;go_wp2_with fail;clear bM bN;refine(iZ (s) S6.o.n.t.nb.nx HS.o).mono ?_;rintro e w6 ⟨rfl,hB⟩;have S7:=hid ((S6.o.step hB));clear S6 hB;obtain⟨cM,cN,dN,dO⟩:=S7.o.b.t.t.t.c4;obtain⟨bK,bL⟩:=S7.o.b.c2;go_wp2_with fail;clear cM cN dN dO bK bL;refine(jx S7.o.n.t.t.rx.num S7.o.n.cb.cx.nx H0.o HR1.o).mono ?_;rintro e w7 ⟨cW,cX,cY,cZ,rfl,hX,hB⟩;rw[vv.o]at hX;have S8:=hid (((S7.o.step hB).cb (hX.cb JD.o (by omega)) rfl));clear S7 hX hB;obtain⟨cM,cN,dN,dO⟩:=S8.o.b.t.t.t.c4;obtain⟨rj,rp,rq,ru⟩:=S8.o.b.t.t.t.f4;go_upto_region 6 with(fail)
 clear cM cN dN dO rj rp rq ru;have S9:Hid (Sx w _ [⟨w4.heap.size,[ah8 bO,ah7 bP bQ bR]⟩,⟨w2.heap.size,[ah8 aX,ah7 aY aZ bf]⟩,⟨(w.heap.size+1),[ah8 false,ah7 none 0 0,ah8 false,ah7 none 0 0]⟩,⟨w.heap.size,[ah8 cW,ah7 cX cY cZ,ah8 k,ah7 bo l cb]⟩] _):=hid (Sx.set [⟨w4.heap.size,[ah8 bO,ah7 bP bQ bR]⟩,⟨w2.heap.size,[ah8 aX,ah7 aY aZ bf]⟩,⟨(w.heap.size+1),[ah8 false,ah7 none 0 0,ah8 false,ah7 none 0 0]⟩] _ (Sx.set [⟨w4.heap.size,[ah8 bO,ah7 bP bQ bR]⟩,⟨w2.heap.size,[ah8 aX,ah7 aY aZ bf]⟩,⟨(w.heap.size+1),[ah8 false,ah7 none 0 0,ah8 false,ah7 none 0 0]⟩] _ S8.o 0 (ah8 cW)) 1 (ah7 cX cY cZ));clear S8;refine aj (λw8 hW=>?_);rw[<-hW]at S9;clear hW;obtain⟨bM,bN⟩:=S9.o.b.t.c2;obtain⟨bK,bL⟩:=S9.o.b.c2;go_wp2_with fail;clear bM bN bK bL;refine(jx S9.o.n.t.t.nb.nx S9.o.n.t.cb.cx.nx H0.o HR2.o).mono ?_;rintro e w9 ⟨dP,dQ,dR,dS,rfl,hX,hB⟩;rw[HE2.o]at hX;have lI:=hid (((S9.o.step hB).cb (hX.cb AO.o (by omega)) rfl));clear S9 hX hB;obtain⟨cM,cN,dN,dO⟩:=lI.o.b.t.t.t.c4;obtain⟨rj,rp,rq,ru⟩:=lI.o.b.t.t.t.f4;go_upto_region 7 with(fail)
 clear cM cN dN dO rj rp rq ru;have nh:Hid (Sx w _ [⟨w4.heap.size,[ah8 bO,ah7 bP bQ bR]⟩,⟨w2.heap.size,[ah8 aX,ah7 aY aZ bf]⟩,⟨(w.heap.size+1),[ah8 false,ah7 none 0 0,ah8 false,ah7 none 0 0]⟩,⟨w.heap.size,[ah8 cW,ah7 cX cY cZ,ah8 dP,ah7 dQ dR dS]⟩] _):=hid (Sx.set [⟨w4.heap.size,[ah8 bO,ah7 bP bQ bR]⟩,⟨w2.heap.size,[ah8 aX,ah7 aY aZ bf]⟩,⟨(w.heap.size+1),[ah8 false,ah7 none 0 0,ah8 false,ah7 none 0 0]⟩] _ (Sx.set [⟨w4.heap.size,[ah8 bO,ah7 bP bQ bR]⟩,⟨w2.heap.size,[ah8 aX,ah7 aY aZ bf]⟩,⟨(w.heap.size+1),[ah8 false,ah7 none 0 0,ah8 false,ah7 none 0 0]⟩] _ lI.o 2 (ah8 dP)) 3 (ah7 dQ dR dS));clear lI;refine aj (λPJ hW=>?_);rw[<-hW]at nh;clear hW;obtain⟨cM,cN,dN,dO⟩:=nh.o.b.t.t.t.c4;obtain⟨cI,cJ,dE,dF⟩:=nh.o.b.t.t.c4;obtain⟨kK,kL,nD,nE⟩:=nh.o.b.t.t.f4;go_wp2_with fail;have oJ:Hid (Sx w _ [⟨w4.heap.size,[ah8 bO,ah7 bP bQ bR]⟩,⟨w2.heap.size,[ah8 aX,ah7 aY aZ bf]⟩,⟨(w.heap.size+1),[ah8 cW,ah7 cX cY cZ,ah8 dP,ah7 dQ dR dS]⟩,⟨w.heap.size,[ah8 cW,ah7 cX cY cZ,ah8 dP,ah7 dQ dR dS]⟩] _):=hid (Sx.set [⟨w4.heap.size,[ah8 bO,ah7 bP bQ bR]⟩,⟨w2.heap.size,[ah8 aX,ah7 aY aZ bf]⟩] _ (Sx.set [⟨w4.heap.size,[ah8 bO,ah7 bP bQ bR]⟩,⟨w2.heap.size,[ah8 aX,ah7 aY aZ bf]⟩] _ (Sx.set [⟨w4.heap.size,[ah8 bO,ah7 bP bQ bR]⟩,⟨w2.heap.size,[ah8 aX,ah7 aY aZ bf]⟩] _ (Sx.set [⟨w4.heap.size,[ah8 bO,ah7 bP bQ bR]⟩,⟨w2.heap.size,[ah8 aX,ah7 aY aZ bf]⟩] _ nh.o 0 (ah8 cW)) 1 (ah7 cX cY cZ)) 2 (ah8 dP)) 3 (ah7 dQ dR dS));clear nh;refine bodyPost_ret (v:= .agg #[ah8 cW,ah7 cX cY cZ,ah8 dP,ah7 dQ dR dS]) (by simp[results,Tryz.results76,go_sem,cI,cJ,dE,dF]) rfl ?_;exact⟨_,_,_,_,_,_,_,_,rfl,⟨oJ.o.n.t.cb.cx,oJ.o.n.cb.cx,oJ.o.n.t.cb.bd,oJ.o.n.cb.bd⟩,oJ.o.h⟩
theorem Gf [Ol] {m:Bool} {ao:Z'} {n ae:Nat} {k:Bool} {bo:Z'} {l cb:Nat} {x d:Int} {q:Rat} {j:Nat} {w:ah5} (hx:Rx w m ao n ae k bo l cb x d q j) (h1:1<=j) (h2:j<=100000) (hp:dn d<0):
  Calls Tryz.prog 76 #[.agg #[ah8 m,ah7 ao n ae,ah8 k,ah7 bo l cb]] w (yy w q j):=by
 have hv:=hx.au;have hbn:Bd q.num j:=by rw[<-hv,gY];exact tD hx.bn (jr d)
 have hbd:Bd (q.den:Int) j:=by rw[<-hv,gY];exact tE (gy hx.bd h1) (jr d)
 have hg0:((ai8 x (dn d):Nat):Int)≠0:=by have:=ai5 x (jr d);omega
 obtain⟨g,hg⟩:∃g,((ai8 x (dn d):Nat):Int)=g:=⟨_,rfl⟩;have hgx:g ∣ x:=by rw[<-hg];exact ai2 _ _
 have hgd:g ∣ dn d:=by rw[<-hg];exact ai4 _ _
 rw[hg]at hg0;have HG:=hid hg;have JD:=hid hbn;have AO:=hid hbd;obtain⟨s,hs⟩:∃s,(dn d).sign=s:=⟨_,rfl⟩;have e1:decide (s<0)=true:=by rw[<-hs];simp;omega
 have H0:Hid (-g≠0):=by show-g≠0;omega
 have HR1:Hid (x.tmod (-g)=0):=by rw[Hid,aj1];exact aj0 hgx
 have HR2:Hid ((dn d).tmod (-g)=0):=by rw[Hid,aj1];exact aj0 hgd
 have vv:Hid (x.tdiv (-g)=q.num):=by rw[Hid,<-hv,gY,zf hp,<-hg,aj2,aj3,aj4,aj5]
 have HE2:Hid ((dn d).tdiv (-g)=(q.den:Int)):=by rw[Hid,<-hv,gY,zg hp,<-hg,aj2,aj3,aj4,aj5]
 have HS:=hid hs;clear hs hv hbn hbd hg0 hg hgx hgd hp;go_enter Tryz.func76,Tryz.ntmps76;have S0:=hid (Sx.start (w:=w) (N:=[.rx m ao n ae k bo l cb x d q j]) ⟨hx,trivial⟩);clear hx;have S1:=hid (S0.o.var w.heap.size [ah8 m,ah7 ao n ae,ah8 k,ah7 bo l cb] 31 (by simp));clear S0;have S2:=hid (S1.o.var (w.heap.size+1) [ah8 false,ah7 none 0 0,ah8 false,ah7 none 0 0] 31 (by simp));clear S1;go_upto_region 1 with(fail)
 refine aj (λw1 hW=>?_);rw[<-hW]at S2;clear hW;obtain⟨cM,cN,dN,dO⟩:=S2.o.b.t.c4;go_wp2_with fail;clear cM cN dN dO;refine(ep S2.o.n.rx).mono ?_;rintro e w2 ⟨aX,aY,aZ,bf,rfl,hX,hB⟩;have S3:=hid (((S2.o.step hB).nb ⟨hX,gy S2.o.n.rx.bd (by omega)⟩ rfl));clear S2 hX hB;go_upto_region 2 with(fail)
 have S4:=hid (S3.o.var w2.heap.size [ah8 aX,ah7 aY aZ bf] 29 (by simp));clear S3;refine aj (λw3 hW=>?_);rw[<-hW]at S4;clear hW;obtain⟨cM,cN,dN,dO⟩:=S4.o.b.t.t.c4;obtain⟨bM,bN⟩:=S4.o.b.c2;go_wp2_with fail;clear cM cN dN dO bM bN;refine(wT S4.o.n.t.rx.num S4.o.n.nb.nx).mono ?_;rintro e w4 ⟨bO,bP,bQ,bR,rfl,hX,hB⟩;rw[HG.o]at hX;have S5:=hid (((S4.o.step hB).cb (hX.cb (HG.o▸wz S4.o.n.nb.bd (jr d)) (by omega)) rfl));clear S4 hX hB;go_upto_region 3 with(fail)
 have S6:=hid (S5.o.var w4.heap.size [ah8 bO,ah7 bP bQ bR] 29 (by simp));clear S5;refine aj (λw5 hW=>?_);rw[<-hW]at S6;clear hW;obtain⟨bM,bN⟩:=S6.o.b.t.c2;go_wp2_with fail;clear bM bN;refine(iZ (s) S6.o.n.t.nb.nx HS.o).mono ?_;rintro e w6 ⟨rfl,hB⟩;have S7:=hid ((S6.o.step hB));clear S6 hB;obtain⟨bK,bL⟩:=S7.o.b.c2;go_wp2_with fail;clear bK bL;refine(CL S7.o.n.cb.cx.nx).mono ?_;rintro e w7 ⟨cW,cX,cY,cZ,rfl,hX,hB⟩;have S8:=hid (((S7.o.step hB).cb (hX.cb S7.o.n.cb.bd.neg (by omega)) rfl));clear S7 hX hB;obtain⟨bK,bL⟩:=S8.o.b.c2;obtain⟨dL,dM⟩:=S8.o.b.f2;go_upto_region 5 with(fail)
 clear bK bL dL dM;have S9:Hid (Sx w _ [⟨w4.heap.size,[ah8 cW,ah7 cX cY cZ]⟩,⟨w2.heap.size,[ah8 aX,ah7 aY aZ bf]⟩,⟨(w.heap.size+1),[ah8 false,ah7 none 0 0,ah8 false,ah7 none 0 0]⟩,⟨w.heap.size,[ah8 m,ah7 ao n ae,ah8 k,ah7 bo l cb]⟩] _):=hid (Sx.set [] _ (Sx.set [] _ S8.o 0 (ah8 cW)) 1 (ah7 cX cY cZ));clear S8;refine aj (λw8 hW=>?_);rw[<-hW]at S9;clear hW;obtain⟨cM,cN,dN,dO⟩:=S9.o.b.t.t.t.c4;obtain⟨bK,bL⟩:=S9.o.b.c2;go_wp2_with fail;clear cM cN dN dO bK bL;refine(jx S9.o.n.t.t.t.rx.num S9.o.n.cb.cx.nx H0.o HR1.o).mono ?_;rintro e w9 ⟨dP,dQ,dR,dS,rfl,hX,hB⟩;rw[vv.o]at hX;have lI:=hid (((S9.o.step hB).cb (hX.cb JD.o (by omega)) rfl));clear S9 hX hB;obtain⟨cM,cN,dN,dO⟩:=lI.o.b.t.t.t.c4;obtain⟨rj,rp,rq,ru⟩:=lI.o.b.t.t.t.f4;go_upto_region 6 with(fail)
 clear cM cN dN dO rj rp rq ru;have nh:Hid (Sx w _ [⟨w4.heap.size,[ah8 cW,ah7 cX cY cZ]⟩,⟨w2.heap.size,[ah8 aX,ah7 aY aZ bf]⟩,⟨(w.heap.size+1),[ah8 false,ah7 none 0 0,ah8 false,ah7 none 0 0]⟩,⟨w.heap.size,[ah8 dP,ah7 dQ dR dS,ah8 k,ah7 bo l cb]⟩] _):=hid (Sx.set [⟨w4.heap.size,[ah8 cW,ah7 cX cY cZ]⟩,⟨w2.heap.size,[ah8 aX,ah7 aY aZ bf]⟩,⟨(w.heap.size+1),[ah8 false,ah7 none 0 0,ah8 false,ah7 none 0 0]⟩] _ (Sx.set [⟨w4.heap.size,[ah8 cW,ah7 cX cY cZ]⟩,⟨w2.heap.size,[ah8 aX,ah7 aY aZ bf]⟩,⟨(w.heap.size+1),[ah8 false,ah7 none 0 0,ah8 false,ah7 none 0 0]⟩] _ lI.o 0 (ah8 dP)) 1 (ah7 dQ dR dS));clear lI;refine aj (λPJ hW=>?_);rw[<-hW]at nh;clear hW;obtain⟨bM,bN⟩:=nh.o.b.t.c2;obtain⟨bK,bL⟩:=nh.o.b.c2;go_wp2_with fail;clear bM bN bK bL;refine(jx nh.o.n.t.t.t.nb.nx nh.o.n.t.cb.cx.nx H0.o HR2.o).mono ?_;rintro e Hs ⟨ji,jk,jl,jm,rfl,hX,hB⟩;rw[HE2.o]at hX;have oJ:=hid (((nh.o.step hB).cb (hX.cb AO.o (by omega)) rfl));clear nh hX hB;obtain⟨cM,cN,dN,dO⟩:=oJ.o.b.t.t.t.c4;obtain⟨rj,rp,rq,ru⟩:=oJ.o.b.t.t.t.f4;go_upto_region 7 with(fail)
 clear cM cN dN dO rj rp rq ru;have oK:Hid (Sx w _ [⟨w4.heap.size,[ah8 cW,ah7 cX cY cZ]⟩,⟨w2.heap.size,[ah8 aX,ah7 aY aZ bf]⟩,⟨(w.heap.size+1),[ah8 false,ah7 none 0 0,ah8 false,ah7 none 0 0]⟩,⟨w.heap.size,[ah8 dP,ah7 dQ dR dS,ah8 ji,ah7 jk jl jm]⟩] _):=hid (Sx.set [⟨w4.heap.size,[ah8 cW,ah7 cX cY cZ]⟩,⟨w2.heap.size,[ah8 aX,ah7 aY aZ bf]⟩,⟨(w.heap.size+1),[ah8 false,ah7 none 0 0,ah8 false,ah7 none 0 0]⟩] _ (Sx.set [⟨w4.heap.size,[ah8 cW,ah7 cX cY cZ]⟩,⟨w2.heap.size,[ah8 aX,ah7 aY aZ bf]⟩,⟨(w.heap.size+1),[ah8 false,ah7 none 0 0,ah8 false,ah7 none 0 0]⟩] _ oJ.o 2 (ah8 ji)) 3 (ah7 jk jl jm));clear oJ;refine aj (λLY hW=>?_);rw[<-hW]at oK;clear hW;obtain⟨cM,cN,dN,dO⟩:=oK.o.b.t.t.t.c4;obtain⟨cI,cJ,dE,dF⟩:=oK.o.b.t.t.c4;obtain⟨kK,kL,nD,nE⟩:=oK.o.b.t.t.f4;go_wp2_with fail;have uW:Hid (Sx w _ [⟨w4.heap.size,[ah8 cW,ah7 cX cY cZ]⟩,⟨w2.heap.size,[ah8 aX,ah7 aY aZ bf]⟩,⟨(w.heap.size+1),[ah8 dP,ah7 dQ dR dS,ah8 ji,ah7 jk jl jm]⟩,⟨w.heap.size,[ah8 dP,ah7 dQ dR dS,ah8 ji,ah7 jk jl jm]⟩] _):=hid (Sx.set [⟨w4.heap.size,[ah8 cW,ah7 cX cY cZ]⟩,⟨w2.heap.size,[ah8 aX,ah7 aY aZ bf]⟩] _ (Sx.set [⟨w4.heap.size,[ah8 cW,ah7 cX cY cZ]⟩,⟨w2.heap.size,[ah8 aX,ah7 aY aZ bf]⟩] _ (Sx.set [⟨w4.heap.size,[ah8 cW,ah7 cX cY cZ]⟩,⟨w2.heap.size,[ah8 aX,ah7 aY aZ bf]⟩] _ (Sx.set [⟨w4.heap.size,[ah8 cW,ah7 cX cY cZ]⟩,⟨w2.heap.size,[ah8 aX,ah7 aY aZ bf]⟩] _ oK.o 0 (ah8 dP)) 1 (ah7 dQ dR dS)) 2 (ah8 ji)) 3 (ah7 jk jl jm));clear oK;refine bodyPost_ret (v:= .agg #[ah8 dP,ah7 dQ dR dS,ah8 ji,ah7 jk jl jm]) (by simp[results,Tryz.results76,go_sem,cI,cJ,dE,dF]) rfl ?_;exact⟨_,_,_,_,_,_,_,_,rfl,⟨uW.o.n.t.cb.cx,uW.o.n.cb.cx,uW.o.n.t.cb.bd,uW.o.n.cb.bd⟩,uW.o.h⟩
theorem ry [Ol] {m:Bool} {ao:Z'} {n ae:Nat} {k:Bool} {bo:Z'} {l cb:Nat} {x d:Int} {q:Rat} {j:Nat} {w:ah5} (hx:Rx w m ao n ae k bo l cb x d q j) (h1:1<=j) (h2:j<=100000):
  Calls Tryz.prog 76 #[.agg #[ah8 m,ah7 ao n ae,ah8 k,ah7 bo l cb]] w (yy w q j):=by
 by_cases h:0<dn d
 ·exact Ge hx h1 h2 h
 ·exact Gf hx h1 h2 (by have:=jr d;omega)
end
section
open Lib (hid)
open Go.RowKit
def UZ (w:ah5) (m:Bool) (ao:Option Addr) (n ae:Nat) (k:Bool) (bo:Option Addr) (l cb:Nat) (m2:Bool) (a2:Option Addr) (n2 c2:Nat) (k2:Bool) (b2:Option Addr) (l2 d2:Nat) (zx zy:Int) (j i:Nat) (e:Ending) (w':ah5):Prop:=
 ∃p0 p1 p2 p3 u v s t u' v' s' t',e= .returned (.func (.func 128) #[] #[.pointer (some ⟨p0,0,none⟩),.pointer (some ⟨p1,0,none⟩),.pointer (some ⟨p2,0,none⟩),.pointer (some ⟨p3,0,none⟩)])/\
  dw w' p0 [ah8 m,ah7 ao n ae,ah8 k,ah7 bo l cb]/\ dw w' p1 [ah8 u,ah7 v s t]/\ dw w' p2 [ah8 m2,ah7 a2 n2 c2,ah8 k2,ah7 b2 l2 d2]/\ dw w' p3 [ah8 u',ah7 v' s' t']/\
  Nb w' u v s t zy i/\ Nb w' u' v' s' t' zx j/\ Below w.heap.size w w'
theorem ID [Ol] {m:Bool} {ao:Z'} {n ae:Nat} {k:Bool} {bo:Z'} {l cb:Nat} {m2:Bool} {a2:Z'} {n2 c2:Nat} {k2:Bool} {b2:Z'} {l2 d2:Nat} {x d y c:Int} {q r:Rat} {j i:Nat} {w:ah5} (hx:Rx w m ao n ae k bo l cb x d q j) (hy:Rx w m2 a2 n2 c2 k2 b2 l2 d2 y c r i) (hj:1<=j) (hi:1<=i):
  Calls Tryz.prog 77 #[.agg #[ah8 m,ah7 ao n ae,ah8 k,ah7 bo l cb],.agg #[ah8 m2,ah7 a2 n2 c2,ah8 k2,ah7 b2 l2 d2]] w (UZ w m ao n ae k bo l cb m2 a2 n2 c2 k2 b2 l2 d2 (dn d) (dn c) j i):=by
 have WA:∀(fn:Fn) (first ae:Array Value) (w:ah5),(Instr.makeFunc fn first ae).run Tryz.prog w= .ok (.func fn first ae) w:=λ_ _ _ _=>rfl
 go_enter Tryz.func77,Tryz.ntmps77;have S0:=hid (Sx.start (w:=w) (N:=[.rx m ao n ae k bo l cb x d q j,.rx m2 a2 n2 c2 k2 b2 l2 d2 y c r i]) ⟨hx,hy,trivial⟩);clear hx hy;have S1:=hid (S0.o.var w.heap.size [ah8 m,ah7 ao n ae,ah8 k,ah7 bo l cb] 31 (by simp));clear S0;have S2:=hid (S1.o.var (w.heap.size+1) [ah8 m2,ah7 a2 n2 c2,ah8 k2,ah7 b2 l2 d2] 31 (by simp));clear S1;go_upto_region 1 with(fail)
 refine aj (λw1 hW=>?_);rw[<-hW]at S2;clear hW;go_cut [5,6]from 7 to 11 (λsl0 sl1 w9=>∃(qb5:Nat) (U6:Nat) (bO:Bool) (bP:Option Addr) (bQ:Nat) (bR:Nat) (aX:Bool) (aY:Option Addr) (aZ:Nat) (bf:Nat),sl0= .pointer (some ⟨qb5,0,none⟩)/\ sl1= .pointer (some ⟨U6,0,none⟩)/\ Hid (Sx w w9 [⟨U6,[ah8 bO,ah7 bP bQ bR]⟩,⟨qb5,[ah8 aX,ah7 aY aZ bf]⟩,⟨(w.heap.size+1),[ah8 m2,ah7 a2 n2 c2,ah8 k2,ah7 b2 l2 d2]⟩,⟨w.heap.size,[ah8 m,ah7 ao n ae,ah8 k,ah7 bo l cb]⟩] [.nb bO bP bQ bR (dn c) i,.nb aX aY aZ bf (dn d) j,.rx m ao n ae k bo l cb x d q j,.rx m2 a2 n2 c2 k2 b2 l2 d2 y c r i]))
 case first=>
  have S3:=hid S2.o.drew;clear S2;refine wp_region_held_drew (S:=λw'=>(w'.cell? ⟨w.heap.size,0,none⟩=some (ah8 m)/\ w'.cell? ⟨w.heap.size,1,none⟩=some (ah7 ao n ae)/\ w'.cell? ⟨w.heap.size,2,none⟩=some (ah8 k)/\ w'.cell? ⟨w.heap.size,3,none⟩=some (ah7 bo l cb))/\ (w'.cell? ⟨(w.heap.size+1),0,none⟩=some (ah8 m2)/\ w'.cell? ⟨(w.heap.size+1),1,none⟩=some (ah7 a2 n2 c2)/\ w'.cell? ⟨(w.heap.size+1),2,none⟩=some (ah8 k2)/\ w'.cell? ⟨(w.heap.size+1),3,none⟩=some (ah7 b2 l2 d2))) (by kernel_rfl) (⟨S3.o.b.t.c4,S3.o.b.c4⟩) (λhH=>?_);refine ah (λw2 hW=>?_);rw[<-hW]at S3 hH;clear hW;refine aT 0 hH ?_;try simp only[ax]
  refine aT 2 hH ?_;try simp only[ax]
  refine wpAnyH_ready (rs:=[1,4,5]) (by kernel_rfl) (by simp) (aM rfl (λK hK=>?_) (aM rfl (λK hK=>?_) (aM rfl (λK hK=>?_) (ah6))))
  ·go_simp;refine(ep S3.o.n.rx).mono ?_;rintro e w3 ⟨aX,aY,aZ,bf,rfl,hX,hB⟩;have S4:=hid (((S3.o.step hB).nb ⟨hX,gy S3.o.n.rx.bd (by omega)⟩ rfl));clear S3 hX hB;go_wp2_with fail;refine hK.o _ _ ⟨S4.o.b.t.c4,S4.o.b.c4⟩ (λh2=>?_);clear hK K hH;have hH:=h2;clear h2
   try simp only[ax]
   refine wpAnyH_ready (rs:=[3,4,5]) (by kernel_rfl) (by simp) (aM rfl (λK hK=>?_) (aM rfl (λK hK=>?_) (aM rfl (λK hK=>?_) (ah6))))
   ·go_simp;refine(ep S4.o.n.t.t.rx).mono ?_;rintro e w4 ⟨bO,bP,bQ,bR,rfl,hX,hB⟩;have S5:=hid (((S4.o.step hB).nb ⟨hX,gy S4.o.n.t.t.rx.bd (by omega)⟩ rfl));clear S4 hX hB;go_wp2_with fail;refine hK.o _ _ ⟨S5.o.b.t.c4,S5.o.b.c4⟩ (λh2=>?_);clear hK K hH;have hH:=h2;clear h2
    try simp only[ax]
    refine wpAnyH_ready (rs:=[4,5]) (by kernel_rfl) (by simp) (aM rfl (λK hK=>?_) (aM rfl (λK hK=>?_) (ah6)))
    ·go_simp;have S6:=hid (S5.o.var w4.heap.size [ah8 false,ah7 none 0 0] 29 (by simp));clear S5;refine hK.o _ _ ⟨S6.o.b.t.t.c4,S6.o.b.t.c4⟩ (λh2=>?_);clear hK K hH;have hH:=h2;clear h2
     try simp only[ax]
     refine ah (λw5 hW=>?_);rw[<-hW]at S6 hH;clear hW;refine ag 5 rfl (by kernel_rfl) (λK hK=>?_);go_simp;have S7:=hid (S6.o.var w5.heap.size [ah8 false,ah7 none 0 0] 29 (by simp));clear S6;refine hK.o _ _ ⟨S7.o.b.t.t.t.c4,S7.o.b.t.t.c4⟩ (λh2=>?_);clear hK K hH;have hH:=h2;clear h2
     try simp only[ax]
     refine ah (λw6 hW=>?_);rw[<-hW]at S7 hH;clear hW;refine ag 6 rfl (by kernel_rfl) (λK hK=>?_);obtain⟨cG,cH⟩:=S7.o.b.t.c2;obtain⟨eU,eV⟩:=S7.o.b.t.f2;go_simp;clear cG cH eU eV;have S8:Hid (Sx w _ [⟨w5.heap.size,[ah8 false,ah7 none 0 0]⟩,⟨w4.heap.size,[ah8 aX,ah7 aY aZ bf]⟩,⟨(w.heap.size+1),[ah8 m2,ah7 a2 n2 c2,ah8 k2,ah7 b2 l2 d2]⟩,⟨w.heap.size,[ah8 m,ah7 ao n ae,ah8 k,ah7 bo l cb]⟩] _):=hid (Sx.set [⟨w5.heap.size,[ah8 false,ah7 none 0 0]⟩] _ (Sx.set [⟨w5.heap.size,[ah8 false,ah7 none 0 0]⟩] _ S7.o 0 (ah8 aX)) 1 (ah7 aY aZ bf));clear S7;refine hK.o _ _ ⟨S8.o.b.t.t.t.c4,S8.o.b.t.t.c4⟩ (λh2=>?_);clear hK K hH;have hH:=h2;clear h2
     try simp only[ax]
     refine ah (λw7 hW=>?_);rw[<-hW]at S8 hH;clear hW;refine ag 7 rfl (by kernel_rfl) (λK hK=>?_);obtain⟨cy,cA⟩:=S8.o.b.c2;obtain⟨cQ,cR⟩:=S8.o.b.f2;go_simp;clear cy cA cQ cR;have S9:Hid (Sx w _ [⟨w5.heap.size,[ah8 bO,ah7 bP bQ bR]⟩,⟨w4.heap.size,[ah8 aX,ah7 aY aZ bf]⟩,⟨(w.heap.size+1),[ah8 m2,ah7 a2 n2 c2,ah8 k2,ah7 b2 l2 d2]⟩,⟨w.heap.size,[ah8 m,ah7 ao n ae,ah8 k,ah7 bo l cb]⟩] _):=hid (Sx.set [] _ (Sx.set [] _ S8.o 0 (ah8 bO)) 1 (ah7 bP bQ bR));clear S8;refine hK.o _ _ ⟨S9.o.b.t.t.t.c4,S9.o.b.t.t.c4⟩ (λh2=>?_);clear hK K hH;have hH:=h2;clear h2
     try simp only[ax]
     refine ah (λw8 hW=>?_);rw[<-hW]at S9 hH;clear hW;refine wpAnyH_done (by kernel_rfl) ?_ _
     clear hH;go_wp2_with fail;go_meet
     case rel=>exact⟨_,_,_,_,_,_,_,_,_,_,rfl,rfl,S9.o⟩
    ·go_simp;have S6:=hid (S5.o.var w4.heap.size [ah8 false,ah7 none 0 0] 29 (by simp));clear S5;refine hK.o _ _ ⟨S6.o.b.t.t.c4,S6.o.b.t.c4⟩ (λh2=>?_);clear hK K hH;have hH:=h2;clear h2
     try simp only[ax]
     refine ah (λw5 hW=>?_);rw[<-hW]at S6 hH;clear hW;refine ag 4 rfl (by kernel_rfl) (λK hK=>?_);go_simp;have S7:=hid (S6.o.var w5.heap.size [ah8 false,ah7 none 0 0] 29 (by simp));clear S6;refine hK.o _ _ ⟨S7.o.b.t.t.t.c4,S7.o.b.t.t.c4⟩ (λh2=>?_);clear hK K hH;have hH:=h2;clear h2
     try simp only[ax]
     refine ah (λw6 hW=>?_);rw[<-hW]at S7 hH;clear hW;refine ag 6 rfl (by kernel_rfl) (λK hK=>?_);obtain⟨cG,cH⟩:=S7.o.b.c2;obtain⟨eU,eV⟩:=S7.o.b.f2;go_simp;clear cG cH eU eV;have S8:Hid (Sx w _ [⟨w5.heap.size,[ah8 aX,ah7 aY aZ bf]⟩,⟨w4.heap.size,[ah8 false,ah7 none 0 0]⟩,⟨(w.heap.size+1),[ah8 m2,ah7 a2 n2 c2,ah8 k2,ah7 b2 l2 d2]⟩,⟨w.heap.size,[ah8 m,ah7 ao n ae,ah8 k,ah7 bo l cb]⟩] _):=hid (Sx.set [] _ (Sx.set [] _ S7.o 0 (ah8 aX)) 1 (ah7 aY aZ bf));clear S7;refine hK.o _ _ ⟨S8.o.b.t.t.t.c4,S8.o.b.t.t.c4⟩ (λh2=>?_);clear hK K hH;have hH:=h2;clear h2
     try simp only[ax]
     refine ah (λw7 hW=>?_);rw[<-hW]at S8 hH;clear hW;refine ag 7 rfl (by kernel_rfl) (λK hK=>?_);obtain⟨cy,cA⟩:=S8.o.b.t.c2;obtain⟨cQ,cR⟩:=S8.o.b.t.f2;go_simp;clear cy cA cQ cR;have S9:Hid (Sx w _ [⟨w5.heap.size,[ah8 aX,ah7 aY aZ bf]⟩,⟨w4.heap.size,[ah8 bO,ah7 bP bQ bR]⟩,⟨(w.heap.size+1),[ah8 m2,ah7 a2 n2 c2,ah8 k2,ah7 b2 l2 d2]⟩,⟨w.heap.size,[ah8 m,ah7 ao n ae,ah8 k,ah7 bo l cb]⟩] _):=hid (Sx.set [⟨w5.heap.size,[ah8 aX,ah7 aY aZ bf]⟩] _ (Sx.set [⟨w5.heap.size,[ah8 aX,ah7 aY aZ bf]⟩] _ S8.o 0 (ah8 bO)) 1 (ah7 bP bQ bR));clear S8;refine hK.o _ _ ⟨S9.o.b.t.t.t.c4,S9.o.b.t.t.c4⟩ (λh2=>?_);clear hK K hH;have hH:=h2;clear h2
     try simp only[ax]
     refine ah (λw8 hW=>?_);rw[<-hW]at S9 hH;clear hW;refine wpAnyH_done (by kernel_rfl) ?_ _
     clear hH;go_wp2_with fail;go_meet
     case rel=>exact⟨_,_,_,_,_,_,_,_,_,_,rfl,rfl,S9.o.Cf⟩
   ·go_simp;have S5:=hid (S4.o.var w3.heap.size [ah8 false,ah7 none 0 0] 29 (by simp));clear S4;refine hK.o _ _ ⟨S5.o.b.t.t.c4,S5.o.b.t.c4⟩ (λh2=>?_);clear hK K hH;have hH:=h2;clear h2
    try simp only[ax]
    refine ah (λw4 hW=>?_);rw[<-hW]at S5 hH;clear hW;refine wpAnyH_ready (rs:=[3,5]) (by kernel_rfl) (by simp) (aM rfl (λK hK=>?_) (aM rfl (λK hK=>?_) (ah6)))
    ·go_simp;refine(ep S5.o.n.t.t.rx).mono ?_;rintro e w5 ⟨bO,bP,bQ,bR,rfl,hX,hB⟩;have S6:=hid (((S5.o.step hB).nb ⟨hX,gy S5.o.n.t.t.rx.bd (by omega)⟩ rfl));clear S5 hX hB;go_wp2_with fail;refine hK.o _ _ ⟨S6.o.b.t.t.c4,S6.o.b.t.c4⟩ (λh2=>?_);clear hK K hH;have hH:=h2;clear h2
     try simp only[ax]
     refine ag 5 rfl (by kernel_rfl) (λK hK=>?_);go_simp;have S7:=hid (S6.o.var w5.heap.size [ah8 false,ah7 none 0 0] 29 (by simp));clear S6;refine hK.o _ _ ⟨S7.o.b.t.t.t.c4,S7.o.b.t.t.c4⟩ (λh2=>?_);clear hK K hH;have hH:=h2;clear h2
     try simp only[ax]
     refine ah (λw6 hW=>?_);rw[<-hW]at S7 hH;clear hW;refine ag 6 rfl (by kernel_rfl) (λK hK=>?_);obtain⟨cG,cH⟩:=S7.o.b.t.c2;obtain⟨eU,eV⟩:=S7.o.b.t.f2;go_simp;clear cG cH eU eV;have S8:Hid (Sx w _ [⟨w5.heap.size,[ah8 false,ah7 none 0 0]⟩,⟨w3.heap.size,[ah8 aX,ah7 aY aZ bf]⟩,⟨(w.heap.size+1),[ah8 m2,ah7 a2 n2 c2,ah8 k2,ah7 b2 l2 d2]⟩,⟨w.heap.size,[ah8 m,ah7 ao n ae,ah8 k,ah7 bo l cb]⟩] _):=hid (Sx.set [⟨w5.heap.size,[ah8 false,ah7 none 0 0]⟩] _ (Sx.set [⟨w5.heap.size,[ah8 false,ah7 none 0 0]⟩] _ S7.o 0 (ah8 aX)) 1 (ah7 aY aZ bf));clear S7;refine hK.o _ _ ⟨S8.o.b.t.t.t.c4,S8.o.b.t.t.c4⟩ (λh2=>?_);clear hK K hH;have hH:=h2;clear h2
     try simp only[ax]
     refine ah (λw7 hW=>?_);rw[<-hW]at S8 hH;clear hW;refine ag 7 rfl (by kernel_rfl) (λK hK=>?_);obtain⟨cy,cA⟩:=S8.o.b.c2;obtain⟨cQ,cR⟩:=S8.o.b.f2;go_simp;clear cy cA cQ cR;have S9:Hid (Sx w _ [⟨w5.heap.size,[ah8 bO,ah7 bP bQ bR]⟩,⟨w3.heap.size,[ah8 aX,ah7 aY aZ bf]⟩,⟨(w.heap.size+1),[ah8 m2,ah7 a2 n2 c2,ah8 k2,ah7 b2 l2 d2]⟩,⟨w.heap.size,[ah8 m,ah7 ao n ae,ah8 k,ah7 bo l cb]⟩] _):=hid (Sx.set [] _ (Sx.set [] _ S8.o 0 (ah8 bO)) 1 (ah7 bP bQ bR));clear S8;refine hK.o _ _ ⟨S9.o.b.t.t.t.c4,S9.o.b.t.t.c4⟩ (λh2=>?_);clear hK K hH;have hH:=h2;clear h2
     try simp only[ax]
     refine ah (λw8 hW=>?_);rw[<-hW]at S9 hH;clear hW;refine wpAnyH_done (by kernel_rfl) ?_ _
     clear hH;go_wp2_with fail;go_meet
     case rel=>exact⟨_,_,_,_,_,_,_,_,_,_,rfl,rfl,S9.o⟩
    ·go_simp;have S6:=hid (S5.o.var w4.heap.size [ah8 false,ah7 none 0 0] 29 (by simp));clear S5;refine hK.o _ _ ⟨S6.o.b.t.t.t.c4,S6.o.b.t.t.c4⟩ (λh2=>?_);clear hK K hH;have hH:=h2;clear h2
     try simp only[ax]
     refine ah (λw5 hW=>?_);rw[<-hW]at S6 hH;clear hW;refine ag 3 rfl (by kernel_rfl) (λK hK=>?_);go_simp;refine(ep S6.o.n.t.t.rx).mono ?_;rintro e w6 ⟨bO,bP,bQ,bR,rfl,hX,hB⟩;have S7:=hid (((S6.o.step hB).nb ⟨hX,gy S6.o.n.t.t.rx.bd (by omega)⟩ rfl));clear S6 hX hB;go_wp2_with fail;refine hK.o _ _ ⟨S7.o.b.t.t.t.c4,S7.o.b.t.t.c4⟩ (λh2=>?_);clear hK K hH;have hH:=h2;clear h2
     try simp only[ax]
     refine ag 6 rfl (by kernel_rfl) (λK hK=>?_);obtain⟨cG,cH⟩:=S7.o.b.t.c2;obtain⟨eU,eV⟩:=S7.o.b.t.f2;go_simp;clear cG cH eU eV;have S8:Hid (Sx w _ [⟨w4.heap.size,[ah8 false,ah7 none 0 0]⟩,⟨w3.heap.size,[ah8 aX,ah7 aY aZ bf]⟩,⟨(w.heap.size+1),[ah8 m2,ah7 a2 n2 c2,ah8 k2,ah7 b2 l2 d2]⟩,⟨w.heap.size,[ah8 m,ah7 ao n ae,ah8 k,ah7 bo l cb]⟩] _):=hid (Sx.set [⟨w4.heap.size,[ah8 false,ah7 none 0 0]⟩] _ (Sx.set [⟨w4.heap.size,[ah8 false,ah7 none 0 0]⟩] _ S7.o 0 (ah8 aX)) 1 (ah7 aY aZ bf));clear S7;refine hK.o _ _ ⟨S8.o.b.t.t.t.c4,S8.o.b.t.t.c4⟩ (λh2=>?_);clear hK K hH;have hH:=h2;clear h2
     try simp only[ax]
     refine ah (λw7 hW=>?_);rw[<-hW]at S8 hH;clear hW;refine ag 7 rfl (by kernel_rfl) (λK hK=>?_);obtain⟨cy,cA⟩:=S8.o.b.c2;obtain⟨cQ,cR⟩:=S8.o.b.f2;go_simp;clear cy cA cQ cR;have S9:Hid (Sx w _ [⟨w4.heap.size,[ah8 bO,ah7 bP bQ bR]⟩,⟨w3.heap.size,[ah8 aX,ah7 aY aZ bf]⟩,⟨(w.heap.size+1),[ah8 m2,ah7 a2 n2 c2,ah8 k2,ah7 b2 l2 d2]⟩,⟨w.heap.size,[ah8 m,ah7 ao n ae,ah8 k,ah7 bo l cb]⟩] _):=hid (Sx.set [] _ (Sx.set [] _ S8.o 0 (ah8 bO)) 1 (ah7 bP bQ bR));clear S8;refine hK.o _ _ ⟨S9.o.b.t.t.t.c4,S9.o.b.t.t.c4⟩ (λh2=>?_);clear hK K hH;have hH:=h2;clear h2
     try simp only[ax]
     refine ah (λw8 hW=>?_);rw[<-hW]at S9 hH;clear hW;refine wpAnyH_done (by kernel_rfl) ?_ _
     clear hH;go_wp2_with fail;go_meet
     case rel=>exact⟨_,_,_,_,_,_,_,_,_,_,rfl,rfl,S9.o⟩
   ·go_simp;have S5:=hid (S4.o.var w3.heap.size [ah8 false,ah7 none 0 0] 29 (by simp));clear S4;refine hK.o _ _ ⟨S5.o.b.t.t.c4,S5.o.b.t.c4⟩ (λh2=>?_);clear hK K hH;have hH:=h2;clear h2
    try simp only[ax]
    refine ah (λw4 hW=>?_);rw[<-hW]at S5 hH;clear hW;refine wpAnyH_ready (rs:=[3,4]) (by kernel_rfl) (by simp) (aM rfl (λK hK=>?_) (aM rfl (λK hK=>?_) (ah6)))
    ·go_simp;refine(ep S5.o.n.t.t.rx).mono ?_;rintro e w5 ⟨bO,bP,bQ,bR,rfl,hX,hB⟩;have S6:=hid (((S5.o.step hB).nb ⟨hX,gy S5.o.n.t.t.rx.bd (by omega)⟩ rfl));clear S5 hX hB;go_wp2_with fail;refine hK.o _ _ ⟨S6.o.b.t.t.c4,S6.o.b.t.c4⟩ (λh2=>?_);clear hK K hH;have hH:=h2;clear h2
     try simp only[ax]
     refine ag 4 rfl (by kernel_rfl) (λK hK=>?_);go_simp;have S7:=hid (S6.o.var w5.heap.size [ah8 false,ah7 none 0 0] 29 (by simp));clear S6;refine hK.o _ _ ⟨S7.o.b.t.t.t.c4,S7.o.b.t.t.c4⟩ (λh2=>?_);clear hK K hH;have hH:=h2;clear h2
     try simp only[ax]
     refine ah (λw6 hW=>?_);rw[<-hW]at S7 hH;clear hW;refine ag 6 rfl (by kernel_rfl) (λK hK=>?_);obtain⟨cG,cH⟩:=S7.o.b.c2;obtain⟨eU,eV⟩:=S7.o.b.f2;go_simp;clear cG cH eU eV;have S8:Hid (Sx w _ [⟨w5.heap.size,[ah8 aX,ah7 aY aZ bf]⟩,⟨w3.heap.size,[ah8 false,ah7 none 0 0]⟩,⟨(w.heap.size+1),[ah8 m2,ah7 a2 n2 c2,ah8 k2,ah7 b2 l2 d2]⟩,⟨w.heap.size,[ah8 m,ah7 ao n ae,ah8 k,ah7 bo l cb]⟩] _):=hid (Sx.set [] _ (Sx.set [] _ S7.o 0 (ah8 aX)) 1 (ah7 aY aZ bf));clear S7;refine hK.o _ _ ⟨S8.o.b.t.t.t.c4,S8.o.b.t.t.c4⟩ (λh2=>?_);clear hK K hH;have hH:=h2;clear h2
     try simp only[ax]
     refine ah (λw7 hW=>?_);rw[<-hW]at S8 hH;clear hW;refine ag 7 rfl (by kernel_rfl) (λK hK=>?_);obtain⟨cy,cA⟩:=S8.o.b.t.c2;obtain⟨cQ,cR⟩:=S8.o.b.t.f2;go_simp;clear cy cA cQ cR;have S9:Hid (Sx w _ [⟨w5.heap.size,[ah8 aX,ah7 aY aZ bf]⟩,⟨w3.heap.size,[ah8 bO,ah7 bP bQ bR]⟩,⟨(w.heap.size+1),[ah8 m2,ah7 a2 n2 c2,ah8 k2,ah7 b2 l2 d2]⟩,⟨w.heap.size,[ah8 m,ah7 ao n ae,ah8 k,ah7 bo l cb]⟩] _):=hid (Sx.set [⟨w5.heap.size,[ah8 aX,ah7 aY aZ bf]⟩] _ (Sx.set [⟨w5.heap.size,[ah8 aX,ah7 aY aZ bf]⟩] _ S8.o 0 (ah8 bO)) 1 (ah7 bP bQ bR));clear S8;refine hK.o _ _ ⟨S9.o.b.t.t.t.c4,S9.o.b.t.t.c4⟩ (λh2=>?_);clear hK K hH;have hH:=h2;clear h2
     try simp only[ax]
     refine ah (λw8 hW=>?_);rw[<-hW]at S9 hH;clear hW;refine wpAnyH_done (by kernel_rfl) ?_ _
     clear hH;go_wp2_with fail;go_meet
     case rel=>exact⟨_,_,_,_,_,_,_,_,_,_,rfl,rfl,S9.o.Cf⟩
    ·go_simp;have S6:=hid (S5.o.var w4.heap.size [ah8 false,ah7 none 0 0] 29 (by simp));clear S5;refine hK.o _ _ ⟨S6.o.b.t.t.t.c4,S6.o.b.t.t.c4⟩ (λh2=>?_);clear hK K hH;have hH:=h2;clear h2
     try simp only[ax]
     refine ah (λw5 hW=>?_);rw[<-hW]at S6 hH;clear hW;refine ag 3 rfl (by kernel_rfl) (λK hK=>?_);go_simp;refine(ep S6.o.n.t.t.rx).mono ?_;rintro e w6 ⟨bO,bP,bQ,bR,rfl,hX,hB⟩;have S7:=hid (((S6.o.step hB).nb ⟨hX,gy S6.o.n.t.t.rx.bd (by omega)⟩ rfl));clear S6 hX hB;go_wp2_with fail;refine hK.o _ _ ⟨S7.o.b.t.t.t.c4,S7.o.b.t.t.c4⟩ (λh2=>?_);clear hK K hH;have hH:=h2;clear h2
     try simp only[ax]
     refine ag 6 rfl (by kernel_rfl) (λK hK=>?_);obtain⟨cG,cH⟩:=S7.o.b.c2;obtain⟨eU,eV⟩:=S7.o.b.f2;go_simp;clear cG cH eU eV;have S8:Hid (Sx w _ [⟨w4.heap.size,[ah8 aX,ah7 aY aZ bf]⟩,⟨w3.heap.size,[ah8 false,ah7 none 0 0]⟩,⟨(w.heap.size+1),[ah8 m2,ah7 a2 n2 c2,ah8 k2,ah7 b2 l2 d2]⟩,⟨w.heap.size,[ah8 m,ah7 ao n ae,ah8 k,ah7 bo l cb]⟩] _):=hid (Sx.set [] _ (Sx.set [] _ S7.o 0 (ah8 aX)) 1 (ah7 aY aZ bf));clear S7;refine hK.o _ _ ⟨S8.o.b.t.t.t.c4,S8.o.b.t.t.c4⟩ (λh2=>?_);clear hK K hH;have hH:=h2;clear h2
     try simp only[ax]
     refine ah (λw7 hW=>?_);rw[<-hW]at S8 hH;clear hW;refine ag 7 rfl (by kernel_rfl) (λK hK=>?_);obtain⟨cy,cA⟩:=S8.o.b.t.c2;obtain⟨cQ,cR⟩:=S8.o.b.t.f2;go_simp;clear cy cA cQ cR;have S9:Hid (Sx w _ [⟨w4.heap.size,[ah8 aX,ah7 aY aZ bf]⟩,⟨w3.heap.size,[ah8 bO,ah7 bP bQ bR]⟩,⟨(w.heap.size+1),[ah8 m2,ah7 a2 n2 c2,ah8 k2,ah7 b2 l2 d2]⟩,⟨w.heap.size,[ah8 m,ah7 ao n ae,ah8 k,ah7 bo l cb]⟩] _):=hid (Sx.set [⟨w4.heap.size,[ah8 aX,ah7 aY aZ bf]⟩] _ (Sx.set [⟨w4.heap.size,[ah8 aX,ah7 aY aZ bf]⟩] _ S8.o 0 (ah8 bO)) 1 (ah7 bP bQ bR));clear S8;refine hK.o _ _ ⟨S9.o.b.t.t.t.c4,S9.o.b.t.t.c4⟩ (λh2=>?_);clear hK K hH;have hH:=h2;clear h2
     try simp only[ax]
     refine ah (λw8 hW=>?_);rw[<-hW]at S9 hH;clear hW;refine wpAnyH_done (by kernel_rfl) ?_ _
     clear hH;go_wp2_with fail;go_meet
     case rel=>exact⟨_,_,_,_,_,_,_,_,_,_,rfl,rfl,S9.o.Cf⟩
  ·go_simp;have S4:=hid (S3.o.var w2.heap.size [ah8 false,ah7 none 0 0] 29 (by simp));clear S3;refine hK.o _ _ ⟨S4.o.b.t.t.c4,S4.o.b.t.c4⟩ (λh2=>?_);clear hK K hH;have hH:=h2;clear h2
   try simp only[ax]
   refine ah (λw3 hW=>?_);rw[<-hW]at S4 hH;clear hW;refine wpAnyH_ready (rs:=[1,5]) (by kernel_rfl) (by simp) (aM rfl (λK hK=>?_) (aM rfl (λK hK=>?_) (ah6)))
   ·go_simp;refine(ep S4.o.n.rx).mono ?_;rintro e w4 ⟨aX,aY,aZ,bf,rfl,hX,hB⟩;have S5:=hid (((S4.o.step hB).nb ⟨hX,gy S4.o.n.rx.bd (by omega)⟩ rfl));clear S4 hX hB;go_wp2_with fail;refine hK.o _ _ ⟨S5.o.b.t.t.c4,S5.o.b.t.c4⟩ (λh2=>?_);clear hK K hH;have hH:=h2;clear h2
    try simp only[ax]
    refine wpAnyH_ready (rs:=[3,5]) (by kernel_rfl) (by simp) (aM rfl (λK hK=>?_) (aM rfl (λK hK=>?_) (ah6)))
    ·go_simp;refine(ep S5.o.n.t.t.rx).mono ?_;rintro e w5 ⟨bO,bP,bQ,bR,rfl,hX,hB⟩;have S6:=hid (((S5.o.step hB).nb ⟨hX,gy S5.o.n.t.t.rx.bd (by omega)⟩ rfl));clear S5 hX hB;go_wp2_with fail;refine hK.o _ _ ⟨S6.o.b.t.t.c4,S6.o.b.t.c4⟩ (λh2=>?_);clear hK K hH;have hH:=h2;clear h2
     try simp only[ax]
     refine ag 5 rfl (by kernel_rfl) (λK hK=>?_);go_simp;have S7:=hid (S6.o.var w5.heap.size [ah8 false,ah7 none 0 0] 29 (by simp));clear S6;refine hK.o _ _ ⟨S7.o.b.t.t.t.c4,S7.o.b.t.t.c4⟩ (λh2=>?_);clear hK K hH;have hH:=h2;clear h2
     try simp only[ax]
     refine ah (λw6 hW=>?_);rw[<-hW]at S7 hH;clear hW;refine ag 6 rfl (by kernel_rfl) (λK hK=>?_);obtain⟨cG,cH⟩:=S7.o.b.t.c2;obtain⟨eU,eV⟩:=S7.o.b.t.f2;go_simp;clear cG cH eU eV;have S8:Hid (Sx w _ [⟨w5.heap.size,[ah8 false,ah7 none 0 0]⟩,⟨w2.heap.size,[ah8 aX,ah7 aY aZ bf]⟩,⟨(w.heap.size+1),[ah8 m2,ah7 a2 n2 c2,ah8 k2,ah7 b2 l2 d2]⟩,⟨w.heap.size,[ah8 m,ah7 ao n ae,ah8 k,ah7 bo l cb]⟩] _):=hid (Sx.set [⟨w5.heap.size,[ah8 false,ah7 none 0 0]⟩] _ (Sx.set [⟨w5.heap.size,[ah8 false,ah7 none 0 0]⟩] _ S7.o 0 (ah8 aX)) 1 (ah7 aY aZ bf));clear S7;refine hK.o _ _ ⟨S8.o.b.t.t.t.c4,S8.o.b.t.t.c4⟩ (λh2=>?_);clear hK K hH;have hH:=h2;clear h2
     try simp only[ax]
     refine ah (λw7 hW=>?_);rw[<-hW]at S8 hH;clear hW;refine ag 7 rfl (by kernel_rfl) (λK hK=>?_);obtain⟨cy,cA⟩:=S8.o.b.c2;obtain⟨cQ,cR⟩:=S8.o.b.f2;go_simp;clear cy cA cQ cR;have S9:Hid (Sx w _ [⟨w5.heap.size,[ah8 bO,ah7 bP bQ bR]⟩,⟨w2.heap.size,[ah8 aX,ah7 aY aZ bf]⟩,⟨(w.heap.size+1),[ah8 m2,ah7 a2 n2 c2,ah8 k2,ah7 b2 l2 d2]⟩,⟨w.heap.size,[ah8 m,ah7 ao n ae,ah8 k,ah7 bo l cb]⟩] _):=hid (Sx.set [] _ (Sx.set [] _ S8.o 0 (ah8 bO)) 1 (ah7 bP bQ bR));clear S8;refine hK.o _ _ ⟨S9.o.b.t.t.t.c4,S9.o.b.t.t.c4⟩ (λh2=>?_);clear hK K hH;have hH:=h2;clear h2
     try simp only[ax]
     refine ah (λw8 hW=>?_);rw[<-hW]at S9 hH;clear hW;refine wpAnyH_done (by kernel_rfl) ?_ _
     clear hH;go_wp2_with fail;go_meet
     case rel=>exact⟨_,_,_,_,_,_,_,_,_,_,rfl,rfl,S9.o⟩
    ·go_simp;have S6:=hid (S5.o.var w4.heap.size [ah8 false,ah7 none 0 0] 29 (by simp));clear S5;refine hK.o _ _ ⟨S6.o.b.t.t.t.c4,S6.o.b.t.t.c4⟩ (λh2=>?_);clear hK K hH;have hH:=h2;clear h2
     try simp only[ax]
     refine ah (λw5 hW=>?_);rw[<-hW]at S6 hH;clear hW;refine ag 3 rfl (by kernel_rfl) (λK hK=>?_);go_simp;refine(ep S6.o.n.t.t.rx).mono ?_;rintro e w6 ⟨bO,bP,bQ,bR,rfl,hX,hB⟩;have S7:=hid (((S6.o.step hB).nb ⟨hX,gy S6.o.n.t.t.rx.bd (by omega)⟩ rfl));clear S6 hX hB;go_wp2_with fail;refine hK.o _ _ ⟨S7.o.b.t.t.t.c4,S7.o.b.t.t.c4⟩ (λh2=>?_);clear hK K hH;have hH:=h2;clear h2
     try simp only[ax]
     refine ag 6 rfl (by kernel_rfl) (λK hK=>?_);obtain⟨cG,cH⟩:=S7.o.b.t.c2;obtain⟨eU,eV⟩:=S7.o.b.t.f2;go_simp;clear cG cH eU eV;have S8:Hid (Sx w _ [⟨w4.heap.size,[ah8 false,ah7 none 0 0]⟩,⟨w2.heap.size,[ah8 aX,ah7 aY aZ bf]⟩,⟨(w.heap.size+1),[ah8 m2,ah7 a2 n2 c2,ah8 k2,ah7 b2 l2 d2]⟩,⟨w.heap.size,[ah8 m,ah7 ao n ae,ah8 k,ah7 bo l cb]⟩] _):=hid (Sx.set [⟨w4.heap.size,[ah8 false,ah7 none 0 0]⟩] _ (Sx.set [⟨w4.heap.size,[ah8 false,ah7 none 0 0]⟩] _ S7.o 0 (ah8 aX)) 1 (ah7 aY aZ bf));clear S7;refine hK.o _ _ ⟨S8.o.b.t.t.t.c4,S8.o.b.t.t.c4⟩ (λh2=>?_);clear hK K hH;have hH:=h2;clear h2
     try simp only[ax]
     refine ah (λw7 hW=>?_);rw[<-hW]at S8 hH;clear hW;refine ag 7 rfl (by kernel_rfl) (λK hK=>?_);obtain⟨cy,cA⟩:=S8.o.b.c2;obtain⟨cQ,cR⟩:=S8.o.b.f2;go_simp;clear cy cA cQ cR;have S9:Hid (Sx w _ [⟨w4.heap.size,[ah8 bO,ah7 bP bQ bR]⟩,⟨w2.heap.size,[ah8 aX,ah7 aY aZ bf]⟩,⟨(w.heap.size+1),[ah8 m2,ah7 a2 n2 c2,ah8 k2,ah7 b2 l2 d2]⟩,⟨w.heap.size,[ah8 m,ah7 ao n ae,ah8 k,ah7 bo l cb]⟩] _):=hid (Sx.set [] _ (Sx.set [] _ S8.o 0 (ah8 bO)) 1 (ah7 bP bQ bR));clear S8;refine hK.o _ _ ⟨S9.o.b.t.t.t.c4,S9.o.b.t.t.c4⟩ (λh2=>?_);clear hK K hH;have hH:=h2;clear h2
     try simp only[ax]
     refine ah (λw8 hW=>?_);rw[<-hW]at S9 hH;clear hW;refine wpAnyH_done (by kernel_rfl) ?_ _
     clear hH;go_wp2_with fail;go_meet
     case rel=>exact⟨_,_,_,_,_,_,_,_,_,_,rfl,rfl,S9.o⟩
   ·go_simp;have S5:=hid (S4.o.var w3.heap.size [ah8 false,ah7 none 0 0] 29 (by simp));clear S4;refine hK.o _ _ ⟨S5.o.b.t.t.t.c4,S5.o.b.t.t.c4⟩ (λh2=>?_);clear hK K hH;have hH:=h2;clear h2
    try simp only[ax]
    refine ah (λw4 hW=>?_);rw[<-hW]at S5 hH;clear hW;refine ag 1 rfl (by kernel_rfl) (λK hK=>?_);go_simp;refine(ep S5.o.n.rx).mono ?_;rintro e w5 ⟨aX,aY,aZ,bf,rfl,hX,hB⟩;have S6:=hid (((S5.o.step hB).nb ⟨hX,gy S5.o.n.rx.bd (by omega)⟩ rfl));clear S5 hX hB;go_wp2_with fail;refine hK.o _ _ ⟨S6.o.b.t.t.t.c4,S6.o.b.t.t.c4⟩ (λh2=>?_);clear hK K hH;have hH:=h2;clear h2
    try simp only[ax]
    refine ag 3 rfl (by kernel_rfl) (λK hK=>?_);go_simp;refine(ep S6.o.n.t.t.rx).mono ?_;rintro e w6 ⟨bO,bP,bQ,bR,rfl,hX,hB⟩;have S7:=hid (((S6.o.step hB).nb ⟨hX,gy S6.o.n.t.t.rx.bd (by omega)⟩ rfl));clear S6 hX hB;go_wp2_with fail;refine hK.o _ _ ⟨S7.o.b.t.t.t.c4,S7.o.b.t.t.c4⟩ (λh2=>?_);clear hK K hH;have hH:=h2;clear h2
    try simp only[ax]
    refine ag 6 rfl (by kernel_rfl) (λK hK=>?_);obtain⟨cG,cH⟩:=S7.o.b.t.c2;obtain⟨eU,eV⟩:=S7.o.b.t.f2;go_simp;clear cG cH eU eV;have S8:Hid (Sx w _ [⟨w3.heap.size,[ah8 false,ah7 none 0 0]⟩,⟨w2.heap.size,[ah8 aX,ah7 aY aZ bf]⟩,⟨(w.heap.size+1),[ah8 m2,ah7 a2 n2 c2,ah8 k2,ah7 b2 l2 d2]⟩,⟨w.heap.size,[ah8 m,ah7 ao n ae,ah8 k,ah7 bo l cb]⟩] _):=hid (Sx.set [⟨w3.heap.size,[ah8 false,ah7 none 0 0]⟩] _ (Sx.set [⟨w3.heap.size,[ah8 false,ah7 none 0 0]⟩] _ S7.o 0 (ah8 aX)) 1 (ah7 aY aZ bf));clear S7;refine hK.o _ _ ⟨S8.o.b.t.t.t.c4,S8.o.b.t.t.c4⟩ (λh2=>?_);clear hK K hH;have hH:=h2;clear h2
    try simp only[ax]
    refine ah (λw7 hW=>?_);rw[<-hW]at S8 hH;clear hW;refine ag 7 rfl (by kernel_rfl) (λK hK=>?_);obtain⟨cy,cA⟩:=S8.o.b.c2;obtain⟨cQ,cR⟩:=S8.o.b.f2;go_simp;clear cy cA cQ cR;have S9:Hid (Sx w _ [⟨w3.heap.size,[ah8 bO,ah7 bP bQ bR]⟩,⟨w2.heap.size,[ah8 aX,ah7 aY aZ bf]⟩,⟨(w.heap.size+1),[ah8 m2,ah7 a2 n2 c2,ah8 k2,ah7 b2 l2 d2]⟩,⟨w.heap.size,[ah8 m,ah7 ao n ae,ah8 k,ah7 bo l cb]⟩] _):=hid (Sx.set [] _ (Sx.set [] _ S8.o 0 (ah8 bO)) 1 (ah7 bP bQ bR));clear S8;refine hK.o _ _ ⟨S9.o.b.t.t.t.c4,S9.o.b.t.t.c4⟩ (λh2=>?_);clear hK K hH;have hH:=h2;clear h2
    try simp only[ax]
    refine ah (λw8 hW=>?_);rw[<-hW]at S9 hH;clear hW;refine wpAnyH_done (by kernel_rfl) ?_ _
    clear hH;go_wp2_with fail;go_meet
    case rel=>exact⟨_,_,_,_,_,_,_,_,_,_,rfl,rfl,S9.o⟩
  ·go_simp;have S4:=hid (S3.o.var w2.heap.size [ah8 false,ah7 none 0 0] 29 (by simp));clear S3;refine hK.o _ _ ⟨S4.o.b.t.t.c4,S4.o.b.t.c4⟩ (λh2=>?_);clear hK K hH;have hH:=h2;clear h2
   try simp only[ax]
   refine ah (λw3 hW=>?_);rw[<-hW]at S4 hH;clear hW;refine wpAnyH_ready (rs:=[1,4]) (by kernel_rfl) (by simp) (aM rfl (λK hK=>?_) (aM rfl (λK hK=>?_) (ah6)))
   ·go_simp;refine(ep S4.o.n.rx).mono ?_;rintro e w4 ⟨aX,aY,aZ,bf,rfl,hX,hB⟩;have S5:=hid (((S4.o.step hB).nb ⟨hX,gy S4.o.n.rx.bd (by omega)⟩ rfl));clear S4 hX hB;go_wp2_with fail;refine hK.o _ _ ⟨S5.o.b.t.t.c4,S5.o.b.t.c4⟩ (λh2=>?_);clear hK K hH;have hH:=h2;clear h2
    try simp only[ax]
    refine wpAnyH_ready (rs:=[3,4]) (by kernel_rfl) (by simp) (aM rfl (λK hK=>?_) (aM rfl (λK hK=>?_) (ah6)))
    ·go_simp;refine(ep S5.o.n.t.t.rx).mono ?_;rintro e w5 ⟨bO,bP,bQ,bR,rfl,hX,hB⟩;have S6:=hid (((S5.o.step hB).nb ⟨hX,gy S5.o.n.t.t.rx.bd (by omega)⟩ rfl));clear S5 hX hB;go_wp2_with fail;refine hK.o _ _ ⟨S6.o.b.t.t.c4,S6.o.b.t.c4⟩ (λh2=>?_);clear hK K hH;have hH:=h2;clear h2
     try simp only[ax]
     refine ag 4 rfl (by kernel_rfl) (λK hK=>?_);go_simp;have S7:=hid (S6.o.var w5.heap.size [ah8 false,ah7 none 0 0] 29 (by simp));clear S6;refine hK.o _ _ ⟨S7.o.b.t.t.t.c4,S7.o.b.t.t.c4⟩ (λh2=>?_);clear hK K hH;have hH:=h2;clear h2
     try simp only[ax]
     refine ah (λw6 hW=>?_);rw[<-hW]at S7 hH;clear hW;refine ag 6 rfl (by kernel_rfl) (λK hK=>?_);obtain⟨cG,cH⟩:=S7.o.b.c2;obtain⟨eU,eV⟩:=S7.o.b.f2;go_simp;clear cG cH eU eV;have S8:Hid (Sx w _ [⟨w5.heap.size,[ah8 aX,ah7 aY aZ bf]⟩,⟨w2.heap.size,[ah8 false,ah7 none 0 0]⟩,⟨(w.heap.size+1),[ah8 m2,ah7 a2 n2 c2,ah8 k2,ah7 b2 l2 d2]⟩,⟨w.heap.size,[ah8 m,ah7 ao n ae,ah8 k,ah7 bo l cb]⟩] _):=hid (Sx.set [] _ (Sx.set [] _ S7.o 0 (ah8 aX)) 1 (ah7 aY aZ bf));clear S7;refine hK.o _ _ ⟨S8.o.b.t.t.t.c4,S8.o.b.t.t.c4⟩ (λh2=>?_);clear hK K hH;have hH:=h2;clear h2
     try simp only[ax]
     refine ah (λw7 hW=>?_);rw[<-hW]at S8 hH;clear hW;refine ag 7 rfl (by kernel_rfl) (λK hK=>?_);obtain⟨cy,cA⟩:=S8.o.b.t.c2;obtain⟨cQ,cR⟩:=S8.o.b.t.f2;go_simp;clear cy cA cQ cR;have S9:Hid (Sx w _ [⟨w5.heap.size,[ah8 aX,ah7 aY aZ bf]⟩,⟨w2.heap.size,[ah8 bO,ah7 bP bQ bR]⟩,⟨(w.heap.size+1),[ah8 m2,ah7 a2 n2 c2,ah8 k2,ah7 b2 l2 d2]⟩,⟨w.heap.size,[ah8 m,ah7 ao n ae,ah8 k,ah7 bo l cb]⟩] _):=hid (Sx.set [⟨w5.heap.size,[ah8 aX,ah7 aY aZ bf]⟩] _ (Sx.set [⟨w5.heap.size,[ah8 aX,ah7 aY aZ bf]⟩] _ S8.o 0 (ah8 bO)) 1 (ah7 bP bQ bR));clear S8;refine hK.o _ _ ⟨S9.o.b.t.t.t.c4,S9.o.b.t.t.c4⟩ (λh2=>?_);clear hK K hH;have hH:=h2;clear h2
     try simp only[ax]
     refine ah (λw8 hW=>?_);rw[<-hW]at S9 hH;clear hW;refine wpAnyH_done (by kernel_rfl) ?_ _
     clear hH;go_wp2_with fail;go_meet
     case rel=>exact⟨_,_,_,_,_,_,_,_,_,_,rfl,rfl,S9.o.Cf⟩
    ·go_simp;have S6:=hid (S5.o.var w4.heap.size [ah8 false,ah7 none 0 0] 29 (by simp));clear S5;refine hK.o _ _ ⟨S6.o.b.t.t.t.c4,S6.o.b.t.t.c4⟩ (λh2=>?_);clear hK K hH;have hH:=h2;clear h2
     try simp only[ax]
     refine ah (λw5 hW=>?_);rw[<-hW]at S6 hH;clear hW;refine ag 3 rfl (by kernel_rfl) (λK hK=>?_);go_simp;refine(ep S6.o.n.t.t.rx).mono ?_;rintro e w6 ⟨bO,bP,bQ,bR,rfl,hX,hB⟩;have S7:=hid (((S6.o.step hB).nb ⟨hX,gy S6.o.n.t.t.rx.bd (by omega)⟩ rfl));clear S6 hX hB;go_wp2_with fail;refine hK.o _ _ ⟨S7.o.b.t.t.t.c4,S7.o.b.t.t.c4⟩ (λh2=>?_);clear hK K hH;have hH:=h2;clear h2
     try simp only[ax]
     refine ag 6 rfl (by kernel_rfl) (λK hK=>?_);obtain⟨cG,cH⟩:=S7.o.b.c2;obtain⟨eU,eV⟩:=S7.o.b.f2;go_simp;clear cG cH eU eV;have S8:Hid (Sx w _ [⟨w4.heap.size,[ah8 aX,ah7 aY aZ bf]⟩,⟨w2.heap.size,[ah8 false,ah7 none 0 0]⟩,⟨(w.heap.size+1),[ah8 m2,ah7 a2 n2 c2,ah8 k2,ah7 b2 l2 d2]⟩,⟨w.heap.size,[ah8 m,ah7 ao n ae,ah8 k,ah7 bo l cb]⟩] _):=hid (Sx.set [] _ (Sx.set [] _ S7.o 0 (ah8 aX)) 1 (ah7 aY aZ bf));clear S7;refine hK.o _ _ ⟨S8.o.b.t.t.t.c4,S8.o.b.t.t.c4⟩ (λh2=>?_);clear hK K hH;have hH:=h2;clear h2
     try simp only[ax]
     refine ah (λw7 hW=>?_);rw[<-hW]at S8 hH;clear hW;refine ag 7 rfl (by kernel_rfl) (λK hK=>?_);obtain⟨cy,cA⟩:=S8.o.b.t.c2;obtain⟨cQ,cR⟩:=S8.o.b.t.f2;go_simp;clear cy cA cQ cR;have S9:Hid (Sx w _ [⟨w4.heap.size,[ah8 aX,ah7 aY aZ bf]⟩,⟨w2.heap.size,[ah8 bO,ah7 bP bQ bR]⟩,⟨(w.heap.size+1),[ah8 m2,ah7 a2 n2 c2,ah8 k2,ah7 b2 l2 d2]⟩,⟨w.heap.size,[ah8 m,ah7 ao n ae,ah8 k,ah7 bo l cb]⟩] _):=hid (Sx.set [⟨w4.heap.size,[ah8 aX,ah7 aY aZ bf]⟩] _ (Sx.set [⟨w4.heap.size,[ah8 aX,ah7 aY aZ bf]⟩] _ S8.o 0 (ah8 bO)) 1 (ah7 bP bQ bR));clear S8;refine hK.o _ _ ⟨S9.o.b.t.t.t.c4,S9.o.b.t.t.c4⟩ (λh2=>?_);clear hK K hH;have hH:=h2;clear h2
     try simp only[ax]
     refine ah (λw8 hW=>?_);rw[<-hW]at S9 hH;clear hW;refine wpAnyH_done (by kernel_rfl) ?_ _
     clear hH;go_wp2_with fail;go_meet
     case rel=>exact⟨_,_,_,_,_,_,_,_,_,_,rfl,rfl,S9.o.Cf⟩
   ·go_simp;have S5:=hid (S4.o.var w3.heap.size [ah8 false,ah7 none 0 0] 29 (by simp));clear S4;refine hK.o _ _ ⟨S5.o.b.t.t.t.c4,S5.o.b.t.t.c4⟩ (λh2=>?_);clear hK K hH;have hH:=h2;clear h2
    try simp only[ax]
    refine ah (λw4 hW=>?_);rw[<-hW]at S5 hH;clear hW;refine ag 1 rfl (by kernel_rfl) (λK hK=>?_);go_simp;refine(ep S5.o.n.rx).mono ?_;rintro e w5 ⟨aX,aY,aZ,bf,rfl,hX,hB⟩;have S6:=hid (((S5.o.step hB).nb ⟨hX,gy S5.o.n.rx.bd (by omega)⟩ rfl));clear S5 hX hB;go_wp2_with fail;refine hK.o _ _ ⟨S6.o.b.t.t.t.c4,S6.o.b.t.t.c4⟩ (λh2=>?_);clear hK K hH;have hH:=h2;clear h2
    try simp only[ax]
    refine ag 3 rfl (by kernel_rfl) (λK hK=>?_);go_simp;refine(ep S6.o.n.t.t.rx).mono ?_;rintro e w6 ⟨bO,bP,bQ,bR,rfl,hX,hB⟩;have S7:=hid (((S6.o.step hB).nb ⟨hX,gy S6.o.n.t.t.rx.bd (by omega)⟩ rfl));clear S6 hX hB;go_wp2_with fail;refine hK.o _ _ ⟨S7.o.b.t.t.t.c4,S7.o.b.t.t.c4⟩ (λh2=>?_);clear hK K hH;have hH:=h2;clear h2
    try simp only[ax]
    refine ag 6 rfl (by kernel_rfl) (λK hK=>?_);obtain⟨cG,cH⟩:=S7.o.b.c2;obtain⟨eU,eV⟩:=S7.o.b.f2;go_simp;clear cG cH eU eV;have S8:Hid (Sx w _ [⟨w3.heap.size,[ah8 aX,ah7 aY aZ bf]⟩,⟨w2.heap.size,[ah8 false,ah7 none 0 0]⟩,⟨(w.heap.size+1),[ah8 m2,ah7 a2 n2 c2,ah8 k2,ah7 b2 l2 d2]⟩,⟨w.heap.size,[ah8 m,ah7 ao n ae,ah8 k,ah7 bo l cb]⟩] _):=hid (Sx.set [] _ (Sx.set [] _ S7.o 0 (ah8 aX)) 1 (ah7 aY aZ bf));clear S7;refine hK.o _ _ ⟨S8.o.b.t.t.t.c4,S8.o.b.t.t.c4⟩ (λh2=>?_);clear hK K hH;have hH:=h2;clear h2
    try simp only[ax]
    refine ah (λw7 hW=>?_);rw[<-hW]at S8 hH;clear hW;refine ag 7 rfl (by kernel_rfl) (λK hK=>?_);obtain⟨cy,cA⟩:=S8.o.b.t.c2;obtain⟨cQ,cR⟩:=S8.o.b.t.f2;go_simp;clear cy cA cQ cR;have S9:Hid (Sx w _ [⟨w3.heap.size,[ah8 aX,ah7 aY aZ bf]⟩,⟨w2.heap.size,[ah8 bO,ah7 bP bQ bR]⟩,⟨(w.heap.size+1),[ah8 m2,ah7 a2 n2 c2,ah8 k2,ah7 b2 l2 d2]⟩,⟨w.heap.size,[ah8 m,ah7 ao n ae,ah8 k,ah7 bo l cb]⟩] _):=hid (Sx.set [⟨w3.heap.size,[ah8 aX,ah7 aY aZ bf]⟩] _ (Sx.set [⟨w3.heap.size,[ah8 aX,ah7 aY aZ bf]⟩] _ S8.o 0 (ah8 bO)) 1 (ah7 bP bQ bR));clear S8;refine hK.o _ _ ⟨S9.o.b.t.t.t.c4,S9.o.b.t.t.c4⟩ (λh2=>?_);clear hK K hH;have hH:=h2;clear h2
    try simp only[ax]
    refine ah (λw8 hW=>?_);rw[<-hW]at S9 hH;clear hW;refine wpAnyH_done (by kernel_rfl) ?_ _
    clear hH;go_wp2_with fail;go_meet
    case rel=>exact⟨_,_,_,_,_,_,_,_,_,_,rfl,rfl,S9.o.Cf⟩
 case rest=>
 clear S2;obtain⟨qb5,U6,bO,bP,bQ,bR,aX,aY,aZ,bf,rfl,rfl,S3⟩:=hcut;obtain⟨w9,hW⟩:∃w9,w9=wc:=⟨_,rfl⟩;rw[<-hW]at S3 ⊢;clear hW;obtain⟨cI,cJ,dE,dF⟩:=S3.o.b.t.t.t.c4;obtain⟨cG,cH⟩:=S3.o.b.t.c2;obtain⟨bM,bN,iU,iV⟩:=S3.o.b.t.t.c4;obtain⟨cy,cA⟩:=S3.o.b.c2;go_wp2_with fail;go_ret;exact⟨_,_,_,_,_,_,_,_,_,_,_,_,rfl,S3.o.b.t.t.t.1,S3.o.b.1,S3.o.b.t.t.1,S3.o.b.t.1,S3.o.n.nb,S3.o.n.t.nb,S3.o.h⟩
theorem NJ [Ol] {m:Bool} {ao:Z'} {n ae:Nat} {k:Bool} {bo:Z'} {l cb:Nat} {m2:Bool} {a2:Z'} {n2 c2:Nat} {k2:Bool} {b2:Z'} {l2 d2:Nat} {u:Bool} {v:Z'} {s t:Nat} {u':Bool} {v':Z'} {s' t':Nat} {x d y c:Int} {q r:Rat} {j i:Nat} {w:ah5} {p0 p1 p2 p3:Nat} (hx:Rx w m ao n ae k bo l cb x d q j) (hy:Rx w m2 a2 n2 c2 k2 b2 l2 d2 y c r i) (hp0:dw w p0 [ah8 m,ah7 ao n ae,ah8 k,ah7 bo l cb]) (hp1:dw w p1 [ah8 u,ah7 v s t]) (hp2:dw w p2 [ah8 m2,ah7 a2 n2 c2,ah8 k2,ah7 b2 l2 d2]) (hp3:dw w p3 [ah8 u',ah7 v' s' t']) (YV:Nb w u v s t (dn c) i) (hxd:Nb w u' v' s' t' (dn d) j) (hj:j+i+1<=100000):
  Calls Tryz.prog 128 #[.func (.func 78) #[] #[],.pointer (some ⟨p0,0,none⟩),.pointer (some ⟨p1,0,none⟩),.pointer (some ⟨p2,0,none⟩),.pointer (some ⟨p3,0,none⟩)] w (De w (x*dn c+y*dn d) (dn d*dn c) (j+i+1)):=by
 go_enter Tryz.func128,Tryz.ntmps128;have S0:=hid (Sx.start (w:=w) (N:=[.cells p0 [ah8 m,ah7 ao n ae,ah8 k,ah7 bo l cb],.cells p1 [ah8 u,ah7 v s t],.cells p2 [ah8 m2,ah7 a2 n2 c2,ah8 k2,ah7 b2 l2 d2],.cells p3 [ah8 u',ah7 v' s' t'],.rx m ao n ae k bo l cb x d q j,.rx m2 a2 n2 c2 k2 b2 l2 d2 y c r i,.nb u v s t (dn c) i,.nb u' v' s' t' (dn d) j]) ⟨hp0,hp1,hp2,hp3,hx,hy,YV,hxd,trivial⟩);clear hp0 hp1 hp2 hp3 hx hy YV hxd;have S1:=hid (S0.o.var w.heap.size [ah8 false,ah7 none 0 0,ah8 false,ah7 none 0 0] 31 (by simp));clear S0;go_upto_region 1 with(fail)
 refine aj (λw1 hW=>?_);rw[<-hW]at S1;clear hW;have S2:=hid S1.o.drew;clear S1;refine wp_region_held_drew (S:=λw'=>(w'.cell? ⟨p0,0,none⟩=some (ah8 m)/\ w'.cell? ⟨p0,1,none⟩=some (ah7 ao n ae)/\ w'.cell? ⟨p0,2,none⟩=some (ah8 k)/\ w'.cell? ⟨p0,3,none⟩=some (ah7 bo l cb))/\ (w'.cell? ⟨p1,0,none⟩=some (ah8 u)/\ w'.cell? ⟨p1,1,none⟩=some (ah7 v s t))/\ (w'.cell? ⟨p2,0,none⟩=some (ah8 m2)/\ w'.cell? ⟨p2,1,none⟩=some (ah7 a2 n2 c2)/\ w'.cell? ⟨p2,2,none⟩=some (ah8 k2)/\ w'.cell? ⟨p2,3,none⟩=some (ah7 b2 l2 d2))/\ (w'.cell? ⟨p3,0,none⟩=some (ah8 u')/\ w'.cell? ⟨p3,1,none⟩=some (ah7 v' s' t'))) (by kernel_rfl) (⟨S2.o.n.cells.c4,S2.o.n.t.cells.c2,S2.o.n.t.t.cells.c4,S2.o.n.t.t.t.cells.c2⟩) (λhH=>?_);refine ah (λw2 hW=>?_);rw[<-hW]at S2 hH;clear hW;refine aT 0 hH ?_;try simp only[ax]
 refine aT 1 hH ?_;try simp only[ax]
 refine aT 2 hH ?_;try simp only[ax]
 refine aT 3 hH ?_;try simp only[ax]
 refine aT 5 hH ?_;try simp only[ax]
 refine aT 6 hH ?_;try simp only[ax]
 refine aT 7 hH ?_;try simp only[ax]
 refine aT 10 hH ?_;try simp only[ax]
 refine aT 11 hH ?_;try simp only[ax]
 refine ag 4 rfl (by kernel_rfl) (λK hK=>?_);go_simp;refine(eF S2.o.n.t.t.t.t.rx.num S2.o.n.t.t.t.t.t.t.nb.nx).mono ?_;rintro e w3 ⟨aX,aY,aZ,bf,rfl,hX,hB⟩;have S3:=hid (((S2.o.step hB).cb (hX.cb (S2.o.n.t.t.t.t.rx.bn.mul S2.o.n.t.t.t.t.t.t.nb.bd) (by omega)) rfl));clear S2 hX hB;go_wp2_with fail;refine hK.o _ _ ⟨S3.o.n.t.cells.c4,S3.o.n.t.t.cells.c2,S3.o.n.t.t.t.cells.c4,S3.o.n.t.t.t.t.cells.c2⟩ (λh2=>?_);clear hK K hH;have hH:=h2;clear h2
 try simp only[ax]
 refine ag 8 rfl (by kernel_rfl) (λK hK=>?_);go_simp;refine(eF S3.o.n.t.t.t.t.t.t.rx.num S3.o.n.t.t.t.t.t.t.t.t.nb.nx).mono ?_;rintro e w4 ⟨bO,bP,bQ,bR,rfl,hX,hB⟩;have S4:=hid (((S3.o.step hB).cb (hX.cb (S3.o.n.t.t.t.t.t.t.rx.bn.mul S3.o.n.t.t.t.t.t.t.t.t.nb.bd) (by omega)) rfl));clear S3 hX hB;go_wp2_with fail;refine hK.o _ _ ⟨S4.o.n.t.t.cells.c4,S4.o.n.t.t.t.cells.c2,S4.o.n.t.t.t.t.cells.c4,S4.o.n.t.t.t.t.t.cells.c2⟩ (λh2=>?_);clear hK K hH;have hH:=h2;clear h2
 try simp only[ax]
 refine ag 9 rfl (by kernel_rfl) (λK hK=>?_);go_simp;refine(mB S4.o.n.t.cb.cx.nx S4.o.n.cb.cx.nx).mono ?_;rintro e w5 ⟨cW,cX,cY,cZ,rfl,hX,hB⟩;have S5:=hid (((S4.o.step hB).cb (hX.cb ((show Bd ((x*dn c)+(y*dn d)) ((j+i)+1)from S4.o.n.t.cb.bd.YU S4.o.n.cb.bd (by omega) (by omega))) (by omega)) rfl));clear S4 hX hB;go_wp2_with fail;refine hK.o _ _ ⟨S5.o.n.t.t.t.cells.c4,S5.o.n.t.t.t.t.cells.c2,S5.o.n.t.t.t.t.t.cells.c4,S5.o.n.t.t.t.t.t.t.cells.c2⟩ (λh2=>?_);clear hK K hH;have hH:=h2;clear h2
 try simp only[ax]
 refine ag 12 rfl (by kernel_rfl) (λK hK=>?_);go_simp;refine(eF S5.o.n.t.t.t.t.t.t.t.t.t.t.nb.nx S5.o.n.t.t.t.t.t.t.t.t.t.nb.nx).mono ?_;rintro e w6 ⟨dP,dQ,dR,dS,rfl,hX,hB⟩;have S6:=hid (((S5.o.step hB).cb (hX.cb (S5.o.n.t.t.t.t.t.t.t.t.t.t.nb.bd.mul S5.o.n.t.t.t.t.t.t.t.t.t.nb.bd) (by omega)) rfl));clear S5 hX hB;go_wp2_with fail;refine hK.o _ _ ⟨S6.o.n.t.t.t.t.cells.c4,S6.o.n.t.t.t.t.t.cells.c2,S6.o.n.t.t.t.t.t.t.cells.c4,S6.o.n.t.t.t.t.t.t.t.cells.c2⟩ (λh2=>?_);clear hK K hH;have hH:=h2;clear h2
 try simp only[ax]
 refine aT 13 hH ?_;try simp only[ax]
 refine ag 14 rfl (by kernel_rfl) (λK hK=>?_);obtain⟨cy,cA,kW,kX⟩:=S6.o.b.c4;obtain⟨cQ,cR,pj,pq⟩:=S6.o.b.f4;go_simp;clear cy cA kW kX cQ cR pj pq;have S7:Hid (Sx w _ [⟨w.heap.size,[ah8 cW,ah7 cX cY cZ,ah8 dP,ah7 dQ dR dS]⟩] _):=hid (Sx.set [] _ (Sx.set [] _ (Sx.set [] _ (Sx.set [] _ S6.o 0 (ah8 cW)) 1 (ah7 cX cY cZ)) 2 (ah8 dP)) 3 (ah7 dQ dR dS));clear S6;refine hK.o _ _ ⟨S7.o.n.t.t.t.t.cells.c4,S7.o.n.t.t.t.t.t.cells.c2,S7.o.n.t.t.t.t.t.t.cells.c4,S7.o.n.t.t.t.t.t.t.t.cells.c2⟩ (λh2=>?_);clear hK K hH;have hH:=h2;clear h2
 try simp only[ax]
 refine ah (λw7 hW=>?_);rw[<-hW]at S7 hH;clear hW;refine wpAnyH_done (by kernel_rfl) ?_ _
 clear hH;obtain⟨cy,cA,kW,kX⟩:=S7.o.b.c4;obtain⟨cQ,cR,pj,pq⟩:=S7.o.b.f4;go_wp2_with fail;refine bodyPost_ret (v:= .agg #[ah8 cW,ah7 cX cY cZ,ah8 dP,ah7 dQ dR dS]) (by simp[results,Tryz.results128,go_sem,cy,cA,kW,kX]) rfl ?_;exact⟨_,_,_,_,_,_,_,_,rfl,⟨S7.o.n.t.cb.cx,S7.o.n.t.cb.bd.mono (by omega)⟩,⟨S7.o.n.cb.cx,S7.o.n.cb.bd.mono (by omega)⟩,S7.o.h⟩
theorem NK [Ol] {m:Bool} {ao:Z'} {n ae:Nat} {k:Bool} {bo:Z'} {l cb:Nat} {m2:Bool} {a2:Z'} {n2 c2:Nat} {k2:Bool} {b2:Z'} {l2 d2:Nat} {u:Bool} {v:Z'} {s t:Nat} {u':Bool} {v':Z'} {s' t':Nat} {x d y c:Int} {q r:Rat} {j i:Nat} {w:ah5} {p0 p1 p2 p3:Nat} (hx:Rx w m ao n ae k bo l cb x d q j) (hy:Rx w m2 a2 n2 c2 k2 b2 l2 d2 y c r i) (hp0:dw w p0 [ah8 m,ah7 ao n ae,ah8 k,ah7 bo l cb]) (hp1:dw w p1 [ah8 u,ah7 v s t]) (hp2:dw w p2 [ah8 m2,ah7 a2 n2 c2,ah8 k2,ah7 b2 l2 d2]) (hp3:dw w p3 [ah8 u',ah7 v' s' t']) (YV:Nb w u v s t (dn c) i) (hxd:Nb w u' v' s' t' (dn d) j) (hj:j+i+1<=100000):
  Calls Tryz.prog 128 #[.func (.func 87) #[] #[],.pointer (some ⟨p0,0,none⟩),.pointer (some ⟨p1,0,none⟩),.pointer (some ⟨p2,0,none⟩),.pointer (some ⟨p3,0,none⟩)] w (De w (x*dn c-y*dn d) (dn d*dn c) (j+i+1)):=by
 go_enter Tryz.func128,Tryz.ntmps128;have S0:=hid (Sx.start (w:=w) (N:=[.cells p0 [ah8 m,ah7 ao n ae,ah8 k,ah7 bo l cb],.cells p1 [ah8 u,ah7 v s t],.cells p2 [ah8 m2,ah7 a2 n2 c2,ah8 k2,ah7 b2 l2 d2],.cells p3 [ah8 u',ah7 v' s' t'],.rx m ao n ae k bo l cb x d q j,.rx m2 a2 n2 c2 k2 b2 l2 d2 y c r i,.nb u v s t (dn c) i,.nb u' v' s' t' (dn d) j]) ⟨hp0,hp1,hp2,hp3,hx,hy,YV,hxd,trivial⟩);clear hp0 hp1 hp2 hp3 hx hy YV hxd;have S1:=hid (S0.o.var w.heap.size [ah8 false,ah7 none 0 0,ah8 false,ah7 none 0 0] 31 (by simp));clear S0;go_upto_region 1 with(fail)
 refine aj (λw1 hW=>?_);rw[<-hW]at S1;clear hW;have S2:=hid S1.o.drew;clear S1;refine wp_region_held_drew (S:=λw'=>(w'.cell? ⟨p0,0,none⟩=some (ah8 m)/\ w'.cell? ⟨p0,1,none⟩=some (ah7 ao n ae)/\ w'.cell? ⟨p0,2,none⟩=some (ah8 k)/\ w'.cell? ⟨p0,3,none⟩=some (ah7 bo l cb))/\ (w'.cell? ⟨p1,0,none⟩=some (ah8 u)/\ w'.cell? ⟨p1,1,none⟩=some (ah7 v s t))/\ (w'.cell? ⟨p2,0,none⟩=some (ah8 m2)/\ w'.cell? ⟨p2,1,none⟩=some (ah7 a2 n2 c2)/\ w'.cell? ⟨p2,2,none⟩=some (ah8 k2)/\ w'.cell? ⟨p2,3,none⟩=some (ah7 b2 l2 d2))/\ (w'.cell? ⟨p3,0,none⟩=some (ah8 u')/\ w'.cell? ⟨p3,1,none⟩=some (ah7 v' s' t'))) (by kernel_rfl) (⟨S2.o.n.cells.c4,S2.o.n.t.cells.c2,S2.o.n.t.t.cells.c4,S2.o.n.t.t.t.cells.c2⟩) (λhH=>?_);refine ah (λw2 hW=>?_);rw[<-hW]at S2 hH;clear hW;refine aT 0 hH ?_;try simp only[ax]
 refine aT 1 hH ?_;try simp only[ax]
 refine aT 2 hH ?_;try simp only[ax]
 refine aT 3 hH ?_;try simp only[ax]
 refine aT 5 hH ?_;try simp only[ax]
 refine aT 6 hH ?_;try simp only[ax]
 refine aT 7 hH ?_;try simp only[ax]
 refine aT 10 hH ?_;try simp only[ax]
 refine aT 11 hH ?_;try simp only[ax]
 refine ag 4 rfl (by kernel_rfl) (λK hK=>?_);go_simp;refine(eF S2.o.n.t.t.t.t.rx.num S2.o.n.t.t.t.t.t.t.nb.nx).mono ?_;rintro e w3 ⟨aX,aY,aZ,bf,rfl,hX,hB⟩;have S3:=hid (((S2.o.step hB).cb (hX.cb (S2.o.n.t.t.t.t.rx.bn.mul S2.o.n.t.t.t.t.t.t.nb.bd) (by omega)) rfl));clear S2 hX hB;go_wp2_with fail;refine hK.o _ _ ⟨S3.o.n.t.cells.c4,S3.o.n.t.t.cells.c2,S3.o.n.t.t.t.cells.c4,S3.o.n.t.t.t.t.cells.c2⟩ (λh2=>?_);clear hK K hH;have hH:=h2;clear h2
 try simp only[ax]
 refine ag 8 rfl (by kernel_rfl) (λK hK=>?_);go_simp;refine(eF S3.o.n.t.t.t.t.t.t.rx.num S3.o.n.t.t.t.t.t.t.t.t.nb.nx).mono ?_;rintro e w4 ⟨bO,bP,bQ,bR,rfl,hX,hB⟩;have S4:=hid (((S3.o.step hB).cb (hX.cb (S3.o.n.t.t.t.t.t.t.rx.bn.mul S3.o.n.t.t.t.t.t.t.t.t.nb.bd) (by omega)) rfl));clear S3 hX hB;go_wp2_with fail;refine hK.o _ _ ⟨S4.o.n.t.t.cells.c4,S4.o.n.t.t.t.cells.c2,S4.o.n.t.t.t.t.cells.c4,S4.o.n.t.t.t.t.t.cells.c2⟩ (λh2=>?_);clear hK K hH;have hH:=h2;clear h2
 try simp only[ax]
 refine ag 9 rfl (by kernel_rfl) (λK hK=>?_);go_simp;refine(CI S4.o.n.t.cb.cx.nx S4.o.n.cb.cx.nx).mono ?_;rintro e w5 ⟨cW,cX,cY,cZ,rfl,hX,hB⟩;have S5:=hid (((S4.o.step hB).cb (hX.cb ((show Bd ((x*dn c)-(y*dn d)) ((j+i)+1)from S4.o.n.t.cb.bd.ac5 S4.o.n.cb.bd (by omega) (by omega))) (by omega)) rfl));clear S4 hX hB;go_wp2_with fail;refine hK.o _ _ ⟨S5.o.n.t.t.t.cells.c4,S5.o.n.t.t.t.t.cells.c2,S5.o.n.t.t.t.t.t.cells.c4,S5.o.n.t.t.t.t.t.t.cells.c2⟩ (λh2=>?_);clear hK K hH;have hH:=h2;clear h2
 try simp only[ax]
 refine ag 12 rfl (by kernel_rfl) (λK hK=>?_);go_simp;refine(eF S5.o.n.t.t.t.t.t.t.t.t.t.t.nb.nx S5.o.n.t.t.t.t.t.t.t.t.t.nb.nx).mono ?_;rintro e w6 ⟨dP,dQ,dR,dS,rfl,hX,hB⟩;have S6:=hid (((S5.o.step hB).cb (hX.cb (S5.o.n.t.t.t.t.t.t.t.t.t.t.nb.bd.mul S5.o.n.t.t.t.t.t.t.t.t.t.nb.bd) (by omega)) rfl));clear S5 hX hB;go_wp2_with fail;refine hK.o _ _ ⟨S6.o.n.t.t.t.t.cells.c4,S6.o.n.t.t.t.t.t.cells.c2,S6.o.n.t.t.t.t.t.t.cells.c4,S6.o.n.t.t.t.t.t.t.t.cells.c2⟩ (λh2=>?_);clear hK K hH;have hH:=h2;clear h2
 try simp only[ax]
 refine aT 13 hH ?_;try simp only[ax]
 refine ag 14 rfl (by kernel_rfl) (λK hK=>?_);obtain⟨cy,cA,kW,kX⟩:=S6.o.b.c4;obtain⟨cQ,cR,pj,pq⟩:=S6.o.b.f4;go_simp;clear cy cA kW kX cQ cR pj pq;have S7:Hid (Sx w _ [⟨w.heap.size,[ah8 cW,ah7 cX cY cZ,ah8 dP,ah7 dQ dR dS]⟩] _):=hid (Sx.set [] _ (Sx.set [] _ (Sx.set [] _ (Sx.set [] _ S6.o 0 (ah8 cW)) 1 (ah7 cX cY cZ)) 2 (ah8 dP)) 3 (ah7 dQ dR dS));clear S6;refine hK.o _ _ ⟨S7.o.n.t.t.t.t.cells.c4,S7.o.n.t.t.t.t.t.cells.c2,S7.o.n.t.t.t.t.t.t.cells.c4,S7.o.n.t.t.t.t.t.t.t.cells.c2⟩ (λh2=>?_);clear hK K hH;have hH:=h2;clear h2
 try simp only[ax]
 refine ah (λw7 hW=>?_);rw[<-hW]at S7 hH;clear hW;refine wpAnyH_done (by kernel_rfl) ?_ _
 clear hH;obtain⟨cy,cA,kW,kX⟩:=S7.o.b.c4;obtain⟨cQ,cR,pj,pq⟩:=S7.o.b.f4;go_wp2_with fail;refine bodyPost_ret (v:= .agg #[ah8 cW,ah7 cX cY cZ,ah8 dP,ah7 dQ dR dS]) (by simp[results,Tryz.results128,go_sem,cy,cA,kW,kX]) rfl ?_;exact⟨_,_,_,_,_,_,_,_,rfl,⟨S7.o.n.t.cb.cx,S7.o.n.t.cb.bd.mono (by omega)⟩,⟨S7.o.n.cb.cx,S7.o.n.cb.bd.mono (by omega)⟩,S7.o.h⟩
end
section
open Lib (hid)
open Go.RowKit
theorem NL (d c:Int):dn (dn d*dn c)=dn d*dn c:=NF (λh=>by
 rcases Int.mul_eq_zero.1 h with h1|h1
 ·exact jr d h1
 ·exact jr c h1)
theorem NM {x d y c:Int} {q r:Rat} (hq:qv x d=q) (hr:qv y c=r):qv (x*dn c+y*dn d) (dn d*dn c)=q+r:=by
 rw[<-hq,<-hr,gY,gY,gY,NL,Rat.divInt_add_divInt _ _ (jr d) (jr c)]
theorem U7 {x d:Int} {q:Rat} (hq:qv x d=q):qv (-x) d= -q:=by
 rw[<-hq,gY,gY,Rat.neg_divInt]
theorem U8 {x d y c:Int} {q r:Rat} (hq:qv x d=q) (hr:qv y c=r):qv (x*dn c-y*dn d) (dn d*dn c)=q-r:=by
 have h:=NM hq (U7 hr);rw[Rat.sub_eq_add_neg,<-h,Int.neg_mul,Int.sub_eq_add_neg]
theorem U9 {x d y c:Int} {q r:Rat} (hq:qv x d=q) (hr:qv y c=r):qv (x*y) (dn d*dn c)=q*r:=by
 rw[<-hq,<-hr,gY,gY,gY,NL,Rat.divInt_mul_divInt]
theorem Rk {x d:Int} {q:Rat} (hq:qv x d=q):x.sign*(dn d).sign=qs q:=by
 rw[<-hq];unfold qs;rw[gY,UW (jr d)]
theorem NN (q:Rat):qs q= -1∨qs q=0∨qs q=1:=by
 unfold qs;rcases Int.lt_trichotomy q.num 0 with h|h|h
 ·exact .inl (ai6 h)
 ·exact .inr (.inl (by rw[h];rfl))
 ·exact .inr (.inr (ai0 h))
theorem Rl (w:ah5):Cb w false none 0 0 0 1:=⟨ny w,Bg⟩
theorem Km [Ol] (z:Int) {m:Bool} {ao:Z'} {n ae:Nat} {k:Bool} {bo:Z'} {l cb:Nat} {x d:Int} {q:Rat} {j:Nat} {w:ah5} (hx:Rx w m ao n ae k bo l cb x d q j) (hj:1<=j) (h:qs q=z):
  Calls Tryz.prog 42 #[.agg #[ah8 m,ah7 ao n ae,ah8 k,ah7 bo l cb]] w (cr (.int .i64 z) w):=by
 have hv:=Rk hx.au;obtain⟨s,hs⟩:∃s,x.sign=s:=⟨_,rfl⟩;obtain⟨t,ht⟩:∃t,(dn d).sign=t:=⟨_,rfl⟩
 have e1:IntKind.i64.wrap (s*t)=z:=by
  rw[<-hs,<-ht,hv,h,<-h];rcases NN q with h2|h2|h2<;>rw[h2]<;>rfl
 have HS:=hid hs;have HT:=hid ht;clear hs ht hv h;go_enter Tryz.func42,Tryz.ntmps42;have S0:=hid (Sx.start (w:=w) (N:=[.rx m ao n ae k bo l cb x d q j]) ⟨hx,trivial⟩);clear hx;have S1:=hid (S0.o.var w.heap.size [ah8 m,ah7 ao n ae,ah8 k,ah7 bo l cb] 31 (by simp));clear S0;go_upto_region 1 with(fail)
 refine aj (λw1 hW=>?_);rw[<-hW]at S1;clear hW;have S2:=hid S1.o.drew;clear S1;refine wp_region_held_drew (S:=λw'=>(w'.cell? ⟨w.heap.size,0,none⟩=some (ah8 m)/\ w'.cell? ⟨w.heap.size,1,none⟩=some (ah7 ao n ae)/\ w'.cell? ⟨w.heap.size,2,none⟩=some (ah8 k)/\ w'.cell? ⟨w.heap.size,3,none⟩=some (ah7 bo l cb))) (by kernel_rfl) ((S2.o.b.c4)) (λhH=>?_);refine ah (λw2 hW=>?_);rw[<-hW]at S2 hH;clear hW;refine aT 0 hH ?_;try simp only[ax]
 refine aT 1 hH ?_;try simp only[ax]
 refine aT 3 hH ?_;try simp only[ax]
 refine ag 2 rfl (by kernel_rfl) (λK hK=>?_);go_simp;refine(iZ (s) S2.o.n.rx.num HS.o).mono ?_;rintro e w3 ⟨rfl,hB⟩;have S3:=hid ((S2.o.step hB));clear S2 hB;go_wp2_with fail;refine hK.o _ _ S3.o.b.c4 (λh2=>?_);clear hK K hH;have hH:=h2;clear h2
 try simp only[ax]
 refine ag 4 rfl (by kernel_rfl) (λK hK=>?_);go_simp;refine(ep S3.o.n.rx).mono ?_;rintro e w4 ⟨aX,aY,aZ,bf,rfl,hX,hB⟩;have S4:=hid (((S3.o.step hB).nb ⟨hX,gy S3.o.n.rx.bd (by omega)⟩ rfl));clear S3 hX hB;go_wp2_with fail;refine hK.o _ _ S4.o.b.c4 (λh2=>?_);clear hK K hH;have hH:=h2;clear h2
 try simp only[ax]
 refine ag 5 rfl (by kernel_rfl) (λK hK=>?_);go_simp;refine(iZ (t) S4.o.n.nb.nx HT.o).mono ?_;rintro e w5 ⟨rfl,hB⟩;have S5:=hid ((S4.o.step hB));clear S4 hB;go_wp2_with fail;refine hK.o _ _ S5.o.b.c4 (λh2=>?_);clear hK K hH;have hH:=h2;clear h2
 try simp only[ax]
 refine aT 6 hH ?_;try simp only[ax]
 refine aT 7 hH ?_;try simp only[ax]
 refine wpAnyH_done (by kernel_rfl) ?_ _
 clear hH;go_wp2_with fail;go_ret;exact⟨rfl,S5.o.h⟩
theorem Cw [Ol] {m:Bool} {ao:Z'} {n ae:Nat} {k:Bool} {bo:Z'} {l cb:Nat} {m2:Bool} {a2:Z'} {n2 c2:Nat} {k2:Bool} {b2:Z'} {l2 d2:Nat} {x d y c:Int} {q r:Rat} {j i:Nat} {w:ah5} (hx:Rx w m ao n ae k bo l cb x d q j) (hy:Rx w m2 a2 n2 c2 k2 b2 l2 d2 y c r i) (hj:1<=j) (hi:1<=i) (hk:j+i+1<=100000):
  Calls Tryz.prog 28 #[.agg #[ah8 m,ah7 ao n ae,ah8 k,ah7 bo l cb],.agg #[ah8 m2,ah7 a2 n2 c2,ah8 k2,ah7 b2 l2 d2]] w (yy w (q+r) (j+i+1)):=by
 have HV:=hid (NM hx.au hy.au);go_enter Tryz.func28,Tryz.ntmps28;have S0:=hid (Sx.start (w:=w) (N:=[.rx m ao n ae k bo l cb x d q j,.rx m2 a2 n2 c2 k2 b2 l2 d2 y c r i]) ⟨hx,hy,trivial⟩);clear hx hy;have S1:=hid (S0.o.var w.heap.size [ah8 m,ah7 ao n ae,ah8 k,ah7 bo l cb] 31 (by simp));clear S0;have S2:=hid (S1.o.var (w.heap.size+1) [ah8 m2,ah7 a2 n2 c2,ah8 k2,ah7 b2 l2 d2] 31 (by simp));clear S1;have S3:=hid (S2.o.var (w.heap.size+2) [ah8 false,ah7 none 0 0,ah8 false,ah7 none 0 0] 31 (by simp));clear S2;go_upto_region 1 with(fail)
 refine aj (λw1 hW=>?_);rw[<-hW]at S3;clear hW;obtain⟨cI,cJ,dE,dF⟩:=S3.o.b.t.t.c4;obtain⟨bM,bN,iU,iV⟩:=S3.o.b.t.c4;go_wp2_with fail;clear cI cJ dE dF bM bN iU iV;refine(ID S3.o.n.rx S3.o.n.t.rx (by omega) (by omega)).mono ?_;rintro e w2 ⟨p0,p1,p2,p3,u_m,u_0,u_n,u_c,u_k,u_1,u_l,u_d,rfl,hC0,WN,hC2,YW,hN1,WO,hB⟩;have S4:=hid ((S3.o.step hB));clear S3 hB;go_wp2_with fail;refine(NJ S4.o.n.rx S4.o.n.t.rx hC0 WN hC2 YW hN1 WO (by omega)).mono ?_;rintro e w3 ⟨aX,aY,aZ,bf,Bh,Bi,Bj,Bk,rfl,hX,hY,hB⟩;have S5:=hid ((((S4.o.step hB).cb hY rfl).cb hX rfl));clear S4 hX hY hB hC0 WN hC2 YW hN1 WO;go_wp2_with fail;refine(ry (⟨S5.o.n.cb.cx.nx,S5.o.n.t.cb.cx.nx,HV.o,S5.o.n.cb.bd.mono (by omega),S5.o.n.t.cb.bd.mono (by omega)⟩:Rx _ _ _ _ _ _ _ _ _ _ _ (q+r) (j+i+1)) (by omega) (by omega)).mono ?_;rintro e w4 ⟨bO,bP,bQ,bR,QF,QG,QH,QI,rfl,hX,hB⟩;have S6:=hid (((S5.o.step hB).rc hX rfl));clear S5 hX hB;obtain⟨bK,bL,kM,kN⟩:=S6.o.b.c4;obtain⟨dL,dM,qQ,qR⟩:=S6.o.b.f4;go_wp2_with fail;have S7:Hid (Sx w _ [⟨(w.heap.size+2),[ah8 bO,ah7 bP bQ bR,ah8 QF,ah7 QG QH QI]⟩,⟨(w.heap.size+1),[ah8 m2,ah7 a2 n2 c2,ah8 k2,ah7 b2 l2 d2]⟩,⟨w.heap.size,[ah8 m,ah7 ao n ae,ah8 k,ah7 bo l cb]⟩] _):=hid (Sx.set [] _ (Sx.set [] _ (Sx.set [] _ (Sx.set [] _ S6.o 0 (ah8 bO)) 1 (ah7 bP bQ bR)) 2 (ah8 QF)) 3 (ah7 QG QH QI));clear S6;refine bodyPost_ret (v:= .agg #[ah8 bO,ah7 bP bQ bR,ah8 QF,ah7 QG QH QI]) (by simp[results,Tryz.results28,go_sem,bK,bL,kM,kN]) rfl ?_;exact⟨_,_,_,_,_,_,_,_,rfl,S7.o.n.rc,S7.o.h⟩
theorem L1 [Ol] (z:Int) {m:Bool} {ao:Z'} {n ae:Nat} {k:Bool} {bo:Z'} {l cb:Nat} {m2:Bool} {a2:Z'} {n2 c2:Nat} {k2:Bool} {b2:Z'} {l2 d2:Nat} {x d y c:Int} {q r:Rat} {j i:Nat} {w:ah5} (hx:Rx w m ao n ae k bo l cb x d q j) (hy:Rx w m2 a2 n2 c2 k2 b2 l2 d2 y c r i) (hj:1<=j) (hi:1<=i) (hk:j+i+1<=100000) (h:qs (q-r)=z):
  Calls Tryz.prog 31 #[.agg #[ah8 m,ah7 ao n ae,ah8 k,ah7 bo l cb],.agg #[ah8 m2,ah7 a2 n2 c2,ah8 k2,ah7 b2 l2 d2]] w (cr (.int .i64 z) w):=by
 have HV:=hid (U8 hx.au hy.au);have HZ:=hid h;clear h;go_enter Tryz.func31,Tryz.ntmps31;have S0:=hid (Sx.start (w:=w) (N:=[.rx m ao n ae k bo l cb x d q j,.rx m2 a2 n2 c2 k2 b2 l2 d2 y c r i]) ⟨hx,hy,trivial⟩);clear hx hy;have S1:=hid (S0.o.var w.heap.size [ah8 m,ah7 ao n ae,ah8 k,ah7 bo l cb] 31 (by simp));clear S0;have S2:=hid (S1.o.var (w.heap.size+1) [ah8 m2,ah7 a2 n2 c2,ah8 k2,ah7 b2 l2 d2] 31 (by simp));clear S1;go_upto_region 1 with(fail)
 refine aj (λw1 hW=>?_);rw[<-hW]at S2;clear hW;obtain⟨cI,cJ,dE,dF⟩:=S2.o.b.t.c4;obtain⟨bM,bN,iU,iV⟩:=S2.o.b.c4;go_wp2_with fail;clear cI cJ dE dF bM bN iU iV;refine(ID S2.o.n.rx S2.o.n.t.rx (by omega) (by omega)).mono ?_;rintro e w2 ⟨p0,p1,p2,p3,u_m,u_0,u_n,u_c,u_k,u_1,u_l,u_d,rfl,hC0,WN,hC2,YW,hN1,WO,hB⟩;have S3:=hid ((S2.o.step hB));clear S2 hB;go_wp2_with fail;refine(NK S3.o.n.rx S3.o.n.t.rx hC0 WN hC2 YW hN1 WO (by omega)).mono ?_;rintro e w3 ⟨aX,aY,aZ,bf,Bh,Bi,Bj,Bk,rfl,hX,hY,hB⟩;have S4:=hid ((((S3.o.step hB).cb hY rfl).cb hX rfl));clear S3 hX hY hB hC0 WN hC2 YW hN1 WO;go_wp2_with fail;refine(Km z (⟨S4.o.n.cb.cx.nx,S4.o.n.t.cb.cx.nx,HV.o,S4.o.n.cb.bd,S4.o.n.t.cb.bd⟩:Rx _ _ _ _ _ _ _ _ _ _ _ _ _) (by omega) HZ.o).mono ?_;rintro e w4 ⟨rfl,hB⟩;have S5:=hid ((S4.o.step hB));clear S4 hB;go_wp2_with fail;go_ret;exact⟨rfl,S5.o.h⟩
theorem LZ [Ol] {m:Bool} {ao:Z'} {n ae:Nat} {k:Bool} {bo:Z'} {l cb:Nat} {m2:Bool} {a2:Z'} {n2 c2:Nat} {k2:Bool} {b2:Z'} {l2 d2:Nat} {x d y c:Int} {q r:Rat} {j i:Nat} {w:ah5} (hx:Rx w m ao n ae k bo l cb x d q j) (hy:Rx w m2 a2 n2 c2 k2 b2 l2 d2 y c r i) (hj:1<=j) (hi:1<=i) (hk:j+i+1<=100000):
  Calls Tryz.prog 29 #[.agg #[ah8 m,ah7 ao n ae,ah8 k,ah7 bo l cb],.agg #[ah8 m2,ah7 a2 n2 c2,ah8 k2,ah7 b2 l2 d2]] w (yy w (q*r) (j+i)):=by
 have HV:=hid (U9 hx.au hy.au);go_enter Tryz.func29,Tryz.ntmps29;have S0:=hid (Sx.start (w:=w) (N:=[.rx m ao n ae k bo l cb x d q j,.rx m2 a2 n2 c2 k2 b2 l2 d2 y c r i]) ⟨hx,hy,trivial⟩);clear hx hy;have S1:=hid (S0.o.var w.heap.size [ah8 m,ah7 ao n ae,ah8 k,ah7 bo l cb] 31 (by simp));clear S0;have S2:=hid (S1.o.var (w.heap.size+1) [ah8 m2,ah7 a2 n2 c2,ah8 k2,ah7 b2 l2 d2] 31 (by simp));clear S1;have S3:=hid (S2.o.var (w.heap.size+2) [ah8 false,ah7 none 0 0,ah8 false,ah7 none 0 0] 31 (by simp));clear S2;go_upto_region 1 with(fail)
 refine aj (λw1 hW=>?_);rw[<-hW]at S3;clear hW;have S4:=hid S3.o.drew;clear S3;refine wp_region_held_drew (S:=λw'=>(w'.cell? ⟨w.heap.size,0,none⟩=some (ah8 m)/\ w'.cell? ⟨w.heap.size,1,none⟩=some (ah7 ao n ae)/\ w'.cell? ⟨w.heap.size,2,none⟩=some (ah8 k)/\ w'.cell? ⟨w.heap.size,3,none⟩=some (ah7 bo l cb))/\ (w'.cell? ⟨(w.heap.size+1),0,none⟩=some (ah8 m2)/\ w'.cell? ⟨(w.heap.size+1),1,none⟩=some (ah7 a2 n2 c2)/\ w'.cell? ⟨(w.heap.size+1),2,none⟩=some (ah8 k2)/\ w'.cell? ⟨(w.heap.size+1),3,none⟩=some (ah7 b2 l2 d2))) (by kernel_rfl) (⟨S4.o.b.t.t.c4,S4.o.b.t.c4⟩) (λhH=>?_);refine ah (λw2 hW=>?_);rw[<-hW]at S4 hH;clear hW;refine aT 0 hH ?_;try simp only[ax]
 refine aT 1 hH ?_;try simp only[ax]
 refine aT 2 hH ?_;try simp only[ax]
 refine aT 3 hH ?_;try simp only[ax]
 refine aT 5 hH ?_;try simp only[ax]
 refine aT 7 hH ?_;try simp only[ax]
 refine ag 4 rfl (by kernel_rfl) (λK hK=>?_);go_simp;refine(eF S4.o.n.rx.num S4.o.n.t.rx.num).mono ?_;rintro e w3 ⟨aX,aY,aZ,bf,rfl,hX,hB⟩;have S5:=hid (((S4.o.step hB).cb (hX.cb (S4.o.n.rx.bn.mul S4.o.n.t.rx.bn) (by omega)) rfl));clear S4 hX hB;go_wp2_with fail;refine hK.o _ _ ⟨S5.o.b.t.t.c4,S5.o.b.t.c4⟩ (λh2=>?_);clear hK K hH;have hH:=h2;clear h2
 try simp only[ax]
 refine ag 6 rfl (by kernel_rfl) (λK hK=>?_);go_simp;refine(ep S5.o.n.t.rx).mono ?_;rintro e w4 ⟨bO,bP,bQ,bR,rfl,hX,hB⟩;have S6:=hid (((S5.o.step hB).nb ⟨hX,gy S5.o.n.t.rx.bd (by omega)⟩ rfl));clear S5 hX hB;go_wp2_with fail;refine hK.o _ _ ⟨S6.o.b.t.t.c4,S6.o.b.t.c4⟩ (λh2=>?_);clear hK K hH;have hH:=h2;clear h2
 try simp only[ax]
 refine ag 8 rfl (by kernel_rfl) (λK hK=>?_);go_simp;refine(ep S6.o.n.t.t.t.rx).mono ?_;rintro e w5 ⟨cW,cX,cY,cZ,rfl,hX,hB⟩;have S7:=hid (((S6.o.step hB).nb ⟨hX,gy S6.o.n.t.t.t.rx.bd (by omega)⟩ rfl));clear S6 hX hB;go_wp2_with fail;refine hK.o _ _ ⟨S7.o.b.t.t.c4,S7.o.b.t.c4⟩ (λh2=>?_);clear hK K hH;have hH:=h2;clear h2
 try simp only[ax]
 refine ag 9 rfl (by kernel_rfl) (λK hK=>?_);go_simp;refine(eF S7.o.n.t.nb.nx S7.o.n.nb.nx).mono ?_;rintro e w6 ⟨dP,dQ,dR,dS,rfl,hX,hB⟩;have S8:=hid (((S7.o.step hB).cb (hX.cb (S7.o.n.t.nb.bd.mul S7.o.n.nb.bd) (by omega)) rfl));clear S7 hX hB;go_wp2_with fail;refine hK.o _ _ ⟨S8.o.b.t.t.c4,S8.o.b.t.c4⟩ (λh2=>?_);clear hK K hH;have hH:=h2;clear h2
 try simp only[ax]
 refine aT 10 hH ?_;try simp only[ax]
 refine ag 11 rfl (by kernel_rfl) (λK hK=>?_);go_simp;refine(ry (⟨S8.o.n.t.t.t.cb.cx.nx,S8.o.n.cb.cx.nx,HV.o,S8.o.n.t.t.t.cb.bd.mono (by omega),S8.o.n.cb.bd.mono (by omega)⟩:Rx _ _ _ _ _ _ _ _ _ _ _ (q*r) (j+i)) (by omega) (by omega)).mono ?_;rintro e w7 ⟨ji,jk,jl,jm,QJ,QK,QL,QM,rfl,hX,hB⟩;have S9:=hid (((S8.o.step hB).rc hX rfl));clear S8 hX hB;go_wp2_with fail;refine hK.o _ _ ⟨S9.o.b.t.t.c4,S9.o.b.t.c4⟩ (λh2=>?_);clear hK K hH;have hH:=h2;clear h2
 try simp only[ax]
 refine ag 12 rfl (by kernel_rfl) (λK hK=>?_);obtain⟨bK,bL,kM,kN⟩:=S9.o.b.c4;obtain⟨dL,dM,qQ,qR⟩:=S9.o.b.f4;go_simp;clear bK bL kM kN dL dM qQ qR;have lI:Hid (Sx w _ [⟨(w.heap.size+2),[ah8 ji,ah7 jk jl jm,ah8 QJ,ah7 QK QL QM]⟩,⟨(w.heap.size+1),[ah8 m2,ah7 a2 n2 c2,ah8 k2,ah7 b2 l2 d2]⟩,⟨w.heap.size,[ah8 m,ah7 ao n ae,ah8 k,ah7 bo l cb]⟩] _):=hid (Sx.set [] _ (Sx.set [] _ (Sx.set [] _ (Sx.set [] _ S9.o 0 (ah8 ji)) 1 (ah7 jk jl jm)) 2 (ah8 QJ)) 3 (ah7 QK QL QM));clear S9;refine hK.o _ _ ⟨lI.o.b.t.t.c4,lI.o.b.t.c4⟩ (λh2=>?_);clear hK K hH;have hH:=h2;clear h2
 try simp only[ax]
 refine ah (λw8 hW=>?_);rw[<-hW]at lI hH;clear hW;refine wpAnyH_done (by kernel_rfl) ?_ _
 clear hH;obtain⟨bK,bL,kM,kN⟩:=lI.o.b.c4;obtain⟨dL,dM,qQ,qR⟩:=lI.o.b.f4;go_wp2_with fail;refine bodyPost_ret (v:= .agg #[ah8 ji,ah7 jk jl jm,ah8 QJ,ah7 QK QL QM]) (by simp[results,Tryz.results29,go_sem,bK,bL,kM,kN]) rfl ?_;exact⟨_,_,_,_,_,_,_,_,rfl,lI.o.n.rc,lI.o.h⟩
theorem wP [Ol] {m:Bool} {ao:Z'} {n ae:Nat} {x:Int} {j:Nat} {w:ah5} (hx:Nx w m ao n ae x) (hb:Bd x j) (h1:1<=j) (h2:j<=100000):
  Calls Tryz.prog 147 #[.agg #[ah8 m,ah7 ao n ae]] w (yy w (qv x 0) j):=by
 have hz0:=Rl w;have hxb:Nb w m ao n ae x j:=⟨hx,hb⟩;clear hx hb;go_enter Tryz.func147,Tryz.ntmps147;have S0:=hid (Sx.start (w:=w) (N:=[.nb m ao n ae x j,.cb false none 0 0 (0:Int) 1]) ⟨hxb,hz0,trivial⟩);clear hxb hz0;have S1:=hid (S0.o.var w.heap.size [ah8 m,ah7 ao n ae] 29 (by simp));clear S0;have S2:=hid (S1.o.var (w.heap.size+1) [ah8 false,ah7 none 0 0,ah8 false,ah7 none 0 0] 31 (by simp));clear S1;go_upto_region 1 with(fail)
 refine aj (λw1 hW=>?_);rw[<-hW]at S2;clear hW;obtain⟨cM,cN⟩:=S2.o.b.t.c2;go_wp2_with fail;clear cM cN;refine(ry (⟨S2.o.n.nb.nx,S2.o.n.t.cb.cx.nx,rfl,S2.o.n.nb.bd.mono (by omega),S2.o.n.t.cb.bd.mono (by omega)⟩:Rx _ _ _ _ _ _ _ _ _ _ _ (qv x 0) j) (by omega) (by omega)).mono ?_;rintro e w2 ⟨aX,aY,aZ,bf,Bh,Bi,Bj,Bk,rfl,hX,hB⟩;have S3:=hid (((S2.o.step hB).rc hX rfl));clear S2 hX hB;obtain⟨cI,cJ,dE,dF⟩:=S3.o.b.c4;obtain⟨kK,kL,nD,nE⟩:=S3.o.b.f4;go_wp2_with fail;have S4:Hid (Sx w _ [⟨(w.heap.size+1),[ah8 aX,ah7 aY aZ bf,ah8 Bh,ah7 Bi Bj Bk]⟩,⟨w.heap.size,[ah8 m,ah7 ao n ae]⟩] _):=hid (Sx.set [] _ (Sx.set [] _ (Sx.set [] _ (Sx.set [] _ S3.o 0 (ah8 aX)) 1 (ah7 aY aZ bf)) 2 (ah8 Bh)) 3 (ah7 Bi Bj Bk));clear S3;refine bodyPost_ret (v:= .agg #[ah8 aX,ah7 aY aZ bf,ah8 Bh,ah7 Bi Bj Bk]) (by simp[results,Tryz.results147,go_sem,cI,cJ,dE,dF]) rfl ?_;exact⟨_,_,_,_,_,_,_,_,rfl,S4.o.n.rc,S4.o.h⟩
end
section
open Go.RowKit
end
end Go.Proofs.YtmenbpmciblnlaaGreatDoor

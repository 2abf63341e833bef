/- QPlain, Rx, RatioA, RatioLow, RatioTog, RatioFld, RatioOf -/
import Derived.Test.YtmenbpmciblnlaaGreatDoorEn
import Derived.Deep.CutRange
import Derived.Test.YtmenbpmciblnlaaGreatDoorGWD
set_option maxHeartbeats 0
set_option maxRecDepth 100000
open Go.AllReadyH renaming nil->a0a
open Go.Value renaming slice->a0b
open Int renaming gcd->a0l,gcd_comm->a0g,gcd_dvd_left->a0f,gcd_dvd_right->a0h,gcd_neg->a0q,gcd_pos_of_ne_zero_right->a0i,mul_tdiv_cancel_left->a0c,natAbs_natCast->a0k,neg_gcd->a0p,neg_tdiv->a0s,one_mul->a0e,sign_eq_neg_one_of_neg->a0j,sign_eq_one_of_pos->a0d,sign_eq_zero_iff_zero->a0m,tdiv_neg->a0r,tmod_eq_zero_of_dvd->a0n,tmod_neg->a0o
open Rat renaming den_divInt->a0u,divInt->a0t
/- Quotients of whole numbers, in plain numbers: parts in lowest terms, signs, order (over the numbers Rat of Lean itself). -/
namespace Go.Proofs.YtmenbpmciblnlaaGreatDoor
section
def qv (n d:Int):Rat:=a0t n (if d=0 then 1 else d)
theorem H6 {n g:Int} (h:g ∣ n):n.tdiv g=n/g:=by
 obtain⟨k,rfl⟩:=h;by_cases hg:g=0
 ·subst hg;simp
 ·rw[a0c _ hg,Int.mul_ediv_cancel_left _ hg]
theorem mP {n d:Int} (h:0<d):(a0t n d).num=n.tdiv ((n.gcd d:Nat):Int):=by
 rw[Rat.num_divInt,a0d h,a0e,H6 (a0f _ _),a0g]
theorem tF {n d:Int} (h:0<d):((a0t n d).den:Int)=d.tdiv ((n.gcd d:Nat):Int):=by
 rw[a0u,if_neg (by omega),H6 (a0h _ _),a0g];have e:((d.natAbs:Nat):Int)=d:=by omega
 rw[Int.natCast_ediv,e]
theorem kG (n d:Int):a0t (-n) (-d)=a0t n d:=by
 by_cases h:d=0
 ·subst h;simp
 ·have:= @Rat.divInt_mul_right n d (-1) (by omega);simpa using this
theorem Dm {n d:Int} (h:d<0):(a0t n d).num=(-n).tdiv (((-n).gcd (-d):Nat):Int):=by
 rw[<-kG,mP (by omega)]
theorem Dn {n d:Int} (h:d<0):((a0t n d).den:Int)=(-d).tdiv (((-n).gcd (-d):Nat):Int):=by
 rw[<-kG,tF (by omega)]
theorem Oa {n d:Int} (h:d≠0):((n.gcd d:Nat):Int)≠0:=by
 have:=a0i n h;omega
theorem QY {n d:Int} (h:d≠0):(a0t n d).num.sign=n.sign*d.sign:=by
 have hp:∀{n d:Int},0<d->(a0t n d).num.sign=n.sign:=by
  intro n d hd;rw[mP hd];have hg:0<((n.gcd d:Nat):Int):=by have:=Oa (n:=n) (d:=d) (by omega);omega
  obtain⟨k,hk⟩:((n.gcd d:Nat):Int) ∣ n:=a0f _ _;obtain⟨g,hgg⟩:∃g,g=((n.gcd d:Nat):Int):=⟨_,rfl⟩;rw[<-hgg]at hk hg ⊢;rw[hk,a0c _ (by omega),Int.sign_mul,a0d hg,a0e]
 by_cases hd:0<d
 ·rw[hp hd,a0d hd,Int.mul_one]
 ·rw[<-kG,hp (by omega),Int.sign_neg,a0j (show d<0 by omega)];omega
theorem RJ (n d:Int) (h:d≠0):(a0t n d).num.natAbs<=n.natAbs:=by
 have hp:∀{n d:Int},0<d->(a0t n d).num.natAbs<=n.natAbs:=by
  intro n d hd;rw[mP hd,Int.natAbs_tdiv];exact Nat.div_le_self _ _
 by_cases hd:0<d
 ·exact hp hd
 ·have:=hp (n:= -n) (d:= -d) (by omega);rw[kG,Int.natAbs_neg]at this;exact this
theorem RL (n d:Int) (h:d≠0):(a0t n d).den<=d.natAbs:=by
 rw[a0u,if_neg h];exact Nat.div_le_self _ _
theorem ae6 {n:Int} {d:Nat} (hd:0<d) (hg:n.gcd d=1):(a0t n d).num=n/\ (a0t n d).den=d:=by
 have h1:=mP (n:=n) (d:=(d:Int)) (by omega);have h2:=tF (n:=n) (d:=(d:Int)) (by omega);rw[hg]at h1 h2;simp at h1 h2;have h3:((a0t n d).den:Int)=(d:Int):=by simpa using h2
 exact⟨by simpa using h1,Int.ofNat.inj h3⟩
def qs (a:Rat):Int:=a.num.sign
end
/- Quotients as values: a struct of two numbers with a sign; what calls leave that answer one. -/
section
open Go.RowKit
def dn (d:Int):Int:=if d=0 then 1 else d
theorem kg (d:Int):dn d≠0:=by unfold dn;split<;>omega
theorem Dk {d:Int} (h:d≠0):dn d=d:=by unfold dn;rw[if_neg h]
theorem EA {d:Int} (h:d=0):dn d=1:=by unfold dn;rw[if_pos h]
theorem kW (x d:Int):qv x d=a0t x (dn d):=rfl
theorem PO {x d:Int} (h:d≠0):qv x d=a0t x d:=by rw[kW,Dk h]
theorem jc {d:Int} {j:Nat} (h:Bd d j) (hj:1<=j):Bd (dn d) j:=by
 unfold dn;split
 ·exact(show Bd 1 1 by unfold Bd;decide).mono hj
 ·exact h
theorem EK (q:Rat):(q.den:Int)≠0:=by have:=q.den_nz;omega
theorem LW (q:Rat):qv q.num q.den=q:=by rw[PO (EK q)];exact Rat.num_divInt_den q
structure Rx (w:World) (m:Bool) (ao:Option Addr) (n cap:Nat) (k:Bool) (bo:Option Addr) (l cb:Nat) (x d:Int) (q:Rat) (j:Nat):Prop where
 num:Nx w m ao n cap x
 den:Nx w k bo l cb d
 val:qv x d=q
 bn:Bd x j
 bd:Bd d j
structure Rc (w:World) (m:Bool) (ao:Option Addr) (n cap:Nat) (k:Bool) (bo:Option Addr) (l cb:Nat) (q:Rat) (j:Nat):Prop where
 num:Cx w m ao n cap q.num
 den:Cx w k bo l cb (q.den:Int)
 bn:Bd q.num j
 bd:Bd (q.den:Int) j
structure Qx [Ol] (w:World) (m:Bool) (ao:Option Addr) (n cap:Nat) (k:Bool) (bo:Option Addr) (l cb:Nat) (x d:Int) (q:Rat) (j:Nat):Prop where
 num:Zx w m ao n cap x
 den:Zx w k bo l cb d
 nz:d≠0
 val:a0t x d=q
 bn:Bd x j
 bd:Bd d j
theorem Rc.rx {w:World} {m:Bool} {ao:Option Addr} {n cap:Nat} {k:Bool} {bo:Option Addr} {l cb:Nat} {q:Rat} {j:Nat} (h:Rc w m ao n cap k bo l cb q j):Rx w m ao n cap k bo l cb q.num q.den q j:=
 ⟨h.num.nx,h.den.nx,LW q,h.bn,h.bd⟩
def RN (ao:Option Addr) (n:Nat) (bo:Option Addr) (l:Nat) (c:Nat):Prop:=iJ ao n c∨iJ bo l c
def En.rx (m:Bool) (ao:Option Addr) (n cap:Nat) (k:Bool) (bo:Option Addr) (l cb:Nat) (x d:Int) (q:Rat) (j:Nat):En:=
 ⟨λw=>Rx w m ao n cap k bo l cb x d q j,RN ao n bo l,
  λw w' hh h=>⟨EO w w' (λc hc=>hh c (.inl hc)) h.num,EO w w' (λc hc=>hh c (.inr hc)) h.den,h.val,h.bn,h.bd⟩,
  λw h c hc=>hc.elim (Dt w h.num c) (Dt w h.den c)⟩
def En.rc (m:Bool) (ao:Option Addr) (n cap:Nat) (k:Bool) (bo:Option Addr) (l cb:Nat) (q:Rat) (j:Nat):En:=
 ⟨λw=>Rc w m ao n cap k bo l cb q j,RN ao n bo l,
  λw w' hh h=>⟨EP w w' (λc hc=>hh c (.inl hc)) h.num,EP w w' (λc hc=>hh c (.inr hc)) h.den,h.bn,h.bd⟩,
  λw h c hc=>hc.elim (Dt w h.num.nx c) (Dt w h.den.nx c)⟩
def En.qx [Ol] (m:Bool) (ao:Option Addr) (n cap:Nat) (k:Bool) (bo:Option Addr) (l cb:Nat) (x d:Int) (q:Rat) (j:Nat):En:=
 ⟨λw=>Qx w m ao n cap k bo l cb x d q j,RN ao n bo l,
  λw w' hh h=>⟨EQ w w' (λc hc=>hh c (.inl hc)) h.num,EQ w w' (λc hc=>hh c (.inr hc)) h.den,h.nz,h.val,h.bn,h.bd⟩,
  λw h c hc=>hc.elim (EN w h.num.zd.sl c) (EN w h.den.zd.sl c)⟩
theorem iZ.rx {w:World} {m:Bool} {ao:Option Addr} {n cap:Nat} {k:Bool} {bo:Option Addr} {l cb:Nat} {x d:Int} {q:Rat} {j:Nat} {r:List En} (h:iZ w (.rx m ao n cap k bo l cb x d q j::r)):Rx w m ao n cap k bo l cb x d q j:=h.1
theorem iZ.rc {w:World} {m:Bool} {ao:Option Addr} {n cap:Nat} {k:Bool} {bo:Option Addr} {l cb:Nat} {q:Rat} {j:Nat} {r:List En} (h:iZ w (.rc m ao n cap k bo l cb q j::r)):Rc w m ao n cap k bo l cb q j:=h.1
theorem iZ.qx [Ol] {w:World} {m:Bool} {ao:Option Addr} {n cap:Nat} {k:Bool} {bo:Option Addr} {l cb:Nat} {x d:Int} {q:Rat} {j:Nat} {r:List En} (h:iZ w (.qx m ao n cap k bo l cb x d q j::r)):Qx w m ao n cap k bo l cb x d q j:=h.1
theorem Nx.dis {w:World} {p:Nat} {B:List Var} (hB:Vars w p B) (hp:Plain B) {m:Bool} {ao:Option Addr} {n cap:Nat} {z:Int} (h:Nx w m ao n cap z):∀v∈B,¬iJ ao n v.b:=by
 obtain⟨xs,hs,hz⟩:=h.inn;exact xM hB hp hs
theorem Sx.rx {w0 w:World} {B:List Var} {N:List En} (s:Sx w0 w B N) {m:Bool} {ao:Option Addr} {n cap:Nat} {k:Bool} {bo:Option Addr} {l cb:Nat} {x d:Int} {q:Rat} {j:Nat} (h:Rx w m ao n cap k bo l cb x d q j) (hp:Plain B):Sx w0 w B (.rx m ao n cap k bo l cb x d q j::N):=
 s.add (.rx m ao n cap k bo l cb x d q j) h (λv hv hc=>hc.elim (h.num.dis s.b hp v hv) (h.den.dis s.b hp v hv))
theorem Sx.rc {w0 w:World} {B:List Var} {N:List En} (s:Sx w0 w B N) {m:Bool} {ao:Option Addr} {n cap:Nat} {k:Bool} {bo:Option Addr} {l cb:Nat} {q:Rat} {j:Nat} (h:Rc w m ao n cap k bo l cb q j) (hp:Plain B):Sx w0 w B (.rc m ao n cap k bo l cb q j::N):=
 s.add (.rc m ao n cap k bo l cb q j) h (λv hv hc=>hc.elim (h.num.nx.dis s.b hp v hv) (h.den.nx.dis s.b hp v hv))
theorem Sx.qx [Ol] {w0 w:World} {B:List Var} {N:List En} (s:Sx w0 w B N) {m:Bool} {ao:Option Addr} {n cap:Nat} {k:Bool} {bo:Option Addr} {l cb:Nat} {x d:Int} {q:Rat} {j:Nat} (h:Qx w m ao n cap k bo l cb x d q j) (hp:Plain B):Sx w0 w B (.qx m ao n cap k bo l cb x d q j::N):=
 s.add (.qx m ao n cap k bo l cb x d q j) h (λv hv hc=>hc.elim (zG s.b hp h.num.zd.sl v hv) (zG s.b hp h.den.zd.sl v hv))
def EC (w:World) (q:Rat) (j:Nat) (e:Ending) (w':World):Prop:=
 ∃m ao n cap k bo l cb,e= .returned (.agg #[.bool m,a0b ao n cap,.bool k,a0b bo l cb])/\ Rc w' m ao n cap k bo l cb q j/\ Below w.heap.size w w'
def ae7 (w:World) (q:Rat) (j:Nat) (er:Int) (e:Ending) (w':World):Prop:=
 ∃m ao n cap k bo l cb,e= .returned (.tuple #[.agg #[.bool m,a0b ao n cap,.bool k,a0b bo l cb],.int .i64 er])/\ Rc w' m ao n cap k bo l cb q j/\ Below w.heap.size w w'
def LU (w:World) (x d:Int) (j:Nat) (e:Ending) (w':World):Prop:=
 ∃m ao n cap k bo l cb,e= .returned (.agg #[.bool m,a0b ao n cap,.bool k,a0b bo l cb])/\ Cb w' m ao n cap x j/\ Cb w' k bo l cb d j/\ Below w.heap.size w w'
def Gd [Ol] (w:World) (x d:Int) (q:Rat) (j:Nat) (e:Ending) (w':World):Prop:=
 ∃m ao n cap k bo l cb,e= .returned (.agg #[.bool m,a0b ao n cap,.bool k,a0b bo l cb])/\ Qx w' m ao n cap k bo l cb x d q j/\ Below w.heap.size w w'
def YG (w:World) (z:Int) (e:Ending) (w':World):Prop:=
 ∃m ao n cap,e= .returned (.agg #[.bool m,a0b ao n cap])/\ Nx w' m ao n cap z/\ Below w.heap.size w w'
theorem xI {x d:Int} {j:Nat} (hx:Bd x j) (hd:d≠0):Bd (a0t x d).num j:=Nat.lt_of_le_of_lt (RJ x d hd) hx
theorem xJ {x d:Int} {j:Nat} (h:Bd d j) (hd:d≠0):Bd ((a0t x d).den:Int) j:=by
 have:=RL x d hd;unfold Bd at*
 rw[a0k];omega
theorem Rc.mono {w:World} {m:Bool} {ao:Option Addr} {n cap:Nat} {k:Bool} {bo:Option Addr} {l cb:Nat} {q:Rat} {i j:Nat} (h:Rc w m ao n cap k bo l cb q i) (hj:i<=j):Rc w m ao n cap k bo l cb q j:=
 ⟨h.num,h.den,h.bn.mono hj,h.bd.mono hj⟩
end
/- The contracts of ratio.isOne and ratio.denominator. -/
section
open Lib (hid)
open Go.RowKit
theorem Bd.Yg {x y:Int} {i j k:Nat} (h:Bd x i) (h':Bd y j) (hi:i+1<=k) (hj:j+1<=k):Bd (x+y) k:=(h.mono (show i<=k-1 by omega)).add (h'.mono (show j<=k-1 by omega)) (by omega)
theorem Ap {x d:Int} {j:Nat} (h:Bd d j) (h0:d≠0):Bd ((a0l x d:Nat):Int) j:=by
 unfold Bd at*
 rw[a0k];have h1:a0l x d ∣ d.natAbs:=Nat.gcd_dvd_right _ _;have:=Nat.le_of_dvd (by omega) h1;omega
theorem RO [Ol] {m:Bool} {ao:Option Addr} {n cap:Nat} {k:Bool} {bo:Option Addr} {l cb:Nat} {x d:Int} {q:Rat} {j:Nat} {w:World} (hx:Rx w m ao n cap k bo l cb x d q j) (h:d≠0):
  Calls Tryz.prog 80 #[.agg #[.bool m,a0b ao n cap,.bool k,a0b bo l cb]] w (YG w (dn d)):=by
 obtain⟨s,hs⟩:∃s,d.sign=s:=⟨_,rfl⟩;have e1:(s==0)=false:=by rw[<-hs];simp[a0m];exact h
 have HS:=hid hs;have H0:=hid h;clear hs h;go_enter Tryz.func80,Tryz.ntmps80;have S0:=hid (Sx.start (w:=w) (N:=[.rx m ao n cap k bo l cb x d q j]) ⟨hx,trivial⟩);clear hx;have S1:=hid (S0.out.var (w.heap.size) [.bool m,a0b ao n cap,.bool k,a0b bo l cb] 31 (by simp));clear S0;have S2:=hid (S1.out.var (w.heap.size+1) [.bool false,a0b none 0 0] 29 (by simp));clear S1;go_upto_region 1 with(fail)
 refine aj (λw1 hW=>?_);rw[<-hW]at S2;clear hW;obtain⟨cZ,dh,dW,dX⟩:=S2.out.b.t.c4;go_wp2_with fail;clear cZ dh dW dX;refine(nJ (s) S2.out.n.rx.den (HS.out)).mono ?_;rintro e w2 ⟨rfl,hB⟩;have S3:=hid ((S2.out.step hB));clear S2 hB;obtain⟨cZ,dh,dW,dX⟩:=S3.out.b.t.c4;obtain⟨bW,bX⟩:=S3.out.b.c2;obtain⟨jg,jh⟩:=S3.out.b.f2;go_wp2_with fail;have S4:Hid (Sx w _ [⟨(w.heap.size+1),[.bool k,a0b bo l cb]⟩,⟨(w.heap.size),[.bool m,a0b ao n cap,.bool k,a0b bo l cb]⟩] _):=hid (Sx.set [] [⟨(w.heap.size),[.bool m,a0b ao n cap,.bool k,a0b bo l cb]⟩] (Sx.set [] [⟨(w.heap.size),[.bool m,a0b ao n cap,.bool k,a0b bo l cb]⟩] S3.out 0 (.bool k)) 1 (a0b bo l cb));clear S3;refine bodyPost_ret (v:= .agg #[.bool k,a0b bo l cb]) (by simp[results,Tryz.results80,go_sem,bW,bX]) rfl ?_;exact⟨_,_,_,_,rfl,(by rw[Dk H0.out];exact S4.out.n.rx.den),S4.out.h⟩
theorem RP [Ol] {m:Bool} {ao:Option Addr} {n cap:Nat} {k:Bool} {bo:Option Addr} {l cb:Nat} {x d:Int} {q:Rat} {j:Nat} {w:World} (hx:Rx w m ao n cap k bo l cb x d q j) (h:d=0):
  Calls Tryz.prog 80 #[.agg #[.bool m,a0b ao n cap,.bool k,a0b bo l cb]] w (YG w (dn d)):=by
 obtain⟨s,hs⟩:∃s,d.sign=s:=⟨_,rfl⟩;have e1:(s==0)=true:=by rw[<-hs];simp[a0m];exact h
 have HS:=hid hs;have H0:=hid h;clear hs h;go_enter Tryz.func80,Tryz.ntmps80;have S0:=hid (Sx.start (w:=w) (N:=[.rx m ao n cap k bo l cb x d q j]) ⟨hx,trivial⟩);clear hx;have S1:=hid (S0.out.var (w.heap.size) [.bool m,a0b ao n cap,.bool k,a0b bo l cb] 31 (by simp));clear S0;have S2:=hid (S1.out.var (w.heap.size+1) [.bool false,a0b none 0 0] 29 (by simp));clear S1;go_upto_region 1 with(fail)
 refine aj (λw1 hW=>?_);rw[<-hW]at S2;clear hW;obtain⟨cZ,dh,dW,dX⟩:=S2.out.b.t.c4;go_wp2_with fail;clear cZ dh dW dX;refine(nJ (s) S2.out.n.rx.den (HS.out)).mono ?_;rintro e w2 ⟨rfl,hB⟩;have S3:=hid ((S2.out.step hB));clear S2 hB;go_wp2_with fail;refine(vV (1) _ ⟨by omega,by omega⟩).mono ?_;rintro e w3 ⟨aS,aT,aU,aV,rfl,hX,hB⟩;have S4:=hid (((S3.out.step hB).cb (hX.cb (show Bd (1:Int) 1 by unfold Bd;decide) (by omega)) rfl));clear S3 hX hB;obtain⟨bW,bX⟩:=S4.out.b.c2;obtain⟨jg,jh⟩:=S4.out.b.f2;go_wp2_with fail;have S5:Hid (Sx w _ [⟨(w.heap.size+1),[.bool aS,a0b aT aU aV]⟩,⟨(w.heap.size),[.bool m,a0b ao n cap,.bool k,a0b bo l cb]⟩] _):=hid (Sx.set [] [⟨(w.heap.size),[.bool m,a0b ao n cap,.bool k,a0b bo l cb]⟩] (Sx.set [] [⟨(w.heap.size),[.bool m,a0b ao n cap,.bool k,a0b bo l cb]⟩] S4.out 0 (.bool aS)) 1 (a0b aT aU aV));clear S4;refine bodyPost_ret (v:= .agg #[.bool aS,a0b aT aU aV]) (by simp[results,Tryz.results80,go_sem,bW,bX]) rfl ?_;exact⟨_,_,_,_,rfl,(by rw[EA H0.out];exact S5.out.n.cb.cx.nx),S5.out.h⟩
theorem gq [Ol] {m:Bool} {ao:Option Addr} {n cap:Nat} {k:Bool} {bo:Option Addr} {l cb:Nat} {x d:Int} {q:Rat} {j:Nat} {w:World} (hx:Rx w m ao n cap k bo l cb x d q j):
  Calls Tryz.prog 80 #[.agg #[.bool m,a0b ao n cap,.bool k,a0b bo l cb]] w (YG w (dn d)):=by
 by_cases h:d=0
 ·exact RP hx h
 ·exact RO hx h
end
/- The contract of ratio.lowest. -/
section
open Lib (hid)
open Go.RowKit
theorem Ko [Ol] {m:Bool} {ao:Option Addr} {n cap:Nat} {k:Bool} {bo:Option Addr} {l cb:Nat} {x d:Int} {q:Rat} {j:Nat} {w:World} (hx:Rx w m ao n cap k bo l cb x d q j) (h1:1<=j) (h2:j<=100000) (hp:0<dn d):
  Calls Tryz.prog 76 #[.agg #[.bool m,a0b ao n cap,.bool k,a0b bo l cb]] w (EC w q j):=by
 have hv:=hx.val;have hbn:Bd q.num j:=by rw[<-hv,kW];exact xI hx.bn (kg d)
 have hbd:Bd (q.den:Int) j:=by rw[<-hv,kW];exact xJ (jc hx.bd h1) (kg d)
 have hg0:((a0l x (dn d):Nat):Int)≠0:=by have:=a0i x (kg d);omega
 obtain⟨g,hg⟩:∃g,((a0l x (dn d):Nat):Int)=g:=⟨_,rfl⟩;have hgx:g ∣ x:=by rw[<-hg];exact a0f _ _
 have hgd:g ∣ dn d:=by rw[<-hg];exact a0h _ _
 rw[hg]at hg0;have HG:=hid hg;have UI:=hid hbn;have BZ:=hid hbd;obtain⟨s,hs⟩:∃s,(dn d).sign=s:=⟨_,rfl⟩;have e1:decide (s<0)=false:=by rw[<-hs];simp;omega
 have H0:=hid hg0;have HR1:=hid (a0n hgx);have HR2:=hid (a0n hgd);have Dl:Hid (x.tdiv g=q.num):=by rw[Hid,<-hv,kW,mP hp,<-hg]
 have HE2:Hid ((dn d).tdiv g=(q.den:Int)):=by rw[Hid,<-hv,kW,tF hp,<-hg]
 have HS:=hid hs;clear hs hv hbn hbd hg0 hg hgx hgd hp;go_enter Tryz.func76,Tryz.ntmps76;have S0:=hid (Sx.start (w:=w) (N:=[.rx m ao n cap k bo l cb x d q j]) ⟨hx,trivial⟩);clear hx;have S1:=hid (S0.out.var (w.heap.size) [.bool m,a0b ao n cap,.bool k,a0b bo l cb] 31 (by simp));clear S0;have S2:=hid (S1.out.var (w.heap.size+1) [.bool false,a0b none 0 0,.bool false,a0b none 0 0] 31 (by simp));clear S1;go_upto_region 1 with(fail)
 refine aj (λw1 hW=>?_);rw[<-hW]at S2;clear hW;obtain⟨cZ,dh,dW,dX⟩:=S2.out.b.t.c4;go_wp2_with fail;clear cZ dh dW dX;refine(gq S2.out.n.rx).mono ?_;rintro e w2 ⟨aS,aT,aU,aV,rfl,hX,hB⟩;have S3:=hid (((S2.out.step hB).nb ⟨hX,jc S2.out.n.rx.bd (by omega)⟩ rfl));clear S2 hX hB;go_upto_region 2 with(fail)
 have S4:=hid (S3.out.var (w2.heap.size) [.bool aS,a0b aT aU aV] 29 (by simp));clear S3;refine aj (λw3 hW=>?_);rw[<-hW]at S4;clear hW;obtain⟨cZ,dh,dW,dX⟩:=S4.out.b.t.t.c4;obtain⟨bP,bQ⟩:=S4.out.b.c2;go_wp2_with fail;clear cZ dh dW dX bP bQ;refine(AX S4.out.n.t.rx.num S4.out.n.nb.nx).mono ?_;rintro e w4 ⟨bH,bI,bJ,bK,rfl,hX,hB⟩;rw[HG.out]at hX;have S5:=hid (((S4.out.step hB).cb (hX.cb (HG.out▸Ap S4.out.n.nb.bd (kg d)) (by omega)) rfl));clear S4 hX hB;go_upto_region 3 with(fail)
 have S6:=hid (S5.out.var (w4.heap.size) [.bool bH,a0b bI bJ bK] 29 (by simp));clear S5;refine aj (λw5 hW=>?_);rw[<-hW]at S6;clear hW;obtain⟨bP,bQ⟩:=S6.out.b.t.c2;go_wp2_with fail;clear bP bQ;refine(nJ (s) S6.out.n.t.nb.nx (HS.out)).mono ?_;rintro e w6 ⟨rfl,hB⟩;have S7:=hid ((S6.out.step hB));clear S6 hB;obtain⟨cZ,dh,dW,dX⟩:=S7.out.b.t.t.t.c4;obtain⟨bM,bN⟩:=S7.out.b.c2;go_wp2_with fail;clear cZ dh dW dX bM bN;refine(lu S7.out.n.t.t.rx.num S7.out.n.cb.cx.nx (H0.out) (HR1.out)).mono ?_;rintro e w7 ⟨dL,dM,dN,dO,rfl,hX,hB⟩;rw[Dl.out]at hX;have S8:=hid (((S7.out.step hB).cb (hX.cb (UI.out) (by omega)) rfl));clear S7 hX hB;obtain⟨cZ,dh,dW,dX⟩:=S8.out.b.t.t.t.c4;obtain⟨vg,vk,vo,vv⟩:=S8.out.b.t.t.t.f4;go_upto_region 6 with(fail)
 clear cZ dh dW dX vg vk vo vv;have S9:Hid (Sx w _ [⟨(w4.heap.size),[.bool bH,a0b bI bJ bK]⟩,⟨(w2.heap.size),[.bool aS,a0b aT aU aV]⟩,⟨(w.heap.size+1),[.bool false,a0b none 0 0,.bool false,a0b none 0 0]⟩,⟨(w.heap.size),[.bool dL,a0b dM dN dO,.bool k,a0b bo l cb]⟩] _):=hid (Sx.set [⟨(w4.heap.size),[.bool bH,a0b bI bJ bK]⟩,⟨(w2.heap.size),[.bool aS,a0b aT aU aV]⟩,⟨(w.heap.size+1),[.bool false,a0b none 0 0,.bool false,a0b none 0 0]⟩] [] (Sx.set [⟨(w4.heap.size),[.bool bH,a0b bI bJ bK]⟩,⟨(w2.heap.size),[.bool aS,a0b aT aU aV]⟩,⟨(w.heap.size+1),[.bool false,a0b none 0 0,.bool false,a0b none 0 0]⟩] [] S8.out 0 (.bool dL)) 1 (a0b dM dN dO));clear S8;refine aj (λw8 hW=>?_);rw[<-hW]at S9;clear hW;obtain⟨bP,bQ⟩:=S9.out.b.t.c2;obtain⟨bM,bN⟩:=S9.out.b.c2;go_wp2_with fail;clear bP bQ bM bN;refine(lu S9.out.n.t.t.nb.nx S9.out.n.t.cb.cx.nx (H0.out) (HR2.out)).mono ?_;rintro e w9 ⟨fF,fG,fH,fI,rfl,hX,hB⟩;rw[HE2.out]at hX;have kV:=hid (((S9.out.step hB).cb (hX.cb (BZ.out) (by omega)) rfl));clear S9 hX hB;obtain⟨cZ,dh,dW,dX⟩:=kV.out.b.t.t.t.c4;obtain⟨vg,vk,vo,vv⟩:=kV.out.b.t.t.t.f4;go_upto_region 7 with(fail)
 clear cZ dh dW dX vg vk vo vv;have qa:Hid (Sx w _ [⟨(w4.heap.size),[.bool bH,a0b bI bJ bK]⟩,⟨(w2.heap.size),[.bool aS,a0b aT aU aV]⟩,⟨(w.heap.size+1),[.bool false,a0b none 0 0,.bool false,a0b none 0 0]⟩,⟨(w.heap.size),[.bool dL,a0b dM dN dO,.bool fF,a0b fG fH fI]⟩] _):=hid (Sx.set [⟨(w4.heap.size),[.bool bH,a0b bI bJ bK]⟩,⟨(w2.heap.size),[.bool aS,a0b aT aU aV]⟩,⟨(w.heap.size+1),[.bool false,a0b none 0 0,.bool false,a0b none 0 0]⟩] [] (Sx.set [⟨(w4.heap.size),[.bool bH,a0b bI bJ bK]⟩,⟨(w2.heap.size),[.bool aS,a0b aT aU aV]⟩,⟨(w.heap.size+1),[.bool false,a0b none 0 0,.bool false,a0b none 0 0]⟩] [] kV.out 2 (.bool fF)) 3 (a0b fG fH fI));clear kV;refine aj (λXM hW=>?_);rw[<-hW]at qa;clear hW;obtain⟨cZ,dh,dW,dX⟩:=qa.out.b.t.t.t.c4;obtain⟨bW,bX,dB,dD⟩:=qa.out.b.t.t.c4;obtain⟨jg,jh,jK,jL⟩:=qa.out.b.t.t.f4;go_wp2_with fail;have rF:Hid (Sx w _ [⟨(w4.heap.size),[.bool bH,a0b bI bJ bK]⟩,⟨(w2.heap.size),[.bool aS,a0b aT aU aV]⟩,⟨(w.heap.size+1),[.bool dL,a0b dM dN dO,.bool fF,a0b fG fH fI]⟩,⟨(w.heap.size),[.bool dL,a0b dM dN dO,.bool fF,a0b fG fH fI]⟩] _):=hid (Sx.set [⟨(w4.heap.size),[.bool bH,a0b bI bJ bK]⟩,⟨(w2.heap.size),[.bool aS,a0b aT aU aV]⟩] [⟨(w.heap.size),[.bool dL,a0b dM dN dO,.bool fF,a0b fG fH fI]⟩] (Sx.set [⟨(w4.heap.size),[.bool bH,a0b bI bJ bK]⟩,⟨(w2.heap.size),[.bool aS,a0b aT aU aV]⟩] [⟨(w.heap.size),[.bool dL,a0b dM dN dO,.bool fF,a0b fG fH fI]⟩] (Sx.set [⟨(w4.heap.size),[.bool bH,a0b bI bJ bK]⟩,⟨(w2.heap.size),[.bool aS,a0b aT aU aV]⟩] [⟨(w.heap.size),[.bool dL,a0b dM dN dO,.bool fF,a0b fG fH fI]⟩] (Sx.set [⟨(w4.heap.size),[.bool bH,a0b bI bJ bK]⟩,⟨(w2.heap.size),[.bool aS,a0b aT aU aV]⟩] [⟨(w.heap.size),[.bool dL,a0b dM dN dO,.bool fF,a0b fG fH fI]⟩] qa.out 0 (.bool dL)) 1 (a0b dM dN dO)) 2 (.bool fF)) 3 (a0b fG fH fI));clear qa;refine bodyPost_ret (v:= .agg #[.bool dL,a0b dM dN dO,.bool fF,a0b fG fH fI]) (by simp[results,Tryz.results76,go_sem,bW,bX,dB,dD]) rfl ?_;exact⟨_,_,_,_,_,_,_,_,rfl,⟨rF.out.n.t.cb.cx,rF.out.n.cb.cx,rF.out.n.t.cb.bd,rF.out.n.cb.bd⟩,rF.out.h⟩
theorem Kr [Ol] {m:Bool} {ao:Option Addr} {n cap:Nat} {k:Bool} {bo:Option Addr} {l cb:Nat} {x d:Int} {q:Rat} {j:Nat} {w:World} (hx:Rx w m ao n cap k bo l cb x d q j) (h1:1<=j) (h2:j<=100000) (hp:dn d<0):
  Calls Tryz.prog 76 #[.agg #[.bool m,a0b ao n cap,.bool k,a0b bo l cb]] w (EC w q j):=by
 have hv:=hx.val;have hbn:Bd q.num j:=by rw[<-hv,kW];exact xI hx.bn (kg d)
 have hbd:Bd (q.den:Int) j:=by rw[<-hv,kW];exact xJ (jc hx.bd h1) (kg d)
 have hg0:((a0l x (dn d):Nat):Int)≠0:=by have:=a0i x (kg d);omega
 obtain⟨g,hg⟩:∃g,((a0l x (dn d):Nat):Int)=g:=⟨_,rfl⟩;have hgx:g ∣ x:=by rw[<-hg];exact a0f _ _
 have hgd:g ∣ dn d:=by rw[<-hg];exact a0h _ _
 rw[hg]at hg0;have HG:=hid hg;have UI:=hid hbn;have BZ:=hid hbd;obtain⟨s,hs⟩:∃s,(dn d).sign=s:=⟨_,rfl⟩;have e1:decide (s<0)=true:=by rw[<-hs];simp;omega
 have H0:Hid (-g≠0):=by show-g≠0;omega
 have HR1:Hid (x.tmod (-g)=0):=by rw[Hid,a0o];exact a0n hgx
 have HR2:Hid ((dn d).tmod (-g)=0):=by rw[Hid,a0o];exact a0n hgd
 have Dl:Hid (x.tdiv (-g)=q.num):=by rw[Hid,<-hv,kW,Dm hp,<-hg,a0p,a0q,a0r,a0s]
 have HE2:Hid ((dn d).tdiv (-g)=(q.den:Int)):=by rw[Hid,<-hv,kW,Dn hp,<-hg,a0p,a0q,a0r,a0s]
 have HS:=hid hs;clear hs hv hbn hbd hg0 hg hgx hgd hp;go_enter Tryz.func76,Tryz.ntmps76;have S0:=hid (Sx.start (w:=w) (N:=[.rx m ao n cap k bo l cb x d q j]) ⟨hx,trivial⟩);clear hx;have S1:=hid (S0.out.var (w.heap.size) [.bool m,a0b ao n cap,.bool k,a0b bo l cb] 31 (by simp));clear S0;have S2:=hid (S1.out.var (w.heap.size+1) [.bool false,a0b none 0 0,.bool false,a0b none 0 0] 31 (by simp));clear S1;go_upto_region 1 with(fail)
 refine aj (λw1 hW=>?_);rw[<-hW]at S2;clear hW;obtain⟨cZ,dh,dW,dX⟩:=S2.out.b.t.c4;go_wp2_with fail;clear cZ dh dW dX;refine(gq S2.out.n.rx).mono ?_;rintro e w2 ⟨aS,aT,aU,aV,rfl,hX,hB⟩;have S3:=hid (((S2.out.step hB).nb ⟨hX,jc S2.out.n.rx.bd (by omega)⟩ rfl));clear S2 hX hB;go_upto_region 2 with(fail)
 have S4:=hid (S3.out.var (w2.heap.size) [.bool aS,a0b aT aU aV] 29 (by simp));clear S3;refine aj (λw3 hW=>?_);rw[<-hW]at S4;clear hW;obtain⟨cZ,dh,dW,dX⟩:=S4.out.b.t.t.c4;obtain⟨bP,bQ⟩:=S4.out.b.c2;go_wp2_with fail;clear cZ dh dW dX bP bQ;refine(AX S4.out.n.t.rx.num S4.out.n.nb.nx).mono ?_;rintro e w4 ⟨bH,bI,bJ,bK,rfl,hX,hB⟩;rw[HG.out]at hX;have S5:=hid (((S4.out.step hB).cb (hX.cb (HG.out▸Ap S4.out.n.nb.bd (kg d)) (by omega)) rfl));clear S4 hX hB;go_upto_region 3 with(fail)
 have S6:=hid (S5.out.var (w4.heap.size) [.bool bH,a0b bI bJ bK] 29 (by simp));clear S5;refine aj (λw5 hW=>?_);rw[<-hW]at S6;clear hW;obtain⟨bP,bQ⟩:=S6.out.b.t.c2;go_wp2_with fail;clear bP bQ;refine(nJ (s) S6.out.n.t.nb.nx (HS.out)).mono ?_;rintro e w6 ⟨rfl,hB⟩;have S7:=hid ((S6.out.step hB));clear S6 hB;obtain⟨bM,bN⟩:=S7.out.b.c2;go_wp2_with fail;clear bM bN;refine(Gx S7.out.n.cb.cx.nx).mono ?_;rintro e w7 ⟨dL,dM,dN,dO,rfl,hX,hB⟩;have S8:=hid (((S7.out.step hB).cb (hX.cb (S7.out.n.cb.bd.neg) (by omega)) rfl));clear S7 hX hB;obtain⟨bM,bN⟩:=S8.out.b.c2;obtain⟨eP,eT⟩:=S8.out.b.f2;go_upto_region 5 with(fail)
 clear bM bN eP eT;have S9:Hid (Sx w _ [⟨(w4.heap.size),[.bool dL,a0b dM dN dO]⟩,⟨(w2.heap.size),[.bool aS,a0b aT aU aV]⟩,⟨(w.heap.size+1),[.bool false,a0b none 0 0,.bool false,a0b none 0 0]⟩,⟨(w.heap.size),[.bool m,a0b ao n cap,.bool k,a0b bo l cb]⟩] _):=hid (Sx.set [] [⟨(w2.heap.size),[.bool aS,a0b aT aU aV]⟩,⟨(w.heap.size+1),[.bool false,a0b none 0 0,.bool false,a0b none 0 0]⟩,⟨(w.heap.size),[.bool m,a0b ao n cap,.bool k,a0b bo l cb]⟩] (Sx.set [] [⟨(w2.heap.size),[.bool aS,a0b aT aU aV]⟩,⟨(w.heap.size+1),[.bool false,a0b none 0 0,.bool false,a0b none 0 0]⟩,⟨(w.heap.size),[.bool m,a0b ao n cap,.bool k,a0b bo l cb]⟩] S8.out 0 (.bool dL)) 1 (a0b dM dN dO));clear S8;refine aj (λw8 hW=>?_);rw[<-hW]at S9;clear hW;obtain⟨cZ,dh,dW,dX⟩:=S9.out.b.t.t.t.c4;obtain⟨bM,bN⟩:=S9.out.b.c2;go_wp2_with fail;clear cZ dh dW dX bM bN;refine(lu S9.out.n.t.t.t.rx.num S9.out.n.cb.cx.nx (H0.out) (HR1.out)).mono ?_;rintro e w9 ⟨fF,fG,fH,fI,rfl,hX,hB⟩;rw[Dl.out]at hX;have kV:=hid (((S9.out.step hB).cb (hX.cb (UI.out) (by omega)) rfl));clear S9 hX hB;obtain⟨cZ,dh,dW,dX⟩:=kV.out.b.t.t.t.c4;obtain⟨vg,vk,vo,vv⟩:=kV.out.b.t.t.t.f4;go_upto_region 6 with(fail)
 clear cZ dh dW dX vg vk vo vv;have qa:Hid (Sx w _ [⟨(w4.heap.size),[.bool dL,a0b dM dN dO]⟩,⟨(w2.heap.size),[.bool aS,a0b aT aU aV]⟩,⟨(w.heap.size+1),[.bool false,a0b none 0 0,.bool false,a0b none 0 0]⟩,⟨(w.heap.size),[.bool fF,a0b fG fH fI,.bool k,a0b bo l cb]⟩] _):=hid (Sx.set [⟨(w4.heap.size),[.bool dL,a0b dM dN dO]⟩,⟨(w2.heap.size),[.bool aS,a0b aT aU aV]⟩,⟨(w.heap.size+1),[.bool false,a0b none 0 0,.bool false,a0b none 0 0]⟩] [] (Sx.set [⟨(w4.heap.size),[.bool dL,a0b dM dN dO]⟩,⟨(w2.heap.size),[.bool aS,a0b aT aU aV]⟩,⟨(w.heap.size+1),[.bool false,a0b none 0 0,.bool false,a0b none 0 0]⟩] [] kV.out 0 (.bool fF)) 1 (a0b fG fH fI));clear kV;refine aj (λXM hW=>?_);rw[<-hW]at qa;clear hW;obtain⟨bP,bQ⟩:=qa.out.b.t.c2;obtain⟨bM,bN⟩:=qa.out.b.c2;go_wp2_with fail;clear bP bQ bM bN;refine(lu qa.out.n.t.t.t.nb.nx qa.out.n.t.cb.cx.nx (H0.out) (HR2.out)).mono ?_;rintro e ZI ⟨kN,kP,kQ,kR,rfl,hX,hB⟩;rw[HE2.out]at hX;have rF:=hid (((qa.out.step hB).cb (hX.cb (BZ.out) (by omega)) rfl));clear qa hX hB;obtain⟨cZ,dh,dW,dX⟩:=rF.out.b.t.t.t.c4;obtain⟨vg,vk,vo,vv⟩:=rF.out.b.t.t.t.f4;go_upto_region 7 with(fail)
 clear cZ dh dW dX vg vk vo vv;have rG:Hid (Sx w _ [⟨(w4.heap.size),[.bool dL,a0b dM dN dO]⟩,⟨(w2.heap.size),[.bool aS,a0b aT aU aV]⟩,⟨(w.heap.size+1),[.bool false,a0b none 0 0,.bool false,a0b none 0 0]⟩,⟨(w.heap.size),[.bool fF,a0b fG fH fI,.bool kN,a0b kP kQ kR]⟩] _):=hid (Sx.set [⟨(w4.heap.size),[.bool dL,a0b dM dN dO]⟩,⟨(w2.heap.size),[.bool aS,a0b aT aU aV]⟩,⟨(w.heap.size+1),[.bool false,a0b none 0 0,.bool false,a0b none 0 0]⟩] [] (Sx.set [⟨(w4.heap.size),[.bool dL,a0b dM dN dO]⟩,⟨(w2.heap.size),[.bool aS,a0b aT aU aV]⟩,⟨(w.heap.size+1),[.bool false,a0b none 0 0,.bool false,a0b none 0 0]⟩] [] rF.out 2 (.bool kN)) 3 (a0b kP kQ kR));clear rF;refine aj (λZJ hW=>?_);rw[<-hW]at rG;clear hW;obtain⟨cZ,dh,dW,dX⟩:=rG.out.b.t.t.t.c4;obtain⟨bW,bX,dB,dD⟩:=rG.out.b.t.t.c4;obtain⟨jg,jh,jK,jL⟩:=rG.out.b.t.t.f4;go_wp2_with fail;have y9:Hid (Sx w _ [⟨(w4.heap.size),[.bool dL,a0b dM dN dO]⟩,⟨(w2.heap.size),[.bool aS,a0b aT aU aV]⟩,⟨(w.heap.size+1),[.bool fF,a0b fG fH fI,.bool kN,a0b kP kQ kR]⟩,⟨(w.heap.size),[.bool fF,a0b fG fH fI,.bool kN,a0b kP kQ kR]⟩] _):=hid (Sx.set [⟨(w4.heap.size),[.bool dL,a0b dM dN dO]⟩,⟨(w2.heap.size),[.bool aS,a0b aT aU aV]⟩] [⟨(w.heap.size),[.bool fF,a0b fG fH fI,.bool kN,a0b kP kQ kR]⟩] (Sx.set [⟨(w4.heap.size),[.bool dL,a0b dM dN dO]⟩,⟨(w2.heap.size),[.bool aS,a0b aT aU aV]⟩] [⟨(w.heap.size),[.bool fF,a0b fG fH fI,.bool kN,a0b kP kQ kR]⟩] (Sx.set [⟨(w4.heap.size),[.bool dL,a0b dM dN dO]⟩,⟨(w2.heap.size),[.bool aS,a0b aT aU aV]⟩] [⟨(w.heap.size),[.bool fF,a0b fG fH fI,.bool kN,a0b kP kQ kR]⟩] (Sx.set [⟨(w4.heap.size),[.bool dL,a0b dM dN dO]⟩,⟨(w2.heap.size),[.bool aS,a0b aT aU aV]⟩] [⟨(w.heap.size),[.bool fF,a0b fG fH fI,.bool kN,a0b kP kQ kR]⟩] rG.out 0 (.bool fF)) 1 (a0b fG fH fI)) 2 (.bool kN)) 3 (a0b kP kQ kR));clear rG;refine bodyPost_ret (v:= .agg #[.bool fF,a0b fG fH fI,.bool kN,a0b kP kQ kR]) (by simp[results,Tryz.results76,go_sem,bW,bX,dB,dD]) rfl ?_;exact⟨_,_,_,_,_,_,_,_,rfl,⟨y9.out.n.t.cb.cx,y9.out.n.cb.cx,y9.out.n.t.cb.bd,y9.out.n.cb.bd⟩,y9.out.h⟩
theorem AY [Ol] {m:Bool} {ao:Option Addr} {n cap:Nat} {k:Bool} {bo:Option Addr} {l cb:Nat} {x d:Int} {q:Rat} {j:Nat} {w:World} (hx:Rx w m ao n cap k bo l cb x d q j) (h1:1<=j) (h2:j<=100000):
  Calls Tryz.prog 76 #[.agg #[.bool m,a0b ao n cap,.bool k,a0b bo l cb]] w (EC w q j):=by
 by_cases h:0<dn d
 ·exact Ko hx h1 h2 h
 ·exact Kr hx h1 h2 (by have:=kg d;omega)
end
/- The contracts of ratio.together and of the function that it answers. -/
section
open Lib (hid)
open Go.RowKit
def YH (w:World) (m:Bool) (ao:Option Addr) (n cap:Nat) (k:Bool) (bo:Option Addr) (l cb:Nat) (m2:Bool) (a2:Option Addr) (n2 c2:Nat) (k2:Bool) (b2:Option Addr) (l2 d2:Nat) (zx zy:Int) (j i:Nat) (e:Ending) (w':World):Prop:=
 ∃p0 p1 p2 p3 u v s t u' v' s' t',e= .returned (.func (.func 128) #[] #[.pointer (some ⟨p0,0,none⟩),.pointer (some ⟨p1,0,none⟩),.pointer (some ⟨p2,0,none⟩),.pointer (some ⟨p3,0,none⟩)])/\
  Cells w' p0 [.bool m,a0b ao n cap,.bool k,a0b bo l cb]/\ Cells w' p1 [.bool u,a0b v s t]/\ Cells w' p2 [.bool m2,a0b a2 n2 c2,.bool k2,a0b b2 l2 d2]/\ Cells w' p3 [.bool u',a0b v' s' t']/\
  Nb w' u v s t zy i/\ Nb w' u' v' s' t' zx j/\ Below w.heap.size w w'
theorem Vk [Ol] {m:Bool} {ao:Option Addr} {n cap:Nat} {k:Bool} {bo:Option Addr} {l cb:Nat} {m2:Bool} {a2:Option Addr} {n2 c2:Nat} {k2:Bool} {b2:Option Addr} {l2 d2:Nat} {x d y c:Int} {q r:Rat} {j i:Nat} {w:World} (hx:Rx w m ao n cap k bo l cb x d q j) (hy:Rx w m2 a2 n2 c2 k2 b2 l2 d2 y c r i) (hj:1<=j) (hi:1<=i):
  Calls Tryz.prog 77 #[.agg #[.bool m,a0b ao n cap,.bool k,a0b bo l cb],.agg #[.bool m2,a0b a2 n2 c2,.bool k2,a0b b2 l2 d2]] w (YH w m ao n cap k bo l cb m2 a2 n2 c2 k2 b2 l2 d2 (dn d) (dn c) j i):=by
 have hmf:∀(fn:Fn) (first cap:Array Value) (w:World),(Instr.makeFunc fn first cap).run Tryz.prog w= .ok (.func fn first cap) w:=λ_ _ _ _=>rfl
 go_enter Tryz.func77,Tryz.ntmps77;have S0:=hid (Sx.start (w:=w) (N:=[.rx m ao n cap k bo l cb x d q j,.rx m2 a2 n2 c2 k2 b2 l2 d2 y c r i]) ⟨hx,hy,trivial⟩);clear hx hy;have S1:=hid (S0.out.var (w.heap.size) [.bool m,a0b ao n cap,.bool k,a0b bo l cb] 31 (by simp));clear S0;have S2:=hid (S1.out.var (w.heap.size+1) [.bool m2,a0b a2 n2 c2,.bool k2,a0b b2 l2 d2] 31 (by simp));clear S1;go_upto_region 1 with(fail)
 refine aj (λw1 hW=>?_);rw[<-hW]at S2;clear hW;go_cut [5,6]from 7 to 11 (λsl0 sl1 w9=>∃(qb5:Nat) (YI:Nat) (bH:Bool) (bI:Option Addr) (bJ:Nat) (bK:Nat) (aS:Bool) (aT:Option Addr) (aU:Nat) (aV:Nat),sl0= .pointer (some ⟨qb5,0,none⟩)/\ sl1= .pointer (some ⟨YI,0,none⟩)/\ Hid (Sx w w9 [⟨YI,[.bool bH,a0b bI bJ bK]⟩,⟨qb5,[.bool aS,a0b aT aU aV]⟩,⟨(w.heap.size+1),[.bool m2,a0b a2 n2 c2,.bool k2,a0b b2 l2 d2]⟩,⟨(w.heap.size),[.bool m,a0b ao n cap,.bool k,a0b bo l cb]⟩] [.nb bH bI bJ bK (dn c) i,.nb aS aT aU aV (dn d) j,.rx m ao n cap k bo l cb x d q j,.rx m2 a2 n2 c2 k2 b2 l2 d2 y c r i]))
 case first=>
  have S3:=hid (S2.out.drew);clear S2;refine wp_region_held_drew (S:=λw'=>(w'.cell? ⟨(w.heap.size),0,none⟩=some (.bool m)/\ w'.cell? ⟨(w.heap.size),1,none⟩=some (a0b ao n cap)/\ w'.cell? ⟨(w.heap.size),2,none⟩=some (.bool k)/\ w'.cell? ⟨(w.heap.size),3,none⟩=some (a0b bo l cb))/\ (w'.cell? ⟨(w.heap.size+1),0,none⟩=some (.bool m2)/\ w'.cell? ⟨(w.heap.size+1),1,none⟩=some (a0b a2 n2 c2)/\ w'.cell? ⟨(w.heap.size+1),2,none⟩=some (.bool k2)/\ w'.cell? ⟨(w.heap.size+1),3,none⟩=some (a0b b2 l2 d2))) (by kernel_rfl) (⟨S3.out.b.t.c4,S3.out.b.c4⟩) (λhH=>?_);refine ai (λw2 hW=>?_);rw[<-hW]at S3 hH;clear hW;refine aQ 0 hH ?_;try simp only[ax]
  refine aQ 2 hH ?_;try simp only[ax]
  refine wpAnyH_ready (rs:=[1,4,5]) (by kernel_rfl) (by simp) (aO rfl (λK hK=>?_) (aO rfl (λK hK=>?_) (aO rfl (λK hK=>?_) (a0a))))
  ·go_simp;refine(gq S3.out.n.rx).mono ?_;rintro e w3 ⟨aS,aT,aU,aV,rfl,hX,hB⟩;have S4:=hid (((S3.out.step hB).nb ⟨hX,jc S3.out.n.rx.bd (by omega)⟩ rfl));clear S3 hX hB;go_wp2_with fail;refine hK.out _ _ ⟨S4.out.b.t.c4,S4.out.b.c4⟩ (λh2=>?_);clear hK K hH;have hH:=h2;clear h2
   try simp only[ax]
   refine wpAnyH_ready (rs:=[3,4,5]) (by kernel_rfl) (by simp) (aO rfl (λK hK=>?_) (aO rfl (λK hK=>?_) (aO rfl (λK hK=>?_) (a0a))))
   ·go_simp;refine(gq S4.out.n.t.t.rx).mono ?_;rintro e w4 ⟨bH,bI,bJ,bK,rfl,hX,hB⟩;have S5:=hid (((S4.out.step hB).nb ⟨hX,jc S4.out.n.t.t.rx.bd (by omega)⟩ rfl));clear S4 hX hB;go_wp2_with fail;refine hK.out _ _ ⟨S5.out.b.t.c4,S5.out.b.c4⟩ (λh2=>?_);clear hK K hH;have hH:=h2;clear h2
    try simp only[ax]
    refine wpAnyH_ready (rs:=[4,5]) (by kernel_rfl) (by simp) (aO rfl (λK hK=>?_) (aO rfl (λK hK=>?_) (a0a)))
    ·go_simp;have S6:=hid (S5.out.var (w4.heap.size) [.bool false,a0b none 0 0] 29 (by simp));clear S5;refine hK.out _ _ ⟨S6.out.b.t.t.c4,S6.out.b.t.c4⟩ (λh2=>?_);clear hK K hH;have hH:=h2;clear h2
     try simp only[ax]
     refine ai (λw5 hW=>?_);rw[<-hW]at S6 hH;clear hW;refine ah 5 rfl (by kernel_rfl) (λK hK=>?_);go_simp;have S7:=hid (S6.out.var (w5.heap.size) [.bool false,a0b none 0 0] 29 (by simp));clear S6;refine hK.out _ _ ⟨S7.out.b.t.t.t.c4,S7.out.b.t.t.c4⟩ (λh2=>?_);clear hK K hH;have hH:=h2;clear h2
     try simp only[ax]
     refine ai (λw6 hW=>?_);rw[<-hW]at S7 hH;clear hW;refine ah 6 rfl (by kernel_rfl) (λK hK=>?_);obtain⟨dF,dG⟩:=S7.out.b.t.c2;obtain⟨gH,gI⟩:=S7.out.b.t.f2;go_simp;clear dF dG gH gI;have S8:Hid (Sx w _ [⟨(w5.heap.size),[.bool false,a0b none 0 0]⟩,⟨(w4.heap.size),[.bool aS,a0b aT aU aV]⟩,⟨(w.heap.size+1),[.bool m2,a0b a2 n2 c2,.bool k2,a0b b2 l2 d2]⟩,⟨(w.heap.size),[.bool m,a0b ao n cap,.bool k,a0b bo l cb]⟩] _):=hid (Sx.set [⟨(w5.heap.size),[.bool false,a0b none 0 0]⟩] [⟨(w.heap.size+1),[.bool m2,a0b a2 n2 c2,.bool k2,a0b b2 l2 d2]⟩,⟨(w.heap.size),[.bool m,a0b ao n cap,.bool k,a0b bo l cb]⟩] (Sx.set [⟨(w5.heap.size),[.bool false,a0b none 0 0]⟩] [⟨(w.heap.size+1),[.bool m2,a0b a2 n2 c2,.bool k2,a0b b2 l2 d2]⟩,⟨(w.heap.size),[.bool m,a0b ao n cap,.bool k,a0b bo l cb]⟩] S7.out 0 (.bool aS)) 1 (a0b aT aU aV));clear S7;refine hK.out _ _ ⟨S8.out.b.t.t.t.c4,S8.out.b.t.t.c4⟩ (λh2=>?_);clear hK K hH;have hH:=h2;clear h2
     try simp only[ax]
     refine ai (λw7 hW=>?_);rw[<-hW]at S8 hH;clear hW;refine ah 7 rfl (by kernel_rfl) (λK hK=>?_);obtain⟨dQ,dR⟩:=S8.out.b.c2;obtain⟨dZ,eu⟩:=S8.out.b.f2;go_simp;clear dQ dR dZ eu;have S9:Hid (Sx w _ [⟨(w5.heap.size),[.bool bH,a0b bI bJ bK]⟩,⟨(w4.heap.size),[.bool aS,a0b aT aU aV]⟩,⟨(w.heap.size+1),[.bool m2,a0b a2 n2 c2,.bool k2,a0b b2 l2 d2]⟩,⟨(w.heap.size),[.bool m,a0b ao n cap,.bool k,a0b bo l cb]⟩] _):=hid (Sx.set [] [⟨(w4.heap.size),[.bool aS,a0b aT aU aV]⟩,⟨(w.heap.size+1),[.bool m2,a0b a2 n2 c2,.bool k2,a0b b2 l2 d2]⟩,⟨(w.heap.size),[.bool m,a0b ao n cap,.bool k,a0b bo l cb]⟩] (Sx.set [] [⟨(w4.heap.size),[.bool aS,a0b aT aU aV]⟩,⟨(w.heap.size+1),[.bool m2,a0b a2 n2 c2,.bool k2,a0b b2 l2 d2]⟩,⟨(w.heap.size),[.bool m,a0b ao n cap,.bool k,a0b bo l cb]⟩] S8.out 0 (.bool bH)) 1 (a0b bI bJ bK));clear S8;refine hK.out _ _ ⟨S9.out.b.t.t.t.c4,S9.out.b.t.t.c4⟩ (λh2=>?_);clear hK K hH;have hH:=h2;clear h2
     try simp only[ax]
     refine ai (λw8 hW=>?_);rw[<-hW]at S9 hH;clear hW;refine wpAnyH_done (by kernel_rfl) ?_ _
     clear hH;go_wp2_with fail;go_meet
     case rel=>exact⟨_,_,_,_,_,_,_,_,_,_,rfl,rfl,S9.out⟩
    ·go_simp;have S6:=hid (S5.out.var (w4.heap.size) [.bool false,a0b none 0 0] 29 (by simp));clear S5;refine hK.out _ _ ⟨S6.out.b.t.t.c4,S6.out.b.t.c4⟩ (λh2=>?_);clear hK K hH;have hH:=h2;clear h2
     try simp only[ax]
     refine ai (λw5 hW=>?_);rw[<-hW]at S6 hH;clear hW;refine ah 4 rfl (by kernel_rfl) (λK hK=>?_);go_simp;have S7:=hid (S6.out.var (w5.heap.size) [.bool false,a0b none 0 0] 29 (by simp));clear S6;refine hK.out _ _ ⟨S7.out.b.t.t.t.c4,S7.out.b.t.t.c4⟩ (λh2=>?_);clear hK K hH;have hH:=h2;clear h2
     try simp only[ax]
     refine ai (λw6 hW=>?_);rw[<-hW]at S7 hH;clear hW;refine ah 6 rfl (by kernel_rfl) (λK hK=>?_);obtain⟨dF,dG⟩:=S7.out.b.c2;obtain⟨gH,gI⟩:=S7.out.b.f2;go_simp;clear dF dG gH gI;have S8:Hid (Sx w _ [⟨(w5.heap.size),[.bool aS,a0b aT aU aV]⟩,⟨(w4.heap.size),[.bool false,a0b none 0 0]⟩,⟨(w.heap.size+1),[.bool m2,a0b a2 n2 c2,.bool k2,a0b b2 l2 d2]⟩,⟨(w.heap.size),[.bool m,a0b ao n cap,.bool k,a0b bo l cb]⟩] _):=hid (Sx.set [] [⟨(w4.heap.size),[.bool false,a0b none 0 0]⟩,⟨(w.heap.size+1),[.bool m2,a0b a2 n2 c2,.bool k2,a0b b2 l2 d2]⟩,⟨(w.heap.size),[.bool m,a0b ao n cap,.bool k,a0b bo l cb]⟩] (Sx.set [] [⟨(w4.heap.size),[.bool false,a0b none 0 0]⟩,⟨(w.heap.size+1),[.bool m2,a0b a2 n2 c2,.bool k2,a0b b2 l2 d2]⟩,⟨(w.heap.size),[.bool m,a0b ao n cap,.bool k,a0b bo l cb]⟩] S7.out 0 (.bool aS)) 1 (a0b aT aU aV));clear S7;refine hK.out _ _ ⟨S8.out.b.t.t.t.c4,S8.out.b.t.t.c4⟩ (λh2=>?_);clear hK K hH;have hH:=h2;clear h2
     try simp only[ax]
     refine ai (λw7 hW=>?_);rw[<-hW]at S8 hH;clear hW;refine ah 7 rfl (by kernel_rfl) (λK hK=>?_);obtain⟨dQ,dR⟩:=S8.out.b.t.c2;obtain⟨dZ,eu⟩:=S8.out.b.t.f2;go_simp;clear dQ dR dZ eu;have S9:Hid (Sx w _ [⟨(w5.heap.size),[.bool aS,a0b aT aU aV]⟩,⟨(w4.heap.size),[.bool bH,a0b bI bJ bK]⟩,⟨(w.heap.size+1),[.bool m2,a0b a2 n2 c2,.bool k2,a0b b2 l2 d2]⟩,⟨(w.heap.size),[.bool m,a0b ao n cap,.bool k,a0b bo l cb]⟩] _):=hid (Sx.set [⟨(w5.heap.size),[.bool aS,a0b aT aU aV]⟩] [⟨(w.heap.size+1),[.bool m2,a0b a2 n2 c2,.bool k2,a0b b2 l2 d2]⟩,⟨(w.heap.size),[.bool m,a0b ao n cap,.bool k,a0b bo l cb]⟩] (Sx.set [⟨(w5.heap.size),[.bool aS,a0b aT aU aV]⟩] [⟨(w.heap.size+1),[.bool m2,a0b a2 n2 c2,.bool k2,a0b b2 l2 d2]⟩,⟨(w.heap.size),[.bool m,a0b ao n cap,.bool k,a0b bo l cb]⟩] S8.out 0 (.bool bH)) 1 (a0b bI bJ bK));clear S8;refine hK.out _ _ ⟨S9.out.b.t.t.t.c4,S9.out.b.t.t.c4⟩ (λh2=>?_);clear hK K hH;have hH:=h2;clear h2
     try simp only[ax]
     refine ai (λw8 hW=>?_);rw[<-hW]at S9 hH;clear hW;refine wpAnyH_done (by kernel_rfl) ?_ _
     clear hH;go_wp2_with fail;go_meet
     case rel=>exact⟨_,_,_,_,_,_,_,_,_,_,rfl,rfl,S9.out.swap⟩
   ·go_simp;have S5:=hid (S4.out.var (w3.heap.size) [.bool false,a0b none 0 0] 29 (by simp));clear S4;refine hK.out _ _ ⟨S5.out.b.t.t.c4,S5.out.b.t.c4⟩ (λh2=>?_);clear hK K hH;have hH:=h2;clear h2
    try simp only[ax]
    refine ai (λw4 hW=>?_);rw[<-hW]at S5 hH;clear hW;refine wpAnyH_ready (rs:=[3,5]) (by kernel_rfl) (by simp) (aO rfl (λK hK=>?_) (aO rfl (λK hK=>?_) (a0a)))
    ·go_simp;refine(gq S5.out.n.t.t.rx).mono ?_;rintro e w5 ⟨bH,bI,bJ,bK,rfl,hX,hB⟩;have S6:=hid (((S5.out.step hB).nb ⟨hX,jc S5.out.n.t.t.rx.bd (by omega)⟩ rfl));clear S5 hX hB;go_wp2_with fail;refine hK.out _ _ ⟨S6.out.b.t.t.c4,S6.out.b.t.c4⟩ (λh2=>?_);clear hK K hH;have hH:=h2;clear h2
     try simp only[ax]
     refine ah 5 rfl (by kernel_rfl) (λK hK=>?_);go_simp;have S7:=hid (S6.out.var (w5.heap.size) [.bool false,a0b none 0 0] 29 (by simp));clear S6;refine hK.out _ _ ⟨S7.out.b.t.t.t.c4,S7.out.b.t.t.c4⟩ (λh2=>?_);clear hK K hH;have hH:=h2;clear h2
     try simp only[ax]
     refine ai (λw6 hW=>?_);rw[<-hW]at S7 hH;clear hW;refine ah 6 rfl (by kernel_rfl) (λK hK=>?_);obtain⟨dF,dG⟩:=S7.out.b.t.c2;obtain⟨gH,gI⟩:=S7.out.b.t.f2;go_simp;clear dF dG gH gI;have S8:Hid (Sx w _ [⟨(w5.heap.size),[.bool false,a0b none 0 0]⟩,⟨(w3.heap.size),[.bool aS,a0b aT aU aV]⟩,⟨(w.heap.size+1),[.bool m2,a0b a2 n2 c2,.bool k2,a0b b2 l2 d2]⟩,⟨(w.heap.size),[.bool m,a0b ao n cap,.bool k,a0b bo l cb]⟩] _):=hid (Sx.set [⟨(w5.heap.size),[.bool false,a0b none 0 0]⟩] [⟨(w.heap.size+1),[.bool m2,a0b a2 n2 c2,.bool k2,a0b b2 l2 d2]⟩,⟨(w.heap.size),[.bool m,a0b ao n cap,.bool k,a0b bo l cb]⟩] (Sx.set [⟨(w5.heap.size),[.bool false,a0b none 0 0]⟩] [⟨(w.heap.size+1),[.bool m2,a0b a2 n2 c2,.bool k2,a0b b2 l2 d2]⟩,⟨(w.heap.size),[.bool m,a0b ao n cap,.bool k,a0b bo l cb]⟩] S7.out 0 (.bool aS)) 1 (a0b aT aU aV));clear S7;refine hK.out _ _ ⟨S8.out.b.t.t.t.c4,S8.out.b.t.t.c4⟩ (λh2=>?_);clear hK K hH;have hH:=h2;clear h2
     try simp only[ax]
     refine ai (λw7 hW=>?_);rw[<-hW]at S8 hH;clear hW;refine ah 7 rfl (by kernel_rfl) (λK hK=>?_);obtain⟨dQ,dR⟩:=S8.out.b.c2;obtain⟨dZ,eu⟩:=S8.out.b.f2;go_simp;clear dQ dR dZ eu;have S9:Hid (Sx w _ [⟨(w5.heap.size),[.bool bH,a0b bI bJ bK]⟩,⟨(w3.heap.size),[.bool aS,a0b aT aU aV]⟩,⟨(w.heap.size+1),[.bool m2,a0b a2 n2 c2,.bool k2,a0b b2 l2 d2]⟩,⟨(w.heap.size),[.bool m,a0b ao n cap,.bool k,a0b bo l cb]⟩] _):=hid (Sx.set [] [⟨(w3.heap.size),[.bool aS,a0b aT aU aV]⟩,⟨(w.heap.size+1),[.bool m2,a0b a2 n2 c2,.bool k2,a0b b2 l2 d2]⟩,⟨(w.heap.size),[.bool m,a0b ao n cap,.bool k,a0b bo l cb]⟩] (Sx.set [] [⟨(w3.heap.size),[.bool aS,a0b aT aU aV]⟩,⟨(w.heap.size+1),[.bool m2,a0b a2 n2 c2,.bool k2,a0b b2 l2 d2]⟩,⟨(w.heap.size),[.bool m,a0b ao n cap,.bool k,a0b bo l cb]⟩] S8.out 0 (.bool bH)) 1 (a0b bI bJ bK));clear S8;refine hK.out _ _ ⟨S9.out.b.t.t.t.c4,S9.out.b.t.t.c4⟩ (λh2=>?_);clear hK K hH;have hH:=h2;clear h2
     try simp only[ax]
     refine ai (λw8 hW=>?_);rw[<-hW]at S9 hH;clear hW;refine wpAnyH_done (by kernel_rfl) ?_ _
     clear hH;go_wp2_with fail;go_meet
     case rel=>exact⟨_,_,_,_,_,_,_,_,_,_,rfl,rfl,S9.out⟩
    ·go_simp;have S6:=hid (S5.out.var (w4.heap.size) [.bool false,a0b none 0 0] 29 (by simp));clear S5;refine hK.out _ _ ⟨S6.out.b.t.t.t.c4,S6.out.b.t.t.c4⟩ (λh2=>?_);clear hK K hH;have hH:=h2;clear h2
     try simp only[ax]
     refine ai (λw5 hW=>?_);rw[<-hW]at S6 hH;clear hW;refine ah 3 rfl (by kernel_rfl) (λK hK=>?_);go_simp;refine(gq S6.out.n.t.t.rx).mono ?_;rintro e w6 ⟨bH,bI,bJ,bK,rfl,hX,hB⟩;have S7:=hid (((S6.out.step hB).nb ⟨hX,jc S6.out.n.t.t.rx.bd (by omega)⟩ rfl));clear S6 hX hB;go_wp2_with fail;refine hK.out _ _ ⟨S7.out.b.t.t.t.c4,S7.out.b.t.t.c4⟩ (λh2=>?_);clear hK K hH;have hH:=h2;clear h2
     try simp only[ax]
     refine ah 6 rfl (by kernel_rfl) (λK hK=>?_);obtain⟨dF,dG⟩:=S7.out.b.t.c2;obtain⟨gH,gI⟩:=S7.out.b.t.f2;go_simp;clear dF dG gH gI;have S8:Hid (Sx w _ [⟨(w4.heap.size),[.bool false,a0b none 0 0]⟩,⟨(w3.heap.size),[.bool aS,a0b aT aU aV]⟩,⟨(w.heap.size+1),[.bool m2,a0b a2 n2 c2,.bool k2,a0b b2 l2 d2]⟩,⟨(w.heap.size),[.bool m,a0b ao n cap,.bool k,a0b bo l cb]⟩] _):=hid (Sx.set [⟨(w4.heap.size),[.bool false,a0b none 0 0]⟩] [⟨(w.heap.size+1),[.bool m2,a0b a2 n2 c2,.bool k2,a0b b2 l2 d2]⟩,⟨(w.heap.size),[.bool m,a0b ao n cap,.bool k,a0b bo l cb]⟩] (Sx.set [⟨(w4.heap.size),[.bool false,a0b none 0 0]⟩] [⟨(w.heap.size+1),[.bool m2,a0b a2 n2 c2,.bool k2,a0b b2 l2 d2]⟩,⟨(w.heap.size),[.bool m,a0b ao n cap,.bool k,a0b bo l cb]⟩] S7.out 0 (.bool aS)) 1 (a0b aT aU aV));clear S7;refine hK.out _ _ ⟨S8.out.b.t.t.t.c4,S8.out.b.t.t.c4⟩ (λh2=>?_);clear hK K hH;have hH:=h2;clear h2
     try simp only[ax]
     refine ai (λw7 hW=>?_);rw[<-hW]at S8 hH;clear hW;refine ah 7 rfl (by kernel_rfl) (λK hK=>?_);obtain⟨dQ,dR⟩:=S8.out.b.c2;obtain⟨dZ,eu⟩:=S8.out.b.f2;go_simp;clear dQ dR dZ eu;have S9:Hid (Sx w _ [⟨(w4.heap.size),[.bool bH,a0b bI bJ bK]⟩,⟨(w3.heap.size),[.bool aS,a0b aT aU aV]⟩,⟨(w.heap.size+1),[.bool m2,a0b a2 n2 c2,.bool k2,a0b b2 l2 d2]⟩,⟨(w.heap.size),[.bool m,a0b ao n cap,.bool k,a0b bo l cb]⟩] _):=hid (Sx.set [] [⟨(w3.heap.size),[.bool aS,a0b aT aU aV]⟩,⟨(w.heap.size+1),[.bool m2,a0b a2 n2 c2,.bool k2,a0b b2 l2 d2]⟩,⟨(w.heap.size),[.bool m,a0b ao n cap,.bool k,a0b bo l cb]⟩] (Sx.set [] [⟨(w3.heap.size),[.bool aS,a0b aT aU aV]⟩,⟨(w.heap.size+1),[.bool m2,a0b a2 n2 c2,.bool k2,a0b b2 l2 d2]⟩,⟨(w.heap.size),[.bool m,a0b ao n cap,.bool k,a0b bo l cb]⟩] S8.out 0 (.bool bH)) 1 (a0b bI bJ bK));clear S8;refine hK.out _ _ ⟨S9.out.b.t.t.t.c4,S9.out.b.t.t.c4⟩ (λh2=>?_);clear hK K hH;have hH:=h2;clear h2
     try simp only[ax]
     refine ai (λw8 hW=>?_);rw[<-hW]at S9 hH;clear hW;refine wpAnyH_done (by kernel_rfl) ?_ _
     clear hH;go_wp2_with fail;go_meet
     case rel=>exact⟨_,_,_,_,_,_,_,_,_,_,rfl,rfl,S9.out⟩
   ·go_simp;have S5:=hid (S4.out.var (w3.heap.size) [.bool false,a0b none 0 0] 29 (by simp));clear S4;refine hK.out _ _ ⟨S5.out.b.t.t.c4,S5.out.b.t.c4⟩ (λh2=>?_);clear hK K hH;have hH:=h2;clear h2
    try simp only[ax]
    refine ai (λw4 hW=>?_);rw[<-hW]at S5 hH;clear hW;refine wpAnyH_ready (rs:=[3,4]) (by kernel_rfl) (by simp) (aO rfl (λK hK=>?_) (aO rfl (λK hK=>?_) (a0a)))
    ·go_simp;refine(gq S5.out.n.t.t.rx).mono ?_;rintro e w5 ⟨bH,bI,bJ,bK,rfl,hX,hB⟩;have S6:=hid (((S5.out.step hB).nb ⟨hX,jc S5.out.n.t.t.rx.bd (by omega)⟩ rfl));clear S5 hX hB;go_wp2_with fail;refine hK.out _ _ ⟨S6.out.b.t.t.c4,S6.out.b.t.c4⟩ (λh2=>?_);clear hK K hH;have hH:=h2;clear h2
     try simp only[ax]
     refine ah 4 rfl (by kernel_rfl) (λK hK=>?_);go_simp;have S7:=hid (S6.out.var (w5.heap.size) [.bool false,a0b none 0 0] 29 (by simp));clear S6;refine hK.out _ _ ⟨S7.out.b.t.t.t.c4,S7.out.b.t.t.c4⟩ (λh2=>?_);clear hK K hH;have hH:=h2;clear h2
     try simp only[ax]
     refine ai (λw6 hW=>?_);rw[<-hW]at S7 hH;clear hW;refine ah 6 rfl (by kernel_rfl) (λK hK=>?_);obtain⟨dF,dG⟩:=S7.out.b.c2;obtain⟨gH,gI⟩:=S7.out.b.f2;go_simp;clear dF dG gH gI;have S8:Hid (Sx w _ [⟨(w5.heap.size),[.bool aS,a0b aT aU aV]⟩,⟨(w3.heap.size),[.bool false,a0b none 0 0]⟩,⟨(w.heap.size+1),[.bool m2,a0b a2 n2 c2,.bool k2,a0b b2 l2 d2]⟩,⟨(w.heap.size),[.bool m,a0b ao n cap,.bool k,a0b bo l cb]⟩] _):=hid (Sx.set [] [⟨(w3.heap.size),[.bool false,a0b none 0 0]⟩,⟨(w.heap.size+1),[.bool m2,a0b a2 n2 c2,.bool k2,a0b b2 l2 d2]⟩,⟨(w.heap.size),[.bool m,a0b ao n cap,.bool k,a0b bo l cb]⟩] (Sx.set [] [⟨(w3.heap.size),[.bool false,a0b none 0 0]⟩,⟨(w.heap.size+1),[.bool m2,a0b a2 n2 c2,.bool k2,a0b b2 l2 d2]⟩,⟨(w.heap.size),[.bool m,a0b ao n cap,.bool k,a0b bo l cb]⟩] S7.out 0 (.bool aS)) 1 (a0b aT aU aV));clear S7;refine hK.out _ _ ⟨S8.out.b.t.t.t.c4,S8.out.b.t.t.c4⟩ (λh2=>?_);clear hK K hH;have hH:=h2;clear h2
     try simp only[ax]
     refine ai (λw7 hW=>?_);rw[<-hW]at S8 hH;clear hW;refine ah 7 rfl (by kernel_rfl) (λK hK=>?_);obtain⟨dQ,dR⟩:=S8.out.b.t.c2;obtain⟨dZ,eu⟩:=S8.out.b.t.f2;go_simp;clear dQ dR dZ eu;have S9:Hid (Sx w _ [⟨(w5.heap.size),[.bool aS,a0b aT aU aV]⟩,⟨(w3.heap.size),[.bool bH,a0b bI bJ bK]⟩,⟨(w.heap.size+1),[.bool m2,a0b a2 n2 c2,.bool k2,a0b b2 l2 d2]⟩,⟨(w.heap.size),[.bool m,a0b ao n cap,.bool k,a0b bo l cb]⟩] _):=hid (Sx.set [⟨(w5.heap.size),[.bool aS,a0b aT aU aV]⟩] [⟨(w.heap.size+1),[.bool m2,a0b a2 n2 c2,.bool k2,a0b b2 l2 d2]⟩,⟨(w.heap.size),[.bool m,a0b ao n cap,.bool k,a0b bo l cb]⟩] (Sx.set [⟨(w5.heap.size),[.bool aS,a0b aT aU aV]⟩] [⟨(w.heap.size+1),[.bool m2,a0b a2 n2 c2,.bool k2,a0b b2 l2 d2]⟩,⟨(w.heap.size),[.bool m,a0b ao n cap,.bool k,a0b bo l cb]⟩] S8.out 0 (.bool bH)) 1 (a0b bI bJ bK));clear S8;refine hK.out _ _ ⟨S9.out.b.t.t.t.c4,S9.out.b.t.t.c4⟩ (λh2=>?_);clear hK K hH;have hH:=h2;clear h2
     try simp only[ax]
     refine ai (λw8 hW=>?_);rw[<-hW]at S9 hH;clear hW;refine wpAnyH_done (by kernel_rfl) ?_ _
     clear hH;go_wp2_with fail;go_meet
     case rel=>exact⟨_,_,_,_,_,_,_,_,_,_,rfl,rfl,S9.out.swap⟩
    ·go_simp;have S6:=hid (S5.out.var (w4.heap.size) [.bool false,a0b none 0 0] 29 (by simp));clear S5;refine hK.out _ _ ⟨S6.out.b.t.t.t.c4,S6.out.b.t.t.c4⟩ (λh2=>?_);clear hK K hH;have hH:=h2;clear h2
     try simp only[ax]
     refine ai (λw5 hW=>?_);rw[<-hW]at S6 hH;clear hW;refine ah 3 rfl (by kernel_rfl) (λK hK=>?_);go_simp;refine(gq S6.out.n.t.t.rx).mono ?_;rintro e w6 ⟨bH,bI,bJ,bK,rfl,hX,hB⟩;have S7:=hid (((S6.out.step hB).nb ⟨hX,jc S6.out.n.t.t.rx.bd (by omega)⟩ rfl));clear S6 hX hB;go_wp2_with fail;refine hK.out _ _ ⟨S7.out.b.t.t.t.c4,S7.out.b.t.t.c4⟩ (λh2=>?_);clear hK K hH;have hH:=h2;clear h2
     try simp only[ax]
     refine ah 6 rfl (by kernel_rfl) (λK hK=>?_);obtain⟨dF,dG⟩:=S7.out.b.c2;obtain⟨gH,gI⟩:=S7.out.b.f2;go_simp;clear dF dG gH gI;have S8:Hid (Sx w _ [⟨(w4.heap.size),[.bool aS,a0b aT aU aV]⟩,⟨(w3.heap.size),[.bool false,a0b none 0 0]⟩,⟨(w.heap.size+1),[.bool m2,a0b a2 n2 c2,.bool k2,a0b b2 l2 d2]⟩,⟨(w.heap.size),[.bool m,a0b ao n cap,.bool k,a0b bo l cb]⟩] _):=hid (Sx.set [] [⟨(w3.heap.size),[.bool false,a0b none 0 0]⟩,⟨(w.heap.size+1),[.bool m2,a0b a2 n2 c2,.bool k2,a0b b2 l2 d2]⟩,⟨(w.heap.size),[.bool m,a0b ao n cap,.bool k,a0b bo l cb]⟩] (Sx.set [] [⟨(w3.heap.size),[.bool false,a0b none 0 0]⟩,⟨(w.heap.size+1),[.bool m2,a0b a2 n2 c2,.bool k2,a0b b2 l2 d2]⟩,⟨(w.heap.size),[.bool m,a0b ao n cap,.bool k,a0b bo l cb]⟩] S7.out 0 (.bool aS)) 1 (a0b aT aU aV));clear S7;refine hK.out _ _ ⟨S8.out.b.t.t.t.c4,S8.out.b.t.t.c4⟩ (λh2=>?_);clear hK K hH;have hH:=h2;clear h2
     try simp only[ax]
     refine ai (λw7 hW=>?_);rw[<-hW]at S8 hH;clear hW;refine ah 7 rfl (by kernel_rfl) (λK hK=>?_);obtain⟨dQ,dR⟩:=S8.out.b.t.c2;obtain⟨dZ,eu⟩:=S8.out.b.t.f2;go_simp;clear dQ dR dZ eu;have S9:Hid (Sx w _ [⟨(w4.heap.size),[.bool aS,a0b aT aU aV]⟩,⟨(w3.heap.size),[.bool bH,a0b bI bJ bK]⟩,⟨(w.heap.size+1),[.bool m2,a0b a2 n2 c2,.bool k2,a0b b2 l2 d2]⟩,⟨(w.heap.size),[.bool m,a0b ao n cap,.bool k,a0b bo l cb]⟩] _):=hid (Sx.set [⟨(w4.heap.size),[.bool aS,a0b aT aU aV]⟩] [⟨(w.heap.size+1),[.bool m2,a0b a2 n2 c2,.bool k2,a0b b2 l2 d2]⟩,⟨(w.heap.size),[.bool m,a0b ao n cap,.bool k,a0b bo l cb]⟩] (Sx.set [⟨(w4.heap.size),[.bool aS,a0b aT aU aV]⟩] [⟨(w.heap.size+1),[.bool m2,a0b a2 n2 c2,.bool k2,a0b b2 l2 d2]⟩,⟨(w.heap.size),[.bool m,a0b ao n cap,.bool k,a0b bo l cb]⟩] S8.out 0 (.bool bH)) 1 (a0b bI bJ bK));clear S8;refine hK.out _ _ ⟨S9.out.b.t.t.t.c4,S9.out.b.t.t.c4⟩ (λh2=>?_);clear hK K hH;have hH:=h2;clear h2
     try simp only[ax]
     refine ai (λw8 hW=>?_);rw[<-hW]at S9 hH;clear hW;refine wpAnyH_done (by kernel_rfl) ?_ _
     clear hH;go_wp2_with fail;go_meet
     case rel=>exact⟨_,_,_,_,_,_,_,_,_,_,rfl,rfl,S9.out.swap⟩
  ·go_simp;have S4:=hid (S3.out.var (w2.heap.size) [.bool false,a0b none 0 0] 29 (by simp));clear S3;refine hK.out _ _ ⟨S4.out.b.t.t.c4,S4.out.b.t.c4⟩ (λh2=>?_);clear hK K hH;have hH:=h2;clear h2
   try simp only[ax]
   refine ai (λw3 hW=>?_);rw[<-hW]at S4 hH;clear hW;refine wpAnyH_ready (rs:=[1,5]) (by kernel_rfl) (by simp) (aO rfl (λK hK=>?_) (aO rfl (λK hK=>?_) (a0a)))
   ·go_simp;refine(gq S4.out.n.rx).mono ?_;rintro e w4 ⟨aS,aT,aU,aV,rfl,hX,hB⟩;have S5:=hid (((S4.out.step hB).nb ⟨hX,jc S4.out.n.rx.bd (by omega)⟩ rfl));clear S4 hX hB;go_wp2_with fail;refine hK.out _ _ ⟨S5.out.b.t.t.c4,S5.out.b.t.c4⟩ (λh2=>?_);clear hK K hH;have hH:=h2;clear h2
    try simp only[ax]
    refine wpAnyH_ready (rs:=[3,5]) (by kernel_rfl) (by simp) (aO rfl (λK hK=>?_) (aO rfl (λK hK=>?_) (a0a)))
    ·go_simp;refine(gq S5.out.n.t.t.rx).mono ?_;rintro e w5 ⟨bH,bI,bJ,bK,rfl,hX,hB⟩;have S6:=hid (((S5.out.step hB).nb ⟨hX,jc S5.out.n.t.t.rx.bd (by omega)⟩ rfl));clear S5 hX hB;go_wp2_with fail;refine hK.out _ _ ⟨S6.out.b.t.t.c4,S6.out.b.t.c4⟩ (λh2=>?_);clear hK K hH;have hH:=h2;clear h2
     try simp only[ax]
     refine ah 5 rfl (by kernel_rfl) (λK hK=>?_);go_simp;have S7:=hid (S6.out.var (w5.heap.size) [.bool false,a0b none 0 0] 29 (by simp));clear S6;refine hK.out _ _ ⟨S7.out.b.t.t.t.c4,S7.out.b.t.t.c4⟩ (λh2=>?_);clear hK K hH;have hH:=h2;clear h2
     try simp only[ax]
     refine ai (λw6 hW=>?_);rw[<-hW]at S7 hH;clear hW;refine ah 6 rfl (by kernel_rfl) (λK hK=>?_);obtain⟨dF,dG⟩:=S7.out.b.t.c2;obtain⟨gH,gI⟩:=S7.out.b.t.f2;go_simp;clear dF dG gH gI;have S8:Hid (Sx w _ [⟨(w5.heap.size),[.bool false,a0b none 0 0]⟩,⟨(w2.heap.size),[.bool aS,a0b aT aU aV]⟩,⟨(w.heap.size+1),[.bool m2,a0b a2 n2 c2,.bool k2,a0b b2 l2 d2]⟩,⟨(w.heap.size),[.bool m,a0b ao n cap,.bool k,a0b bo l cb]⟩] _):=hid (Sx.set [⟨(w5.heap.size),[.bool false,a0b none 0 0]⟩] [⟨(w.heap.size+1),[.bool m2,a0b a2 n2 c2,.bool k2,a0b b2 l2 d2]⟩,⟨(w.heap.size),[.bool m,a0b ao n cap,.bool k,a0b bo l cb]⟩] (Sx.set [⟨(w5.heap.size),[.bool false,a0b none 0 0]⟩] [⟨(w.heap.size+1),[.bool m2,a0b a2 n2 c2,.bool k2,a0b b2 l2 d2]⟩,⟨(w.heap.size),[.bool m,a0b ao n cap,.bool k,a0b bo l cb]⟩] S7.out 0 (.bool aS)) 1 (a0b aT aU aV));clear S7;refine hK.out _ _ ⟨S8.out.b.t.t.t.c4,S8.out.b.t.t.c4⟩ (λh2=>?_);clear hK K hH;have hH:=h2;clear h2
     try simp only[ax]
     refine ai (λw7 hW=>?_);rw[<-hW]at S8 hH;clear hW;refine ah 7 rfl (by kernel_rfl) (λK hK=>?_);obtain⟨dQ,dR⟩:=S8.out.b.c2;obtain⟨dZ,eu⟩:=S8.out.b.f2;go_simp;clear dQ dR dZ eu;have S9:Hid (Sx w _ [⟨(w5.heap.size),[.bool bH,a0b bI bJ bK]⟩,⟨(w2.heap.size),[.bool aS,a0b aT aU aV]⟩,⟨(w.heap.size+1),[.bool m2,a0b a2 n2 c2,.bool k2,a0b b2 l2 d2]⟩,⟨(w.heap.size),[.bool m,a0b ao n cap,.bool k,a0b bo l cb]⟩] _):=hid (Sx.set [] [⟨(w2.heap.size),[.bool aS,a0b aT aU aV]⟩,⟨(w.heap.size+1),[.bool m2,a0b a2 n2 c2,.bool k2,a0b b2 l2 d2]⟩,⟨(w.heap.size),[.bool m,a0b ao n cap,.bool k,a0b bo l cb]⟩] (Sx.set [] [⟨(w2.heap.size),[.bool aS,a0b aT aU aV]⟩,⟨(w.heap.size+1),[.bool m2,a0b a2 n2 c2,.bool k2,a0b b2 l2 d2]⟩,⟨(w.heap.size),[.bool m,a0b ao n cap,.bool k,a0b bo l cb]⟩] S8.out 0 (.bool bH)) 1 (a0b bI bJ bK));clear S8;refine hK.out _ _ ⟨S9.out.b.t.t.t.c4,S9.out.b.t.t.c4⟩ (λh2=>?_);clear hK K hH;have hH:=h2;clear h2
     try simp only[ax]
     refine ai (λw8 hW=>?_);rw[<-hW]at S9 hH;clear hW;refine wpAnyH_done (by kernel_rfl) ?_ _
     clear hH;go_wp2_with fail;go_meet
     case rel=>exact⟨_,_,_,_,_,_,_,_,_,_,rfl,rfl,S9.out⟩
    ·go_simp;have S6:=hid (S5.out.var (w4.heap.size) [.bool false,a0b none 0 0] 29 (by simp));clear S5;refine hK.out _ _ ⟨S6.out.b.t.t.t.c4,S6.out.b.t.t.c4⟩ (λh2=>?_);clear hK K hH;have hH:=h2;clear h2
     try simp only[ax]
     refine ai (λw5 hW=>?_);rw[<-hW]at S6 hH;clear hW;refine ah 3 rfl (by kernel_rfl) (λK hK=>?_);go_simp;refine(gq S6.out.n.t.t.rx).mono ?_;rintro e w6 ⟨bH,bI,bJ,bK,rfl,hX,hB⟩;have S7:=hid (((S6.out.step hB).nb ⟨hX,jc S6.out.n.t.t.rx.bd (by omega)⟩ rfl));clear S6 hX hB;go_wp2_with fail;refine hK.out _ _ ⟨S7.out.b.t.t.t.c4,S7.out.b.t.t.c4⟩ (λh2=>?_);clear hK K hH;have hH:=h2;clear h2
     try simp only[ax]
     refine ah 6 rfl (by kernel_rfl) (λK hK=>?_);obtain⟨dF,dG⟩:=S7.out.b.t.c2;obtain⟨gH,gI⟩:=S7.out.b.t.f2;go_simp;clear dF dG gH gI;have S8:Hid (Sx w _ [⟨(w4.heap.size),[.bool false,a0b none 0 0]⟩,⟨(w2.heap.size),[.bool aS,a0b aT aU aV]⟩,⟨(w.heap.size+1),[.bool m2,a0b a2 n2 c2,.bool k2,a0b b2 l2 d2]⟩,⟨(w.heap.size),[.bool m,a0b ao n cap,.bool k,a0b bo l cb]⟩] _):=hid (Sx.set [⟨(w4.heap.size),[.bool false,a0b none 0 0]⟩] [⟨(w.heap.size+1),[.bool m2,a0b a2 n2 c2,.bool k2,a0b b2 l2 d2]⟩,⟨(w.heap.size),[.bool m,a0b ao n cap,.bool k,a0b bo l cb]⟩] (Sx.set [⟨(w4.heap.size),[.bool false,a0b none 0 0]⟩] [⟨(w.heap.size+1),[.bool m2,a0b a2 n2 c2,.bool k2,a0b b2 l2 d2]⟩,⟨(w.heap.size),[.bool m,a0b ao n cap,.bool k,a0b bo l cb]⟩] S7.out 0 (.bool aS)) 1 (a0b aT aU aV));clear S7;refine hK.out _ _ ⟨S8.out.b.t.t.t.c4,S8.out.b.t.t.c4⟩ (λh2=>?_);clear hK K hH;have hH:=h2;clear h2
     try simp only[ax]
     refine ai (λw7 hW=>?_);rw[<-hW]at S8 hH;clear hW;refine ah 7 rfl (by kernel_rfl) (λK hK=>?_);obtain⟨dQ,dR⟩:=S8.out.b.c2;obtain⟨dZ,eu⟩:=S8.out.b.f2;go_simp;clear dQ dR dZ eu;have S9:Hid (Sx w _ [⟨(w4.heap.size),[.bool bH,a0b bI bJ bK]⟩,⟨(w2.heap.size),[.bool aS,a0b aT aU aV]⟩,⟨(w.heap.size+1),[.bool m2,a0b a2 n2 c2,.bool k2,a0b b2 l2 d2]⟩,⟨(w.heap.size),[.bool m,a0b ao n cap,.bool k,a0b bo l cb]⟩] _):=hid (Sx.set [] [⟨(w2.heap.size),[.bool aS,a0b aT aU aV]⟩,⟨(w.heap.size+1),[.bool m2,a0b a2 n2 c2,.bool k2,a0b b2 l2 d2]⟩,⟨(w.heap.size),[.bool m,a0b ao n cap,.bool k,a0b bo l cb]⟩] (Sx.set [] [⟨(w2.heap.size),[.bool aS,a0b aT aU aV]⟩,⟨(w.heap.size+1),[.bool m2,a0b a2 n2 c2,.bool k2,a0b b2 l2 d2]⟩,⟨(w.heap.size),[.bool m,a0b ao n cap,.bool k,a0b bo l cb]⟩] S8.out 0 (.bool bH)) 1 (a0b bI bJ bK));clear S8;refine hK.out _ _ ⟨S9.out.b.t.t.t.c4,S9.out.b.t.t.c4⟩ (λh2=>?_);clear hK K hH;have hH:=h2;clear h2
     try simp only[ax]
     refine ai (λw8 hW=>?_);rw[<-hW]at S9 hH;clear hW;refine wpAnyH_done (by kernel_rfl) ?_ _
     clear hH;go_wp2_with fail;go_meet
     case rel=>exact⟨_,_,_,_,_,_,_,_,_,_,rfl,rfl,S9.out⟩
   ·go_simp;have S5:=hid (S4.out.var (w3.heap.size) [.bool false,a0b none 0 0] 29 (by simp));clear S4;refine hK.out _ _ ⟨S5.out.b.t.t.t.c4,S5.out.b.t.t.c4⟩ (λh2=>?_);clear hK K hH;have hH:=h2;clear h2
    try simp only[ax]
    refine ai (λw4 hW=>?_);rw[<-hW]at S5 hH;clear hW;refine ah 1 rfl (by kernel_rfl) (λK hK=>?_);go_simp;refine(gq S5.out.n.rx).mono ?_;rintro e w5 ⟨aS,aT,aU,aV,rfl,hX,hB⟩;have S6:=hid (((S5.out.step hB).nb ⟨hX,jc S5.out.n.rx.bd (by omega)⟩ rfl));clear S5 hX hB;go_wp2_with fail;refine hK.out _ _ ⟨S6.out.b.t.t.t.c4,S6.out.b.t.t.c4⟩ (λh2=>?_);clear hK K hH;have hH:=h2;clear h2
    try simp only[ax]
    refine ah 3 rfl (by kernel_rfl) (λK hK=>?_);go_simp;refine(gq S6.out.n.t.t.rx).mono ?_;rintro e w6 ⟨bH,bI,bJ,bK,rfl,hX,hB⟩;have S7:=hid (((S6.out.step hB).nb ⟨hX,jc S6.out.n.t.t.rx.bd (by omega)⟩ rfl));clear S6 hX hB;go_wp2_with fail;refine hK.out _ _ ⟨S7.out.b.t.t.t.c4,S7.out.b.t.t.c4⟩ (λh2=>?_);clear hK K hH;have hH:=h2;clear h2
    try simp only[ax]
    refine ah 6 rfl (by kernel_rfl) (λK hK=>?_);obtain⟨dF,dG⟩:=S7.out.b.t.c2;obtain⟨gH,gI⟩:=S7.out.b.t.f2;go_simp;clear dF dG gH gI;have S8:Hid (Sx w _ [⟨(w3.heap.size),[.bool false,a0b none 0 0]⟩,⟨(w2.heap.size),[.bool aS,a0b aT aU aV]⟩,⟨(w.heap.size+1),[.bool m2,a0b a2 n2 c2,.bool k2,a0b b2 l2 d2]⟩,⟨(w.heap.size),[.bool m,a0b ao n cap,.bool k,a0b bo l cb]⟩] _):=hid (Sx.set [⟨(w3.heap.size),[.bool false,a0b none 0 0]⟩] [⟨(w.heap.size+1),[.bool m2,a0b a2 n2 c2,.bool k2,a0b b2 l2 d2]⟩,⟨(w.heap.size),[.bool m,a0b ao n cap,.bool k,a0b bo l cb]⟩] (Sx.set [⟨(w3.heap.size),[.bool false,a0b none 0 0]⟩] [⟨(w.heap.size+1),[.bool m2,a0b a2 n2 c2,.bool k2,a0b b2 l2 d2]⟩,⟨(w.heap.size),[.bool m,a0b ao n cap,.bool k,a0b bo l cb]⟩] S7.out 0 (.bool aS)) 1 (a0b aT aU aV));clear S7;refine hK.out _ _ ⟨S8.out.b.t.t.t.c4,S8.out.b.t.t.c4⟩ (λh2=>?_);clear hK K hH;have hH:=h2;clear h2
    try simp only[ax]
    refine ai (λw7 hW=>?_);rw[<-hW]at S8 hH;clear hW;refine ah 7 rfl (by kernel_rfl) (λK hK=>?_);obtain⟨dQ,dR⟩:=S8.out.b.c2;obtain⟨dZ,eu⟩:=S8.out.b.f2;go_simp;clear dQ dR dZ eu;have S9:Hid (Sx w _ [⟨(w3.heap.size),[.bool bH,a0b bI bJ bK]⟩,⟨(w2.heap.size),[.bool aS,a0b aT aU aV]⟩,⟨(w.heap.size+1),[.bool m2,a0b a2 n2 c2,.bool k2,a0b b2 l2 d2]⟩,⟨(w.heap.size),[.bool m,a0b ao n cap,.bool k,a0b bo l cb]⟩] _):=hid (Sx.set [] [⟨(w2.heap.size),[.bool aS,a0b aT aU aV]⟩,⟨(w.heap.size+1),[.bool m2,a0b a2 n2 c2,.bool k2,a0b b2 l2 d2]⟩,⟨(w.heap.size),[.bool m,a0b ao n cap,.bool k,a0b bo l cb]⟩] (Sx.set [] [⟨(w2.heap.size),[.bool aS,a0b aT aU aV]⟩,⟨(w.heap.size+1),[.bool m2,a0b a2 n2 c2,.bool k2,a0b b2 l2 d2]⟩,⟨(w.heap.size),[.bool m,a0b ao n cap,.bool k,a0b bo l cb]⟩] S8.out 0 (.bool bH)) 1 (a0b bI bJ bK));clear S8;refine hK.out _ _ ⟨S9.out.b.t.t.t.c4,S9.out.b.t.t.c4⟩ (λh2=>?_);clear hK K hH;have hH:=h2;clear h2
    try simp only[ax]
    refine ai (λw8 hW=>?_);rw[<-hW]at S9 hH;clear hW;refine wpAnyH_done (by kernel_rfl) ?_ _
    clear hH;go_wp2_with fail;go_meet
    case rel=>exact⟨_,_,_,_,_,_,_,_,_,_,rfl,rfl,S9.out⟩
  ·go_simp;have S4:=hid (S3.out.var (w2.heap.size) [.bool false,a0b none 0 0] 29 (by simp));clear S3;refine hK.out _ _ ⟨S4.out.b.t.t.c4,S4.out.b.t.c4⟩ (λh2=>?_);clear hK K hH;have hH:=h2;clear h2
   try simp only[ax]
   refine ai (λw3 hW=>?_);rw[<-hW]at S4 hH;clear hW;refine wpAnyH_ready (rs:=[1,4]) (by kernel_rfl) (by simp) (aO rfl (λK hK=>?_) (aO rfl (λK hK=>?_) (a0a)))
   ·go_simp;refine(gq S4.out.n.rx).mono ?_;rintro e w4 ⟨aS,aT,aU,aV,rfl,hX,hB⟩;have S5:=hid (((S4.out.step hB).nb ⟨hX,jc S4.out.n.rx.bd (by omega)⟩ rfl));clear S4 hX hB;go_wp2_with fail;refine hK.out _ _ ⟨S5.out.b.t.t.c4,S5.out.b.t.c4⟩ (λh2=>?_);clear hK K hH;have hH:=h2;clear h2
    try simp only[ax]
    refine wpAnyH_ready (rs:=[3,4]) (by kernel_rfl) (by simp) (aO rfl (λK hK=>?_) (aO rfl (λK hK=>?_) (a0a)))
    ·go_simp;refine(gq S5.out.n.t.t.rx).mono ?_;rintro e w5 ⟨bH,bI,bJ,bK,rfl,hX,hB⟩;have S6:=hid (((S5.out.step hB).nb ⟨hX,jc S5.out.n.t.t.rx.bd (by omega)⟩ rfl));clear S5 hX hB;go_wp2_with fail;refine hK.out _ _ ⟨S6.out.b.t.t.c4,S6.out.b.t.c4⟩ (λh2=>?_);clear hK K hH;have hH:=h2;clear h2
     try simp only[ax]
     refine ah 4 rfl (by kernel_rfl) (λK hK=>?_);go_simp;have S7:=hid (S6.out.var (w5.heap.size) [.bool false,a0b none 0 0] 29 (by simp));clear S6;refine hK.out _ _ ⟨S7.out.b.t.t.t.c4,S7.out.b.t.t.c4⟩ (λh2=>?_);clear hK K hH;have hH:=h2;clear h2
     try simp only[ax]
     refine ai (λw6 hW=>?_);rw[<-hW]at S7 hH;clear hW;refine ah 6 rfl (by kernel_rfl) (λK hK=>?_);obtain⟨dF,dG⟩:=S7.out.b.c2;obtain⟨gH,gI⟩:=S7.out.b.f2;go_simp;clear dF dG gH gI;have S8:Hid (Sx w _ [⟨(w5.heap.size),[.bool aS,a0b aT aU aV]⟩,⟨(w2.heap.size),[.bool false,a0b none 0 0]⟩,⟨(w.heap.size+1),[.bool m2,a0b a2 n2 c2,.bool k2,a0b b2 l2 d2]⟩,⟨(w.heap.size),[.bool m,a0b ao n cap,.bool k,a0b bo l cb]⟩] _):=hid (Sx.set [] [⟨(w2.heap.size),[.bool false,a0b none 0 0]⟩,⟨(w.heap.size+1),[.bool m2,a0b a2 n2 c2,.bool k2,a0b b2 l2 d2]⟩,⟨(w.heap.size),[.bool m,a0b ao n cap,.bool k,a0b bo l cb]⟩] (Sx.set [] [⟨(w2.heap.size),[.bool false,a0b none 0 0]⟩,⟨(w.heap.size+1),[.bool m2,a0b a2 n2 c2,.bool k2,a0b b2 l2 d2]⟩,⟨(w.heap.size),[.bool m,a0b ao n cap,.bool k,a0b bo l cb]⟩] S7.out 0 (.bool aS)) 1 (a0b aT aU aV));clear S7;refine hK.out _ _ ⟨S8.out.b.t.t.t.c4,S8.out.b.t.t.c4⟩ (λh2=>?_);clear hK K hH;have hH:=h2;clear h2
     try simp only[ax]
     refine ai (λw7 hW=>?_);rw[<-hW]at S8 hH;clear hW;refine ah 7 rfl (by kernel_rfl) (λK hK=>?_);obtain⟨dQ,dR⟩:=S8.out.b.t.c2;obtain⟨dZ,eu⟩:=S8.out.b.t.f2;go_simp;clear dQ dR dZ eu;have S9:Hid (Sx w _ [⟨(w5.heap.size),[.bool aS,a0b aT aU aV]⟩,⟨(w2.heap.size),[.bool bH,a0b bI bJ bK]⟩,⟨(w.heap.size+1),[.bool m2,a0b a2 n2 c2,.bool k2,a0b b2 l2 d2]⟩,⟨(w.heap.size),[.bool m,a0b ao n cap,.bool k,a0b bo l cb]⟩] _):=hid (Sx.set [⟨(w5.heap.size),[.bool aS,a0b aT aU aV]⟩] [⟨(w.heap.size+1),[.bool m2,a0b a2 n2 c2,.bool k2,a0b b2 l2 d2]⟩,⟨(w.heap.size),[.bool m,a0b ao n cap,.bool k,a0b bo l cb]⟩] (Sx.set [⟨(w5.heap.size),[.bool aS,a0b aT aU aV]⟩] [⟨(w.heap.size+1),[.bool m2,a0b a2 n2 c2,.bool k2,a0b b2 l2 d2]⟩,⟨(w.heap.size),[.bool m,a0b ao n cap,.bool k,a0b bo l cb]⟩] S8.out 0 (.bool bH)) 1 (a0b bI bJ bK));clear S8;refine hK.out _ _ ⟨S9.out.b.t.t.t.c4,S9.out.b.t.t.c4⟩ (λh2=>?_);clear hK K hH;have hH:=h2;clear h2
     try simp only[ax]
     refine ai (λw8 hW=>?_);rw[<-hW]at S9 hH;clear hW;refine wpAnyH_done (by kernel_rfl) ?_ _
     clear hH;go_wp2_with fail;go_meet
     case rel=>exact⟨_,_,_,_,_,_,_,_,_,_,rfl,rfl,S9.out.swap⟩
    ·go_simp;have S6:=hid (S5.out.var (w4.heap.size) [.bool false,a0b none 0 0] 29 (by simp));clear S5;refine hK.out _ _ ⟨S6.out.b.t.t.t.c4,S6.out.b.t.t.c4⟩ (λh2=>?_);clear hK K hH;have hH:=h2;clear h2
     try simp only[ax]
     refine ai (λw5 hW=>?_);rw[<-hW]at S6 hH;clear hW;refine ah 3 rfl (by kernel_rfl) (λK hK=>?_);go_simp;refine(gq S6.out.n.t.t.rx).mono ?_;rintro e w6 ⟨bH,bI,bJ,bK,rfl,hX,hB⟩;have S7:=hid (((S6.out.step hB).nb ⟨hX,jc S6.out.n.t.t.rx.bd (by omega)⟩ rfl));clear S6 hX hB;go_wp2_with fail;refine hK.out _ _ ⟨S7.out.b.t.t.t.c4,S7.out.b.t.t.c4⟩ (λh2=>?_);clear hK K hH;have hH:=h2;clear h2
     try simp only[ax]
     refine ah 6 rfl (by kernel_rfl) (λK hK=>?_);obtain⟨dF,dG⟩:=S7.out.b.c2;obtain⟨gH,gI⟩:=S7.out.b.f2;go_simp;clear dF dG gH gI;have S8:Hid (Sx w _ [⟨(w4.heap.size),[.bool aS,a0b aT aU aV]⟩,⟨(w2.heap.size),[.bool false,a0b none 0 0]⟩,⟨(w.heap.size+1),[.bool m2,a0b a2 n2 c2,.bool k2,a0b b2 l2 d2]⟩,⟨(w.heap.size),[.bool m,a0b ao n cap,.bool k,a0b bo l cb]⟩] _):=hid (Sx.set [] [⟨(w2.heap.size),[.bool false,a0b none 0 0]⟩,⟨(w.heap.size+1),[.bool m2,a0b a2 n2 c2,.bool k2,a0b b2 l2 d2]⟩,⟨(w.heap.size),[.bool m,a0b ao n cap,.bool k,a0b bo l cb]⟩] (Sx.set [] [⟨(w2.heap.size),[.bool false,a0b none 0 0]⟩,⟨(w.heap.size+1),[.bool m2,a0b a2 n2 c2,.bool k2,a0b b2 l2 d2]⟩,⟨(w.heap.size),[.bool m,a0b ao n cap,.bool k,a0b bo l cb]⟩] S7.out 0 (.bool aS)) 1 (a0b aT aU aV));clear S7;refine hK.out _ _ ⟨S8.out.b.t.t.t.c4,S8.out.b.t.t.c4⟩ (λh2=>?_);clear hK K hH;have hH:=h2;clear h2
     try simp only[ax]
     refine ai (λw7 hW=>?_);rw[<-hW]at S8 hH;clear hW;refine ah 7 rfl (by kernel_rfl) (λK hK=>?_);obtain⟨dQ,dR⟩:=S8.out.b.t.c2;obtain⟨dZ,eu⟩:=S8.out.b.t.f2;go_simp;clear dQ dR dZ eu;have S9:Hid (Sx w _ [⟨(w4.heap.size),[.bool aS,a0b aT aU aV]⟩,⟨(w2.heap.size),[.bool bH,a0b bI bJ bK]⟩,⟨(w.heap.size+1),[.bool m2,a0b a2 n2 c2,.bool k2,a0b b2 l2 d2]⟩,⟨(w.heap.size),[.bool m,a0b ao n cap,.bool k,a0b bo l cb]⟩] _):=hid (Sx.set [⟨(w4.heap.size),[.bool aS,a0b aT aU aV]⟩] [⟨(w.heap.size+1),[.bool m2,a0b a2 n2 c2,.bool k2,a0b b2 l2 d2]⟩,⟨(w.heap.size),[.bool m,a0b ao n cap,.bool k,a0b bo l cb]⟩] (Sx.set [⟨(w4.heap.size),[.bool aS,a0b aT aU aV]⟩] [⟨(w.heap.size+1),[.bool m2,a0b a2 n2 c2,.bool k2,a0b b2 l2 d2]⟩,⟨(w.heap.size),[.bool m,a0b ao n cap,.bool k,a0b bo l cb]⟩] S8.out 0 (.bool bH)) 1 (a0b bI bJ bK));clear S8;refine hK.out _ _ ⟨S9.out.b.t.t.t.c4,S9.out.b.t.t.c4⟩ (λh2=>?_);clear hK K hH;have hH:=h2;clear h2
     try simp only[ax]
     refine ai (λw8 hW=>?_);rw[<-hW]at S9 hH;clear hW;refine wpAnyH_done (by kernel_rfl) ?_ _
     clear hH;go_wp2_with fail;go_meet
     case rel=>exact⟨_,_,_,_,_,_,_,_,_,_,rfl,rfl,S9.out.swap⟩
   ·go_simp;have S5:=hid (S4.out.var (w3.heap.size) [.bool false,a0b none 0 0] 29 (by simp));clear S4;refine hK.out _ _ ⟨S5.out.b.t.t.t.c4,S5.out.b.t.t.c4⟩ (λh2=>?_);clear hK K hH;have hH:=h2;clear h2
    try simp only[ax]
    refine ai (λw4 hW=>?_);rw[<-hW]at S5 hH;clear hW;refine ah 1 rfl (by kernel_rfl) (λK hK=>?_);go_simp;refine(gq S5.out.n.rx).mono ?_;rintro e w5 ⟨aS,aT,aU,aV,rfl,hX,hB⟩;have S6:=hid (((S5.out.step hB).nb ⟨hX,jc S5.out.n.rx.bd (by omega)⟩ rfl));clear S5 hX hB;go_wp2_with fail;refine hK.out _ _ ⟨S6.out.b.t.t.t.c4,S6.out.b.t.t.c4⟩ (λh2=>?_);clear hK K hH;have hH:=h2;clear h2
    try simp only[ax]
    refine ah 3 rfl (by kernel_rfl) (λK hK=>?_);go_simp;refine(gq S6.out.n.t.t.rx).mono ?_;rintro e w6 ⟨bH,bI,bJ,bK,rfl,hX,hB⟩;have S7:=hid (((S6.out.step hB).nb ⟨hX,jc S6.out.n.t.t.rx.bd (by omega)⟩ rfl));clear S6 hX hB;go_wp2_with fail;refine hK.out _ _ ⟨S7.out.b.t.t.t.c4,S7.out.b.t.t.c4⟩ (λh2=>?_);clear hK K hH;have hH:=h2;clear h2
    try simp only[ax]
    refine ah 6 rfl (by kernel_rfl) (λK hK=>?_);obtain⟨dF,dG⟩:=S7.out.b.c2;obtain⟨gH,gI⟩:=S7.out.b.f2;go_simp;clear dF dG gH gI;have S8:Hid (Sx w _ [⟨(w3.heap.size),[.bool aS,a0b aT aU aV]⟩,⟨(w2.heap.size),[.bool false,a0b none 0 0]⟩,⟨(w.heap.size+1),[.bool m2,a0b a2 n2 c2,.bool k2,a0b b2 l2 d2]⟩,⟨(w.heap.size),[.bool m,a0b ao n cap,.bool k,a0b bo l cb]⟩] _):=hid (Sx.set [] [⟨(w2.heap.size),[.bool false,a0b none 0 0]⟩,⟨(w.heap.size+1),[.bool m2,a0b a2 n2 c2,.bool k2,a0b b2 l2 d2]⟩,⟨(w.heap.size),[.bool m,a0b ao n cap,.bool k,a0b bo l cb]⟩] (Sx.set [] [⟨(w2.heap.size),[.bool false,a0b none 0 0]⟩,⟨(w.heap.size+1),[.bool m2,a0b a2 n2 c2,.bool k2,a0b b2 l2 d2]⟩,⟨(w.heap.size),[.bool m,a0b ao n cap,.bool k,a0b bo l cb]⟩] S7.out 0 (.bool aS)) 1 (a0b aT aU aV));clear S7;refine hK.out _ _ ⟨S8.out.b.t.t.t.c4,S8.out.b.t.t.c4⟩ (λh2=>?_);clear hK K hH;have hH:=h2;clear h2
    try simp only[ax]
    refine ai (λw7 hW=>?_);rw[<-hW]at S8 hH;clear hW;refine ah 7 rfl (by kernel_rfl) (λK hK=>?_);obtain⟨dQ,dR⟩:=S8.out.b.t.c2;obtain⟨dZ,eu⟩:=S8.out.b.t.f2;go_simp;clear dQ dR dZ eu;have S9:Hid (Sx w _ [⟨(w3.heap.size),[.bool aS,a0b aT aU aV]⟩,⟨(w2.heap.size),[.bool bH,a0b bI bJ bK]⟩,⟨(w.heap.size+1),[.bool m2,a0b a2 n2 c2,.bool k2,a0b b2 l2 d2]⟩,⟨(w.heap.size),[.bool m,a0b ao n cap,.bool k,a0b bo l cb]⟩] _):=hid (Sx.set [⟨(w3.heap.size),[.bool aS,a0b aT aU aV]⟩] [⟨(w.heap.size+1),[.bool m2,a0b a2 n2 c2,.bool k2,a0b b2 l2 d2]⟩,⟨(w.heap.size),[.bool m,a0b ao n cap,.bool k,a0b bo l cb]⟩] (Sx.set [⟨(w3.heap.size),[.bool aS,a0b aT aU aV]⟩] [⟨(w.heap.size+1),[.bool m2,a0b a2 n2 c2,.bool k2,a0b b2 l2 d2]⟩,⟨(w.heap.size),[.bool m,a0b ao n cap,.bool k,a0b bo l cb]⟩] S8.out 0 (.bool bH)) 1 (a0b bI bJ bK));clear S8;refine hK.out _ _ ⟨S9.out.b.t.t.t.c4,S9.out.b.t.t.c4⟩ (λh2=>?_);clear hK K hH;have hH:=h2;clear h2
    try simp only[ax]
    refine ai (λw8 hW=>?_);rw[<-hW]at S9 hH;clear hW;refine wpAnyH_done (by kernel_rfl) ?_ _
    clear hH;go_wp2_with fail;go_meet
    case rel=>exact⟨_,_,_,_,_,_,_,_,_,_,rfl,rfl,S9.out.swap⟩
 case rest=>
 clear S2;obtain⟨qb5,YI,bH,bI,bJ,bK,aS,aT,aU,aV,rfl,rfl,S3⟩:=hcut;obtain⟨w9,hW⟩:∃w9,w9=wc:=⟨_,rfl⟩;rw[<-hW]at S3 ⊢;clear hW;obtain⟨bW,bX,dB,dD⟩:=S3.out.b.t.t.t.c4;obtain⟨dF,dG⟩:=S3.out.b.t.c2;obtain⟨bP,bQ,l8,l9⟩:=S3.out.b.t.t.c4;obtain⟨dQ,dR⟩:=S3.out.b.c2;go_wp2_with fail;go_ret;exact⟨_,_,_,_,_,_,_,_,_,_,_,_,rfl,S3.out.b.t.t.t.1,S3.out.b.1,S3.out.b.t.t.1,S3.out.b.t.1,S3.out.n.nb,S3.out.n.t.nb,S3.out.h⟩
theorem RQ [Ol] {m:Bool} {ao:Option Addr} {n cap:Nat} {k:Bool} {bo:Option Addr} {l cb:Nat} {m2:Bool} {a2:Option Addr} {n2 c2:Nat} {k2:Bool} {b2:Option Addr} {l2 d2:Nat} {u:Bool} {v:Option Addr} {s t:Nat} {u':Bool} {v':Option Addr} {s' t':Nat} {x d y c:Int} {q r:Rat} {j i:Nat} {w:World} {p0 p1 p2 p3:Nat} (hx:Rx w m ao n cap k bo l cb x d q j) (hy:Rx w m2 a2 n2 c2 k2 b2 l2 d2 y c r i) (hp0:Cells w p0 [.bool m,a0b ao n cap,.bool k,a0b bo l cb]) (hp1:Cells w p1 [.bool u,a0b v s t]) (hp2:Cells w p2 [.bool m2,a0b a2 n2 c2,.bool k2,a0b b2 l2 d2]) (hp3:Cells w p3 [.bool u',a0b v' s' t']) (hyd:Nb w u v s t (dn c) i) (hxd:Nb w u' v' s' t' (dn d) j) (hj:j+i+1<=100000):
  Calls Tryz.prog 128 #[.func (.func 78) #[] #[],.pointer (some ⟨p0,0,none⟩),.pointer (some ⟨p1,0,none⟩),.pointer (some ⟨p2,0,none⟩),.pointer (some ⟨p3,0,none⟩)] w (LU w (x*dn c+y*dn d) (dn d*dn c) (j+i+1)):=by
 go_enter Tryz.func128,Tryz.ntmps128;have S0:=hid (Sx.start (w:=w) (N:=[.cells p0 [.bool m,a0b ao n cap,.bool k,a0b bo l cb],.cells p1 [.bool u,a0b v s t],.cells p2 [.bool m2,a0b a2 n2 c2,.bool k2,a0b b2 l2 d2],.cells p3 [.bool u',a0b v' s' t'],.rx m ao n cap k bo l cb x d q j,.rx m2 a2 n2 c2 k2 b2 l2 d2 y c r i,.nb u v s t (dn c) i,.nb u' v' s' t' (dn d) j]) ⟨hp0,hp1,hp2,hp3,hx,hy,hyd,hxd,trivial⟩);clear hp0 hp1 hp2 hp3 hx hy hyd hxd;have S1:=hid (S0.out.var (w.heap.size) [.bool false,a0b none 0 0,.bool false,a0b none 0 0] 31 (by simp));clear S0;go_upto_region 1 with(fail)
 refine aj (λw1 hW=>?_);rw[<-hW]at S1;clear hW;have S2:=hid (S1.out.drew);clear S1;refine wp_region_held_drew (S:=λw'=>(w'.cell? ⟨p0,0,none⟩=some (.bool m)/\ w'.cell? ⟨p0,1,none⟩=some (a0b ao n cap)/\ w'.cell? ⟨p0,2,none⟩=some (.bool k)/\ w'.cell? ⟨p0,3,none⟩=some (a0b bo l cb))/\ (w'.cell? ⟨p1,0,none⟩=some (.bool u)/\ w'.cell? ⟨p1,1,none⟩=some (a0b v s t))/\ (w'.cell? ⟨p2,0,none⟩=some (.bool m2)/\ w'.cell? ⟨p2,1,none⟩=some (a0b a2 n2 c2)/\ w'.cell? ⟨p2,2,none⟩=some (.bool k2)/\ w'.cell? ⟨p2,3,none⟩=some (a0b b2 l2 d2))/\ (w'.cell? ⟨p3,0,none⟩=some (.bool u')/\ w'.cell? ⟨p3,1,none⟩=some (a0b v' s' t'))) (by kernel_rfl) (⟨S2.out.n.cells.c4,S2.out.n.t.cells.c2,S2.out.n.t.t.cells.c4,S2.out.n.t.t.t.cells.c2⟩) (λhH=>?_);refine ai (λw2 hW=>?_);rw[<-hW]at S2 hH;clear hW;refine aQ 0 hH ?_;try simp only[ax]
 refine aQ 1 hH ?_;try simp only[ax]
 refine aQ 2 hH ?_;try simp only[ax]
 refine aQ 3 hH ?_;try simp only[ax]
 refine aQ 5 hH ?_;try simp only[ax]
 refine aQ 6 hH ?_;try simp only[ax]
 refine aQ 7 hH ?_;try simp only[ax]
 refine aQ 10 hH ?_;try simp only[ax]
 refine aQ 11 hH ?_;try simp only[ax]
 refine ah 4 rfl (by kernel_rfl) (λK hK=>?_);go_simp;refine(jP S2.out.n.t.t.t.t.rx.num S2.out.n.t.t.t.t.t.t.nb.nx).mono ?_;rintro e w3 ⟨aS,aT,aU,aV,rfl,hX,hB⟩;have S3:=hid (((S2.out.step hB).cb (hX.cb (S2.out.n.t.t.t.t.rx.bn.mul S2.out.n.t.t.t.t.t.t.nb.bd) (by omega)) rfl));clear S2 hX hB;go_wp2_with fail;refine hK.out _ _ ⟨S3.out.n.t.cells.c4,S3.out.n.t.t.cells.c2,S3.out.n.t.t.t.cells.c4,S3.out.n.t.t.t.t.cells.c2⟩ (λh2=>?_);clear hK K hH;have hH:=h2;clear h2
 try simp only[ax]
 refine ah 8 rfl (by kernel_rfl) (λK hK=>?_);go_simp;refine(jP S3.out.n.t.t.t.t.t.t.rx.num S3.out.n.t.t.t.t.t.t.t.t.nb.nx).mono ?_;rintro e w4 ⟨bH,bI,bJ,bK,rfl,hX,hB⟩;have S4:=hid (((S3.out.step hB).cb (hX.cb (S3.out.n.t.t.t.t.t.t.rx.bn.mul S3.out.n.t.t.t.t.t.t.t.t.nb.bd) (by omega)) rfl));clear S3 hX hB;go_wp2_with fail;refine hK.out _ _ ⟨S4.out.n.t.t.cells.c4,S4.out.n.t.t.t.cells.c2,S4.out.n.t.t.t.t.cells.c4,S4.out.n.t.t.t.t.t.cells.c2⟩ (λh2=>?_);clear hK K hH;have hH:=h2;clear h2
 try simp only[ax]
 refine ah 9 rfl (by kernel_rfl) (λK hK=>?_);go_simp;refine(vX S4.out.n.t.cb.cx.nx S4.out.n.cb.cx.nx).mono ?_;rintro e w5 ⟨dL,dM,dN,dO,rfl,hX,hB⟩;have S5:=hid (((S4.out.step hB).cb (hX.cb ((show Bd ((x*dn c)+(y*dn d)) ((j+i)+1)from S4.out.n.t.cb.bd.Yg S4.out.n.cb.bd (by omega) (by omega))) (by omega)) rfl));clear S4 hX hB;go_wp2_with fail;refine hK.out _ _ ⟨S5.out.n.t.t.t.cells.c4,S5.out.n.t.t.t.t.cells.c2,S5.out.n.t.t.t.t.t.cells.c4,S5.out.n.t.t.t.t.t.t.cells.c2⟩ (λh2=>?_);clear hK K hH;have hH:=h2;clear h2
 try simp only[ax]
 refine ah 12 rfl (by kernel_rfl) (λK hK=>?_);go_simp;refine(jP S5.out.n.t.t.t.t.t.t.t.t.t.t.nb.nx S5.out.n.t.t.t.t.t.t.t.t.t.nb.nx).mono ?_;rintro e w6 ⟨fF,fG,fH,fI,rfl,hX,hB⟩;have S6:=hid (((S5.out.step hB).cb (hX.cb (S5.out.n.t.t.t.t.t.t.t.t.t.t.nb.bd.mul S5.out.n.t.t.t.t.t.t.t.t.t.nb.bd) (by omega)) rfl));clear S5 hX hB;go_wp2_with fail;refine hK.out _ _ ⟨S6.out.n.t.t.t.t.cells.c4,S6.out.n.t.t.t.t.t.cells.c2,S6.out.n.t.t.t.t.t.t.cells.c4,S6.out.n.t.t.t.t.t.t.t.cells.c2⟩ (λh2=>?_);clear hK K hH;have hH:=h2;clear h2
 try simp only[ax]
 refine aQ 13 hH ?_;try simp only[ax]
 refine ah 14 rfl (by kernel_rfl) (λK hK=>?_);obtain⟨dQ,dR,vw,vz⟩:=S6.out.b.c4;obtain⟨dZ,eu,AZ,A7⟩:=S6.out.b.f4;go_simp;clear dQ dR vw vz dZ eu AZ A7;have S7:Hid (Sx w _ [⟨(w.heap.size),[.bool dL,a0b dM dN dO,.bool fF,a0b fG fH fI]⟩] _):=hid (Sx.set [] [] (Sx.set [] [] (Sx.set [] [] (Sx.set [] [] S6.out 0 (.bool dL)) 1 (a0b dM dN dO)) 2 (.bool fF)) 3 (a0b fG fH fI));clear S6;refine hK.out _ _ ⟨S7.out.n.t.t.t.t.cells.c4,S7.out.n.t.t.t.t.t.cells.c2,S7.out.n.t.t.t.t.t.t.cells.c4,S7.out.n.t.t.t.t.t.t.t.cells.c2⟩ (λh2=>?_);clear hK K hH;have hH:=h2;clear h2
 try simp only[ax]
 refine ai (λw7 hW=>?_);rw[<-hW]at S7 hH;clear hW;refine wpAnyH_done (by kernel_rfl) ?_ _
 clear hH;obtain⟨dQ,dR,vw,vz⟩:=S7.out.b.c4;obtain⟨dZ,eu,AZ,A7⟩:=S7.out.b.f4;go_wp2_with fail;refine bodyPost_ret (v:= .agg #[.bool dL,a0b dM dN dO,.bool fF,a0b fG fH fI]) (by simp[results,Tryz.results128,go_sem,dQ,dR,vw,vz]) rfl ?_;exact⟨_,_,_,_,_,_,_,_,rfl,⟨S7.out.n.t.cb.cx,S7.out.n.t.cb.bd.mono (by omega)⟩,⟨S7.out.n.cb.cx,S7.out.n.cb.bd.mono (by omega)⟩,S7.out.h⟩
end
/- The contracts of ratio's field: Sign, Cmp, Neg, Add, Sub, Mul, Whole. -/
section
open Lib (hid)
open Go.RowKit
theorem YJ (d c:Int):dn (dn d*dn c)=dn d*dn c:=Dk (λh=>by
 rcases Int.mul_eq_zero.1 h with h1|h1
 ·exact kg d h1
 ·exact kg c h1)
theorem YK {x d y c:Int} {q r:Rat} (hq:qv x d=q) (hr:qv y c=r):qv (x*dn c+y*dn d) (dn d*dn c)=q+r:=by
 rw[<-hq,<-hr,kW,kW,kW,YJ,Rat.divInt_add_divInt _ _ (kg d) (kg c)]
theorem Vl {x d:Int} {q:Rat} (hq:qv x d=q):x.sign*(dn d).sign=qs q:=by
 rw[<-hq];unfold qs;rw[kW,QY (kg d)]
theorem GQ (q:Rat):qs q= -1∨qs q=0∨qs q=1:=by
 unfold qs;rcases Int.lt_trichotomy q.num 0 with h|h|h
 ·exact .inl (a0j h)
 ·exact .inr (.inl (by rw[h];rfl))
 ·exact .inr (.inr (a0d h))
theorem Vm (w:World):Cb w false none 0 0 0 1:=⟨vU w,Ff⟩
theorem CU [Ol] (z:Int) {m:Bool} {ao:Option Addr} {n cap:Nat} {k:Bool} {bo:Option Addr} {l cb:Nat} {x d:Int} {q:Rat} {j:Nat} {w:World} (hx:Rx w m ao n cap k bo l cb x d q j) (hj:1<=j) (h:qs q=z):
  Calls Tryz.prog 42 #[.agg #[.bool m,a0b ao n cap,.bool k,a0b bo l cb]] w (cu (.int .i64 z) w):=by
 have hv:=Vl hx.val;obtain⟨s,hs⟩:∃s,x.sign=s:=⟨_,rfl⟩;obtain⟨t,ht⟩:∃t,(dn d).sign=t:=⟨_,rfl⟩
 have e1:IntKind.i64.wrap (s*t)=z:=by
  rw[<-hs,<-ht,hv,h,<-h];rcases GQ q with h2|h2|h2<;>rw[h2]<;>rfl
 have HS:=hid hs;have HT:=hid ht;clear hs ht hv h;go_enter Tryz.func42,Tryz.ntmps42;have S0:=hid (Sx.start (w:=w) (N:=[.rx m ao n cap k bo l cb x d q j]) ⟨hx,trivial⟩);clear hx;have S1:=hid (S0.out.var (w.heap.size) [.bool m,a0b ao n cap,.bool k,a0b bo l cb] 31 (by simp));clear S0;go_upto_region 1 with(fail)
 refine aj (λw1 hW=>?_);rw[<-hW]at S1;clear hW;have S2:=hid (S1.out.drew);clear S1;refine wp_region_held_drew (S:=λw'=>(w'.cell? ⟨(w.heap.size),0,none⟩=some (.bool m)/\ w'.cell? ⟨(w.heap.size),1,none⟩=some (a0b ao n cap)/\ w'.cell? ⟨(w.heap.size),2,none⟩=some (.bool k)/\ w'.cell? ⟨(w.heap.size),3,none⟩=some (a0b bo l cb))) (by kernel_rfl) ((S2.out.b.c4)) (λhH=>?_);refine ai (λw2 hW=>?_);rw[<-hW]at S2 hH;clear hW;refine aQ 0 hH ?_;try simp only[ax]
 refine aQ 1 hH ?_;try simp only[ax]
 refine aQ 3 hH ?_;try simp only[ax]
 refine ah 2 rfl (by kernel_rfl) (λK hK=>?_);go_simp;refine(nJ (s) S2.out.n.rx.num (HS.out)).mono ?_;rintro e w3 ⟨rfl,hB⟩;have S3:=hid ((S2.out.step hB));clear S2 hB;go_wp2_with fail;refine hK.out _ _ (S3.out.b.c4) (λh2=>?_);clear hK K hH;have hH:=h2;clear h2
 try simp only[ax]
 refine ah 4 rfl (by kernel_rfl) (λK hK=>?_);go_simp;refine(gq S3.out.n.rx).mono ?_;rintro e w4 ⟨aS,aT,aU,aV,rfl,hX,hB⟩;have S4:=hid (((S3.out.step hB).nb ⟨hX,jc S3.out.n.rx.bd (by omega)⟩ rfl));clear S3 hX hB;go_wp2_with fail;refine hK.out _ _ (S4.out.b.c4) (λh2=>?_);clear hK K hH;have hH:=h2;clear h2
 try simp only[ax]
 refine ah 5 rfl (by kernel_rfl) (λK hK=>?_);go_simp;refine(nJ (t) S4.out.n.nb.nx (HT.out)).mono ?_;rintro e w5 ⟨rfl,hB⟩;have S5:=hid ((S4.out.step hB));clear S4 hB;go_wp2_with fail;refine hK.out _ _ (S5.out.b.c4) (λh2=>?_);clear hK K hH;have hH:=h2;clear h2
 try simp only[ax]
 refine aQ 6 hH ?_;try simp only[ax]
 refine aQ 7 hH ?_;try simp only[ax]
 refine wpAnyH_done (by kernel_rfl) ?_ _
 clear hH;go_wp2_with fail;go_ret;exact⟨rfl,S5.out.h⟩
theorem RS [Ol] {m:Bool} {ao:Option Addr} {n cap:Nat} {k:Bool} {bo:Option Addr} {l cb:Nat} {m2:Bool} {a2:Option Addr} {n2 c2:Nat} {k2:Bool} {b2:Option Addr} {l2 d2:Nat} {x d y c:Int} {q r:Rat} {j i:Nat} {w:World} (hx:Rx w m ao n cap k bo l cb x d q j) (hy:Rx w m2 a2 n2 c2 k2 b2 l2 d2 y c r i) (hj:1<=j) (hi:1<=i) (hk:j+i+1<=100000):
  Calls Tryz.prog 28 #[.agg #[.bool m,a0b ao n cap,.bool k,a0b bo l cb],.agg #[.bool m2,a0b a2 n2 c2,.bool k2,a0b b2 l2 d2]] w (EC w (q+r) (j+i+1)):=by
 have HV:=hid (YK hx.val hy.val);go_enter Tryz.func28,Tryz.ntmps28;have S0:=hid (Sx.start (w:=w) (N:=[.rx m ao n cap k bo l cb x d q j,.rx m2 a2 n2 c2 k2 b2 l2 d2 y c r i]) ⟨hx,hy,trivial⟩);clear hx hy;have S1:=hid (S0.out.var (w.heap.size) [.bool m,a0b ao n cap,.bool k,a0b bo l cb] 31 (by simp));clear S0;have S2:=hid (S1.out.var (w.heap.size+1) [.bool m2,a0b a2 n2 c2,.bool k2,a0b b2 l2 d2] 31 (by simp));clear S1;have S3:=hid (S2.out.var (w.heap.size+2) [.bool false,a0b none 0 0,.bool false,a0b none 0 0] 31 (by simp));clear S2;go_upto_region 1 with(fail)
 refine aj (λw1 hW=>?_);rw[<-hW]at S3;clear hW;obtain⟨bW,bX,dB,dD⟩:=S3.out.b.t.t.c4;obtain⟨bP,bQ,l8,l9⟩:=S3.out.b.t.c4;go_wp2_with fail;clear bW bX dB dD bP bQ l8 l9;refine(Vk S3.out.n.rx S3.out.n.t.rx (by omega) (by omega)).mono ?_;rintro e w2 ⟨p0,p1,p2,p3,u_m,u_0,u_n,u_c,u_k,u_1,u_l,u_d,rfl,hC0,hC1,hC2,hC3,hN1,hN2,hB⟩;have S4:=hid ((S3.out.step hB));clear S3 hB;go_wp2_with fail;refine(RQ S4.out.n.rx S4.out.n.t.rx hC0 hC1 hC2 hC3 hN1 hN2 (by omega)).mono ?_;rintro e w3 ⟨aS,aT,aU,aV,ED,EF,EG,EH,rfl,hX,hY,hB⟩;have S5:=hid ((((S4.out.step hB).cb hY rfl).cb hX rfl));clear S4 hX hY hB hC0 hC1 hC2 hC3 hN1 hN2;go_wp2_with fail;refine(AY (⟨S5.out.n.cb.cx.nx,S5.out.n.t.cb.cx.nx,HV.out,S5.out.n.cb.bd.mono (by omega),S5.out.n.t.cb.bd.mono (by omega)⟩:Rx _ _ _ _ _ _ _ _ _ _ _ (q+r) (j+i+1)) (by omega) (by omega)).mono ?_;rintro e w4 ⟨bH,bI,bJ,bK,GJ,GK,GL,GN,rfl,hX,hB⟩;have S6:=hid (((S5.out.step hB).rc hX rfl));clear S5 hX hB;obtain⟨bM,bN,j4,j5⟩:=S6.out.b.c4;obtain⟨eP,eT,oH,oI⟩:=S6.out.b.f4;go_wp2_with fail;have S7:Hid (Sx w _ [⟨(w.heap.size+2),[.bool bH,a0b bI bJ bK,.bool GJ,a0b GK GL GN]⟩,⟨(w.heap.size+1),[.bool m2,a0b a2 n2 c2,.bool k2,a0b b2 l2 d2]⟩,⟨(w.heap.size),[.bool m,a0b ao n cap,.bool k,a0b bo l cb]⟩] _):=hid (Sx.set [] [⟨(w.heap.size+1),[.bool m2,a0b a2 n2 c2,.bool k2,a0b b2 l2 d2]⟩,⟨(w.heap.size),[.bool m,a0b ao n cap,.bool k,a0b bo l cb]⟩] (Sx.set [] [⟨(w.heap.size+1),[.bool m2,a0b a2 n2 c2,.bool k2,a0b b2 l2 d2]⟩,⟨(w.heap.size),[.bool m,a0b ao n cap,.bool k,a0b bo l cb]⟩] (Sx.set [] [⟨(w.heap.size+1),[.bool m2,a0b a2 n2 c2,.bool k2,a0b b2 l2 d2]⟩,⟨(w.heap.size),[.bool m,a0b ao n cap,.bool k,a0b bo l cb]⟩] (Sx.set [] [⟨(w.heap.size+1),[.bool m2,a0b a2 n2 c2,.bool k2,a0b b2 l2 d2]⟩,⟨(w.heap.size),[.bool m,a0b ao n cap,.bool k,a0b bo l cb]⟩] S6.out 0 (.bool bH)) 1 (a0b bI bJ bK)) 2 (.bool GJ)) 3 (a0b GK GL GN));clear S6;refine bodyPost_ret (v:= .agg #[.bool bH,a0b bI bJ bK,.bool GJ,a0b GK GL GN]) (by simp[results,Tryz.results28,go_sem,bM,bN,j4,j5]) rfl ?_;exact⟨_,_,_,_,_,_,_,_,rfl,S7.out.n.rc,S7.out.h⟩
theorem AR [Ol] {m:Bool} {ao:Option Addr} {n cap:Nat} {x:Int} {j:Nat} {w:World} (hx:Nx w m ao n cap x) (hb:Bd x j) (h1:1<=j) (h2:j<=100000):
  Calls Tryz.prog 147 #[.agg #[.bool m,a0b ao n cap]] w (EC w (qv x 0) j):=by
 have hz0:=Vm w;have hxb:Nb w m ao n cap x j:=⟨hx,hb⟩;clear hx hb;go_enter Tryz.func147,Tryz.ntmps147;have S0:=hid (Sx.start (w:=w) (N:=[.nb m ao n cap x j,.cb false none 0 0 (0:Int) 1]) ⟨hxb,hz0,trivial⟩);clear hxb hz0;have S1:=hid (S0.out.var (w.heap.size) [.bool m,a0b ao n cap] 29 (by simp));clear S0;have S2:=hid (S1.out.var (w.heap.size+1) [.bool false,a0b none 0 0,.bool false,a0b none 0 0] 31 (by simp));clear S1;go_upto_region 1 with(fail)
 refine aj (λw1 hW=>?_);rw[<-hW]at S2;clear hW;obtain⟨cZ,dh⟩:=S2.out.b.t.c2;go_wp2_with fail;clear cZ dh;refine(AY (⟨S2.out.n.nb.nx,S2.out.n.t.cb.cx.nx,rfl,S2.out.n.nb.bd.mono (by omega),S2.out.n.t.cb.bd.mono (by omega)⟩:Rx _ _ _ _ _ _ _ _ _ _ _ (qv x 0) j) (by omega) (by omega)).mono ?_;rintro e w2 ⟨aS,aT,aU,aV,ED,EF,EG,EH,rfl,hX,hB⟩;have S3:=hid (((S2.out.step hB).rc hX rfl));clear S2 hX hB;obtain⟨bW,bX,dB,dD⟩:=S3.out.b.c4;obtain⟨jg,jh,jK,jL⟩:=S3.out.b.f4;go_wp2_with fail;have S4:Hid (Sx w _ [⟨(w.heap.size+1),[.bool aS,a0b aT aU aV,.bool ED,a0b EF EG EH]⟩,⟨(w.heap.size),[.bool m,a0b ao n cap]⟩] _):=hid (Sx.set [] [⟨(w.heap.size),[.bool m,a0b ao n cap]⟩] (Sx.set [] [⟨(w.heap.size),[.bool m,a0b ao n cap]⟩] (Sx.set [] [⟨(w.heap.size),[.bool m,a0b ao n cap]⟩] (Sx.set [] [⟨(w.heap.size),[.bool m,a0b ao n cap]⟩] S3.out 0 (.bool aS)) 1 (a0b aT aU aV)) 2 (.bool ED)) 3 (a0b EF EG EH));clear S3;refine bodyPost_ret (v:= .agg #[.bool aS,a0b aT aU aV,.bool ED,a0b EF EG EH]) (by simp[results,Tryz.results147,go_sem,bW,bX,dB,dD]) rfl ?_;exact⟨_,_,_,_,_,_,_,_,rfl,S4.out.n.rc,S4.out.h⟩
end
/- The contracts of ratio.Of, Small, Div. -/
section
open Go.RowKit
end
end Go.Proofs.YtmenbpmciblnlaaGreatDoor

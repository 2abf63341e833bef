/- QPlain, Rx, RatioA, RatioLow, RatioTog, RatioFld, RatioOf -/
import Derived.Test.YtmenbpmciblnlaaGreatDoorEn
import Derived.Deep.CutRange
import Derived.Test.YtmenbpmciblnlaaGreatDoorGWD
set_option maxHeartbeats 40000000
set_option maxRecDepth 100000
/- Quotients of whole numbers, in plain numbers: parts in lowest terms, signs, order (over the numbers Rat of Lean itself). -/
namespace Go.Proofs.YtmenbpmciblnlaaGreatDoor
def qv (n d:Int):Rat:=Rat.divInt n (if d=0 then 1 else d)
theorem EC {n g:Int} (h:g ∣ n):n.tdiv g=n/g:=by
 obtain⟨k,rfl⟩:=h;by_cases hg:g=0
 ·subst hg;simp
 ·rw[Int.mul_tdiv_cancel_left _ hg,Int.mul_ediv_cancel_left _ hg]
theorem nP {n d:Int} (h:0<d):(Rat.divInt n d).num=n.tdiv ((n.gcd d:Nat):Int):=by
 rw[Rat.num_divInt,Int.sign_eq_one_of_pos h,Int.one_mul,EC (Int.gcd_dvd_left _ _),Int.gcd_comm]
theorem qX {n d:Int} (h:0<d):((Rat.divInt n d).den:Int)=d.tdiv ((n.gcd d:Nat):Int):=by
 rw[Rat.den_divInt,if_neg (by omega),EC (Int.gcd_dvd_right _ _),Int.gcd_comm];have e:((d.natAbs:Nat):Int)=d:=by omega
 rw[Int.natCast_ediv,e]
theorem lY (n d:Int):Rat.divInt (-n) (-d)=Rat.divInt n d:=by
 by_cases h:d=0
 ·subst h;simp
 ·have:= @Rat.divInt_mul_right n d (-1) (by omega);simpa using this
theorem AU {n d:Int} (h:d<0):(Rat.divInt n d).num=(-n).tdiv (((-n).gcd (-d):Nat):Int):=by
 rw[<-lY,nP (by omega)]
theorem AV {n d:Int} (h:d<0):((Rat.divInt n d).den:Int)=(-d).tdiv (((-n).gcd (-d):Nat):Int):=by
 rw[<-lY,qX (by omega)]
theorem NE (n d:Int) (h:d≠0):(Rat.divInt n d).num.natAbs<=n.natAbs:=by
 have hp:∀{n d:Int},0<d->(Rat.divInt n d).num.natAbs<=n.natAbs:=by
  intro n d hd;rw[nP hd,Int.natAbs_tdiv];exact Nat.div_le_self _ _
 by_cases hd:0<d
 ·exact hp hd
 ·have:=hp (n:= -n) (d:= -d) (by omega);rw[lY,Int.natAbs_neg]at this;exact this
theorem NF (n d:Int) (h:d≠0):(Rat.divInt n d).den<=d.natAbs:=by
 rw[Rat.den_divInt,if_neg h];exact Nat.div_le_self _ _
theorem XO {n:Int} {d:Nat} (hd:0<d) (hg:n.gcd d=1):(Rat.divInt n d).num=n/\ (Rat.divInt n d).den=d:=by
 have h1:=nP (n:=n) (d:=(d:Int)) (by omega);have h2:=qX (n:=n) (d:=(d:Int)) (by omega);rw[hg]at h1 h2;simp at h1 h2;have h3:((Rat.divInt n d).den:Int)=(d:Int):=by simpa using h2
 exact⟨by simpa using h1,Int.ofNat.inj h3⟩
def qs (a:Rat):Int:=a.num.sign
end Go.Proofs.YtmenbpmciblnlaaGreatDoor
/- Quotients as values: a struct of two numbers with a sign; what calls leave that answer one. -/
namespace Go.Proofs.YtmenbpmciblnlaaGreatDoor
open Go.RowKit
def dn (d:Int):Int:=if d=0 then 1 else d
theorem lZ (d:Int):dn d≠0:=by unfold dn;split<;>omega
theorem NG {d:Int} (h:d≠0):dn d=d:=by unfold dn;rw[if_neg h]
theorem I9 {d:Int} (h:d=0):dn d=1:=by unfold dn;rw[if_pos h]
theorem lV (x d:Int):qv x d=Rat.divInt x (dn d):=rfl
theorem TA {x d:Int} (h:d≠0):qv x d=Rat.divInt x d:=by rw[lV,NG h]
theorem jy {d:Int} {j:Nat} (h:Bd d j) (hj:1<=j):Bd (dn d) j:=by
 unfold dn;split
 ·exact(show Bd 1 1 by unfold Bd;decide).mono hj
 ·exact h
theorem UI (q:Rat):(q.den:Int)≠0:=by have:=q.den_nz;omega
theorem Ja (q:Rat):qv q.num q.den=q:=by rw[TA (UI q)];exact Rat.num_divInt_den q
structure Rx (w:World) (m:Bool) (ao:Option Addr) (n cap:Nat) (k:Bool) (bo:Option Addr) (l cb:Nat) (x d:Int) (q:Rat) (j:Nat):Prop where
 num:Nx w m ao n cap x
 den:Nx w k bo l cb d
 val:qv x d=q
 bn:Bd x j
 bd:Bd d j
structure Rc (w:World) (m:Bool) (ao:Option Addr) (n cap:Nat) (k:Bool) (bo:Option Addr) (l cb:Nat) (q:Rat) (j:Nat):Prop where
 num:Cx w m ao n cap q.num
 den:Cx w k bo l cb (q.den:Int)
 bn:Bd q.num j
 bd:Bd (q.den:Int) j
structure Qx [Ol] (w:World) (m:Bool) (ao:Option Addr) (n cap:Nat) (k:Bool) (bo:Option Addr) (l cb:Nat) (x d:Int) (q:Rat) (j:Nat):Prop where
 num:Zx w m ao n cap x
 den:Zx w k bo l cb d
 nz:d≠0
 val:Rat.divInt x d=q
 bn:Bd x j
 bd:Bd d j
theorem Rc.rx {w:World} {m:Bool} {ao:Option Addr} {n cap:Nat} {k:Bool} {bo:Option Addr} {l cb:Nat} {q:Rat} {j:Nat} (h:Rc w m ao n cap k bo l cb q j):Rx w m ao n cap k bo l cb q.num q.den q j:=
 ⟨h.num.nx,h.den.nx,Ja q,h.bn,h.bd⟩
def NH (ao:Option Addr) (n:Nat) (bo:Option Addr) (l:Nat) (c:Nat):Prop:=iw ao n c∨iw bo l c
def En.rx (m:Bool) (ao:Option Addr) (n cap:Nat) (k:Bool) (bo:Option Addr) (l cb:Nat) (x d:Int) (q:Rat) (j:Nat):En:=
 ⟨fun w=>Rx w m ao n cap k bo l cb x d q j,NH ao n bo l,
  fun w w' hh h=>⟨Cw w w' (fun c hc=>hh c (.inl hc)) h.num,Cw w w' (fun c hc=>hh c (.inr hc)) h.den,h.val,h.bn,h.bd⟩,
  fun w h c hc=>hc.elim (Bt w h.num c) (Bt w h.den c)⟩
def En.rc (m:Bool) (ao:Option Addr) (n cap:Nat) (k:Bool) (bo:Option Addr) (l cb:Nat) (q:Rat) (j:Nat):En:=
 ⟨fun w=>Rc w m ao n cap k bo l cb q j,NH ao n bo l,
  fun w w' hh h=>⟨Cy w w' (fun c hc=>hh c (.inl hc)) h.num,Cy w w' (fun c hc=>hh c (.inr hc)) h.den,h.bn,h.bd⟩,
  fun w h c hc=>hc.elim (Bt w h.num.nx c) (Bt w h.den.nx c)⟩
def En.qx [Ol] (m:Bool) (ao:Option Addr) (n cap:Nat) (k:Bool) (bo:Option Addr) (l cb:Nat) (x d:Int) (q:Rat) (j:Nat):En:=
 ⟨fun w=>Qx w m ao n cap k bo l cb x d q j,NH ao n bo l,
  fun w w' hh h=>⟨Cz w w' (fun c hc=>hh c (.inl hc)) h.num,Cz w w' (fun c hc=>hh c (.inr hc)) h.den,h.nz,h.val,h.bn,h.bd⟩,
  fun w h c hc=>hc.elim (CB w h.num.zd.sl c) (CB w h.den.zd.sl c)⟩
theorem iJ.rx {w:World} {m:Bool} {ao:Option Addr} {n cap:Nat} {k:Bool} {bo:Option Addr} {l cb:Nat} {x d:Int} {q:Rat} {j:Nat} {r:List En} (h:iJ w (.rx m ao n cap k bo l cb x d q j::r)):Rx w m ao n cap k bo l cb x d q j:=h.1
theorem iJ.rc {w:World} {m:Bool} {ao:Option Addr} {n cap:Nat} {k:Bool} {bo:Option Addr} {l cb:Nat} {q:Rat} {j:Nat} {r:List En} (h:iJ w (.rc m ao n cap k bo l cb q j::r)):Rc w m ao n cap k bo l cb q j:=h.1
theorem iJ.qx [Ol] {w:World} {m:Bool} {ao:Option Addr} {n cap:Nat} {k:Bool} {bo:Option Addr} {l cb:Nat} {x d:Int} {q:Rat} {j:Nat} {r:List En} (h:iJ w (.qx m ao n cap k bo l cb x d q j::r)):Qx w m ao n cap k bo l cb x d q j:=h.1
theorem Nx.Zc {w:World} {p:Nat} {B:List Var} (hB:Vars w p B) (hp:Plain B) {m:Bool} {ao:Option Addr} {n cap:Nat} {z:Int} (h:Nx w m ao n cap z):∀v∈B,¬iw ao n v.b:=by
 obtain⟨xs,hs,hz⟩:=h.inn;exact vU hB hp hs
theorem Sx.rx {w0 w:World} {B:List Var} {N:List En} (s:Sx w0 w B N) {m:Bool} {ao:Option Addr} {n cap:Nat} {k:Bool} {bo:Option Addr} {l cb:Nat} {x d:Int} {q:Rat} {j:Nat} (h:Rx w m ao n cap k bo l cb x d q j) (hp:Plain B):Sx w0 w B (.rx m ao n cap k bo l cb x d q j::N):=
 s.add (.rx m ao n cap k bo l cb x d q j) h (fun v hv hc=>hc.elim (h.num.Zc s.b hp v hv) (h.den.Zc s.b hp v hv))
theorem Sx.rc {w0 w:World} {B:List Var} {N:List En} (s:Sx w0 w B N) {m:Bool} {ao:Option Addr} {n cap:Nat} {k:Bool} {bo:Option Addr} {l cb:Nat} {q:Rat} {j:Nat} (h:Rc w m ao n cap k bo l cb q j) (hp:Plain B):Sx w0 w B (.rc m ao n cap k bo l cb q j::N):=
 s.add (.rc m ao n cap k bo l cb q j) h (fun v hv hc=>hc.elim (h.num.nx.Zc s.b hp v hv) (h.den.nx.Zc s.b hp v hv))
theorem Sx.qx [Ol] {w0 w:World} {B:List Var} {N:List En} (s:Sx w0 w B N) {m:Bool} {ao:Option Addr} {n cap:Nat} {k:Bool} {bo:Option Addr} {l cb:Nat} {x d:Int} {q:Rat} {j:Nat} (h:Qx w m ao n cap k bo l cb x d q j) (hp:Plain B):Sx w0 w B (.qx m ao n cap k bo l cb x d q j::N):=
 s.add (.qx m ao n cap k bo l cb x d q j) h (fun v hv hc=>hc.elim (xO s.b hp h.num.zd.sl v hv) (xO s.b hp h.den.zd.sl v hv))
def Ci (w:World) (q:Rat) (j:Nat) (e:Ending) (w':World):Prop:=
 ∃m ao n cap k bo l cb,e= .returned (.agg #[.bool m,.slice ao n cap,.bool k,.slice bo l cb])/\ Rc w' m ao n cap k bo l cb q j/\ Below w.heap.size w w'
def XP (w:World) (q:Rat) (j:Nat) (er:Int) (e:Ending) (w':World):Prop:=
 ∃m ao n cap k bo l cb,e= .returned (.tuple #[.agg #[.bool m,.slice ao n cap,.bool k,.slice bo l cb],.int .i64 er])/\ Rc w' m ao n cap k bo l cb q j/\ Below w.heap.size w w'
def I7 (w:World) (x d:Int) (j:Nat) (e:Ending) (w':World):Prop:=
 ∃m ao n cap k bo l cb,e= .returned (.agg #[.bool m,.slice ao n cap,.bool k,.slice bo l cb])/\ Cb w' m ao n cap x j/\ Cb w' k bo l cb d j/\ Below w.heap.size w w'
def ZM [Ol] (w:World) (x d:Int) (q:Rat) (j:Nat) (e:Ending) (w':World):Prop:=
 ∃m ao n cap k bo l cb,e= .returned (.agg #[.bool m,.slice ao n cap,.bool k,.slice bo l cb])/\ Qx w' m ao n cap k bo l cb x d q j/\ Below w.heap.size w w'
def UJ (w:World) (z:Int) (e:Ending) (w':World):Prop:=
 ∃m ao n cap,e= .returned (.agg #[.bool m,.slice ao n cap])/\ Nx w' m ao n cap z/\ Below w.heap.size w w'
theorem yE {x d:Int} {j:Nat} (hx:Bd x j) (hd:d≠0):Bd (Rat.divInt x d).num j:=Nat.lt_of_le_of_lt (NE x d hd) hx
theorem yF {x d:Int} {j:Nat} (h:Bd d j) (hd:d≠0):Bd ((Rat.divInt x d).den:Int) j:=by
 have:=NF x d hd;unfold Bd at*
 rw[Int.natAbs_natCast];omega
theorem Rc.mono {w:World} {m:Bool} {ao:Option Addr} {n cap:Nat} {k:Bool} {bo:Option Addr} {l cb:Nat} {q:Rat} {i j:Nat} (h:Rc w m ao n cap k bo l cb q i) (hj:i<=j):Rc w m ao n cap k bo l cb q j:=
 ⟨h.num,h.den,h.bn.mono hj,h.bd.mono hj⟩
end Go.Proofs.YtmenbpmciblnlaaGreatDoor
/- The contracts of ratio.isOne and ratio.denominator. -/
namespace Go.Proofs.YtmenbpmciblnlaaGreatDoor
open Lib (hid)
open Go.RowKit
theorem Bd.XV {x y:Int} {i j k:Nat} (h:Bd x i) (h':Bd y j) (hi:i+1<=k) (hj:j+1<=k):Bd (x+y) k:=(h.mono (show i<=k-1 by omega)).add (h'.mono (show j<=k-1 by omega)) (by omega)
theorem yG {x d:Int} {j:Nat} (h:Bd d j) (h0:d≠0):Bd ((Int.gcd x d:Nat):Int) j:=by
 unfold Bd at*
 rw[Int.natAbs_natCast];have h1:Int.gcd x d ∣ d.natAbs:=Nat.gcd_dvd_right _ _;have:=Nat.le_of_dvd (by omega) h1;omega
theorem NI [Ol] {m:Bool} {ao:Option Addr} {n cap:Nat} {k:Bool} {bo:Option Addr} {l cb:Nat} {x d:Int} {q:Rat} {j:Nat} {w:World} (hx:Rx w m ao n cap k bo l cb x d q j) (h:d≠0):
  Calls Tryz.prog 80 #[.agg #[.bool m,.slice ao n cap,.bool k,.slice bo l cb]] w (UJ w (dn d)):=by
 obtain⟨s,hs⟩:∃s,d.sign=s:=⟨_,rfl⟩;have e1:(s==0)=false:=by rw[<-hs];simp[Int.sign_eq_zero_iff_zero];exact h
 have HS:=hid hs;have H0:=hid h;clear hs h;go_enter Tryz.func80,Tryz.ntmps80;have S0:=hid (Sx.start (w:=w) (N:=[.rx m ao n cap k bo l cb x d q j]) ⟨hx,trivial⟩);clear hx;have S1:=hid (S0.out.var (w.heap.size) [.bool m,.slice ao n cap,.bool k,.slice bo l cb] 31 (by simp));clear S0;have S2:=hid (S1.out.var (w.heap.size+1) [.bool false,.slice none 0 0] 29 (by simp));clear S1;go_upto_region 1 with(fail)
 refine aj (fun w1 hW=>?_);rw[<-hW]at S2;clear hW;obtain⟨dz,dA,eX,eY⟩:=S2.out.b.t.c4;go_wp2_with fail;clear dz dA eX eY;refine(qw (s) S2.out.n.rx.den (HS.out)).mono ?_;rintro e w2 ⟨rfl,hB⟩;have S3:=hid ((S2.out.step hB));clear S2 hB;obtain⟨dz,dA,eX,eY⟩:=S3.out.b.t.c4;obtain⟨dD,dF⟩:=S3.out.b.c2;obtain⟨lM,lN⟩:=S3.out.b.f2;go_wp2_with fail;have S4:Hid (Sx w _ [⟨(w.heap.size+1),[.bool k,.slice bo l cb]⟩,⟨(w.heap.size),[.bool m,.slice ao n cap,.bool k,.slice bo l cb]⟩] _):=hid (Sx.set [] [⟨(w.heap.size),[.bool m,.slice ao n cap,.bool k,.slice bo l cb]⟩] (Sx.set [] [⟨(w.heap.size),[.bool m,.slice ao n cap,.bool k,.slice bo l cb]⟩] S3.out 0 (.bool k)) 1 (.slice bo l cb));clear S3;refine bodyPost_ret (v:= .agg #[.bool k,.slice bo l cb]) (by simp[results,Tryz.results80,go_sem,dD,dF]) rfl ?_;exact⟨_,_,_,_,rfl,(by rw[NG H0.out];exact S4.out.n.rx.den),S4.out.h⟩
theorem NJ [Ol] {m:Bool} {ao:Option Addr} {n cap:Nat} {k:Bool} {bo:Option Addr} {l cb:Nat} {x d:Int} {q:Rat} {j:Nat} {w:World} (hx:Rx w m ao n cap k bo l cb x d q j) (h:d=0):
  Calls Tryz.prog 80 #[.agg #[.bool m,.slice ao n cap,.bool k,.slice bo l cb]] w (UJ w (dn d)):=by
 obtain⟨s,hs⟩:∃s,d.sign=s:=⟨_,rfl⟩;have e1:(s==0)=true:=by rw[<-hs];simp[Int.sign_eq_zero_iff_zero];exact h
 have HS:=hid hs;have H0:=hid h;clear hs h;go_enter Tryz.func80,Tryz.ntmps80;have S0:=hid (Sx.start (w:=w) (N:=[.rx m ao n cap k bo l cb x d q j]) ⟨hx,trivial⟩);clear hx;have S1:=hid (S0.out.var (w.heap.size) [.bool m,.slice ao n cap,.bool k,.slice bo l cb] 31 (by simp));clear S0;have S2:=hid (S1.out.var (w.heap.size+1) [.bool false,.slice none 0 0] 29 (by simp));clear S1;go_upto_region 1 with(fail)
 refine aj (fun w1 hW=>?_);rw[<-hW]at S2;clear hW;obtain⟨dz,dA,eX,eY⟩:=S2.out.b.t.c4;go_wp2_with fail;clear dz dA eX eY;refine(qw (s) S2.out.n.rx.den (HS.out)).mono ?_;rintro e w2 ⟨rfl,hB⟩;have S3:=hid ((S2.out.step hB));clear S2 hB;go_wp2_with fail;refine(uf (1) _ ⟨by omega,by omega⟩).mono ?_;rintro e w3 ⟨aX,aY,aZ,bf,rfl,hX,hB⟩;have S4:=hid (((S3.out.step hB).cb (hX.cb (show Bd (1:Int) 1 by unfold Bd;decide) (by omega)) rfl));clear S3 hX hB;obtain⟨dD,dF⟩:=S4.out.b.c2;obtain⟨lM,lN⟩:=S4.out.b.f2;go_wp2_with fail;have S5:Hid (Sx w _ [⟨(w.heap.size+1),[.bool aX,.slice aY aZ bf]⟩,⟨(w.heap.size),[.bool m,.slice ao n cap,.bool k,.slice bo l cb]⟩] _):=hid (Sx.set [] [⟨(w.heap.size),[.bool m,.slice ao n cap,.bool k,.slice bo l cb]⟩] (Sx.set [] [⟨(w.heap.size),[.bool m,.slice ao n cap,.bool k,.slice bo l cb]⟩] S4.out 0 (.bool aX)) 1 (.slice aY aZ bf));clear S4;refine bodyPost_ret (v:= .agg #[.bool aX,.slice aY aZ bf]) (by simp[results,Tryz.results80,go_sem,dD,dF]) rfl ?_;exact⟨_,_,_,_,rfl,(by rw[I9 H0.out];exact S5.out.n.cb.cx.nx),S5.out.h⟩
theorem gy [Ol] {m:Bool} {ao:Option Addr} {n cap:Nat} {k:Bool} {bo:Option Addr} {l cb:Nat} {x d:Int} {q:Rat} {j:Nat} {w:World} (hx:Rx w m ao n cap k bo l cb x d q j):
  Calls Tryz.prog 80 #[.agg #[.bool m,.slice ao n cap,.bool k,.slice bo l cb]] w (UJ w (dn d)):=by
 by_cases h:d=0
 ·exact NJ hx h
 ·exact NI hx h
end Go.Proofs.YtmenbpmciblnlaaGreatDoor
/- The contract of ratio.lowest. -/
namespace Go.Proofs.YtmenbpmciblnlaaGreatDoor
open Lib (hid)
open Go.RowKit
theorem He [Ol] {m:Bool} {ao:Option Addr} {n cap:Nat} {k:Bool} {bo:Option Addr} {l cb:Nat} {x d:Int} {q:Rat} {j:Nat} {w:World} (hx:Rx w m ao n cap k bo l cb x d q j) (h1:1<=j) (h2:j<=100000) (hp:0<dn d):
  Calls Tryz.prog 76 #[.agg #[.bool m,.slice ao n cap,.bool k,.slice bo l cb]] w (Ci w q j):=by
 have hv:=hx.val;have hbn:Bd q.num j:=by rw[<-hv,lV];exact yE hx.bn (lZ d)
 have hbd:Bd (q.den:Int) j:=by rw[<-hv,lV];exact yF (jy hx.bd h1) (lZ d)
 have hg0:((Int.gcd x (dn d):Nat):Int)≠0:=by have:=Int.gcd_pos_of_ne_zero_right x (lZ d);omega
 obtain⟨g,hg⟩:∃g,((Int.gcd x (dn d):Nat):Int)=g:=⟨_,rfl⟩;have hgx:g ∣ x:=by rw[<-hg];exact Int.gcd_dvd_left _ _
 have hgd:g ∣ dn d:=by rw[<-hg];exact Int.gcd_dvd_right _ _
 rw[hg]at hg0;have HG:=hid hg;have QC:=hid hbn;have Cc:=hid hbd;obtain⟨s,hs⟩:∃s,(dn d).sign=s:=⟨_,rfl⟩;have e1:decide (s<0)=false:=by rw[<-hs];simp;omega
 have H0:=hid hg0;have HR1:=hid (Int.tmod_eq_zero_of_dvd hgx);have HR2:=hid (Int.tmod_eq_zero_of_dvd hgd);have AR:Hid (x.tdiv g=q.num):=by rw[Hid,<-hv,lV,nP hp,<-hg]
 have HE2:Hid ((dn d).tdiv g=(q.den:Int)):=by rw[Hid,<-hv,lV,qX hp,<-hg]
 have HS:=hid hs;clear hs hv hbn hbd hg0 hg hgx hgd hp;go_enter Tryz.func76,Tryz.ntmps76;have S0:=hid (Sx.start (w:=w) (N:=[.rx m ao n cap k bo l cb x d q j]) ⟨hx,trivial⟩);clear hx;have S1:=hid (S0.out.var (w.heap.size) [.bool m,.slice ao n cap,.bool k,.slice bo l cb] 31 (by simp));clear S0;have S2:=hid (S1.out.var (w.heap.size+1) [.bool false,.slice none 0 0,.bool false,.slice none 0 0] 31 (by simp));clear S1;go_upto_region 1 with(fail)
 refine aj (fun w1 hW=>?_);rw[<-hW]at S2;clear hW;obtain⟨dz,dA,eX,eY⟩:=S2.out.b.t.c4;go_wp2_with fail;clear dz dA eX eY;refine(gy S2.out.n.rx).mono ?_;rintro e w2 ⟨aX,aY,aZ,bf,rfl,hX,hB⟩;have S3:=hid (((S2.out.step hB).nb ⟨hX,jy S2.out.n.rx.bd (by omega)⟩ rfl));clear S2 hX hB;go_upto_region 2 with(fail)
 have S4:=hid (S3.out.var (w2.heap.size) [.bool aX,.slice aY aZ bf] 29 (by simp));clear S3;refine aj (fun w3 hW=>?_);rw[<-hW]at S4;clear hW;obtain⟨dz,dA,eX,eY⟩:=S4.out.b.t.t.c4;obtain⟨bN,bO⟩:=S4.out.b.c2;go_wp2_with fail;clear dz dA eX eY bN bO;refine(ze S4.out.n.t.rx.num S4.out.n.nb.nx).mono ?_;rintro e w4 ⟨bP,bQ,bR,bS,rfl,hX,hB⟩;rw[HG.out]at hX;have S5:=hid (((S4.out.step hB).cb (hX.cb (HG.out▸yG S4.out.n.nb.bd (lZ d)) (by omega)) rfl));clear S4 hX hB;go_upto_region 3 with(fail)
 have S6:=hid (S5.out.var (w4.heap.size) [.bool bP,.slice bQ bR bS] 29 (by simp));clear S5;refine aj (fun w5 hW=>?_);rw[<-hW]at S6;clear hW;obtain⟨bN,bO⟩:=S6.out.b.t.c2;go_wp2_with fail;clear bN bO;refine(qw (s) S6.out.n.t.nb.nx (HS.out)).mono ?_;rintro e w6 ⟨rfl,hB⟩;have S7:=hid ((S6.out.step hB));clear S6 hB;obtain⟨dz,dA,eX,eY⟩:=S7.out.b.t.t.t.c4;obtain⟨bK,bL⟩:=S7.out.b.c2;go_wp2_with fail;clear dz dA eX eY bK bL;refine(j6 S7.out.n.t.t.rx.num S7.out.n.cb.cx.nx (H0.out) (HR1.out)).mono ?_;rintro e w7 ⟨dS,dU,dV,dW,rfl,hX,hB⟩;rw[AR.out]at hX;have S8:=hid (((S7.out.step hB).cb (hX.cb (QC.out) (by omega)) rfl));clear S7 hX hB;obtain⟨dz,dA,eX,eY⟩:=S8.out.b.t.t.t.c4;obtain⟨sV,sW,sZ,tu⟩:=S8.out.b.t.t.t.f4;go_upto_region 6 with(fail)
 clear dz dA eX eY sV sW sZ tu;have S9:Hid (Sx w _ [⟨(w4.heap.size),[.bool bP,.slice bQ bR bS]⟩,⟨(w2.heap.size),[.bool aX,.slice aY aZ bf]⟩,⟨(w.heap.size+1),[.bool false,.slice none 0 0,.bool false,.slice none 0 0]⟩,⟨(w.heap.size),[.bool dS,.slice dU dV dW,.bool k,.slice bo l cb]⟩] _):=hid (Sx.set [⟨(w4.heap.size),[.bool bP,.slice bQ bR bS]⟩,⟨(w2.heap.size),[.bool aX,.slice aY aZ bf]⟩,⟨(w.heap.size+1),[.bool false,.slice none 0 0,.bool false,.slice none 0 0]⟩] [] (Sx.set [⟨(w4.heap.size),[.bool bP,.slice bQ bR bS]⟩,⟨(w2.heap.size),[.bool aX,.slice aY aZ bf]⟩,⟨(w.heap.size+1),[.bool false,.slice none 0 0,.bool false,.slice none 0 0]⟩] [] S8.out 0 (.bool dS)) 1 (.slice dU dV dW));clear S8;refine aj (fun w8 hW=>?_);rw[<-hW]at S9;clear hW;obtain⟨bN,bO⟩:=S9.out.b.t.c2;obtain⟨bK,bL⟩:=S9.out.b.c2;go_wp2_with fail;clear bN bO bK bL;refine(j6 S9.out.n.t.t.nb.nx S9.out.n.t.cb.cx.nx (H0.out) (HR2.out)).mono ?_;rintro e w9 ⟨fD,fE,fF,fG,rfl,hX,hB⟩;rw[HE2.out]at hX;have pR:=hid (((S9.out.step hB).cb (hX.cb (Cc.out) (by omega)) rfl));clear S9 hX hB;obtain⟨dz,dA,eX,eY⟩:=pR.out.b.t.t.t.c4;obtain⟨sV,sW,sZ,tu⟩:=pR.out.b.t.t.t.f4;go_upto_region 7 with(fail)
 clear dz dA eX eY sV sW sZ tu;have oH:Hid (Sx w _ [⟨(w4.heap.size),[.bool bP,.slice bQ bR bS]⟩,⟨(w2.heap.size),[.bool aX,.slice aY aZ bf]⟩,⟨(w.heap.size+1),[.bool false,.slice none 0 0,.bool false,.slice none 0 0]⟩,⟨(w.heap.size),[.bool dS,.slice dU dV dW,.bool fD,.slice fE fF fG]⟩] _):=hid (Sx.set [⟨(w4.heap.size),[.bool bP,.slice bQ bR bS]⟩,⟨(w2.heap.size),[.bool aX,.slice aY aZ bf]⟩,⟨(w.heap.size+1),[.bool false,.slice none 0 0,.bool false,.slice none 0 0]⟩] [] (Sx.set [⟨(w4.heap.size),[.bool bP,.slice bQ bR bS]⟩,⟨(w2.heap.size),[.bool aX,.slice aY aZ bf]⟩,⟨(w.heap.size+1),[.bool false,.slice none 0 0,.bool false,.slice none 0 0]⟩] [] pR.out 2 (.bool fD)) 3 (.slice fE fF fG));clear pR;refine aj (fun Ue hW=>?_);rw[<-hW]at oH;clear hW;obtain⟨dz,dA,eX,eY⟩:=oH.out.b.t.t.t.c4;obtain⟨dD,dF,eT,eU⟩:=oH.out.b.t.t.c4;obtain⟨lM,lN,oO,oP⟩:=oH.out.b.t.t.f4;go_wp2_with fail;have qb:Hid (Sx w _ [⟨(w4.heap.size),[.bool bP,.slice bQ bR bS]⟩,⟨(w2.heap.size),[.bool aX,.slice aY aZ bf]⟩,⟨(w.heap.size+1),[.bool dS,.slice dU dV dW,.bool fD,.slice fE fF fG]⟩,⟨(w.heap.size),[.bool dS,.slice dU dV dW,.bool fD,.slice fE fF fG]⟩] _):=hid (Sx.set [⟨(w4.heap.size),[.bool bP,.slice bQ bR bS]⟩,⟨(w2.heap.size),[.bool aX,.slice aY aZ bf]⟩] [⟨(w.heap.size),[.bool dS,.slice dU dV dW,.bool fD,.slice fE fF fG]⟩] (Sx.set [⟨(w4.heap.size),[.bool bP,.slice bQ bR bS]⟩,⟨(w2.heap.size),[.bool aX,.slice aY aZ bf]⟩] [⟨(w.heap.size),[.bool dS,.slice dU dV dW,.bool fD,.slice fE fF fG]⟩] (Sx.set [⟨(w4.heap.size),[.bool bP,.slice bQ bR bS]⟩,⟨(w2.heap.size),[.bool aX,.slice aY aZ bf]⟩] [⟨(w.heap.size),[.bool dS,.slice dU dV dW,.bool fD,.slice fE fF fG]⟩] (Sx.set [⟨(w4.heap.size),[.bool bP,.slice bQ bR bS]⟩,⟨(w2.heap.size),[.bool aX,.slice aY aZ bf]⟩] [⟨(w.heap.size),[.bool dS,.slice dU dV dW,.bool fD,.slice fE fF fG]⟩] oH.out 0 (.bool dS)) 1 (.slice dU dV dW)) 2 (.bool fD)) 3 (.slice fE fF fG));clear oH;refine bodyPost_ret (v:= .agg #[.bool dS,.slice dU dV dW,.bool fD,.slice fE fF fG]) (by simp[results,Tryz.results76,go_sem,dD,dF,eT,eU]) rfl ?_
 exact⟨_,_,_,_,_,_,_,_,rfl,⟨qb.out.n.t.cb.cx,qb.out.n.cb.cx,qb.out.n.t.cb.bd,qb.out.n.cb.bd⟩,qb.out.h⟩
theorem Hf [Ol] {m:Bool} {ao:Option Addr} {n cap:Nat} {k:Bool} {bo:Option Addr} {l cb:Nat} {x d:Int} {q:Rat} {j:Nat} {w:World} (hx:Rx w m ao n cap k bo l cb x d q j) (h1:1<=j) (h2:j<=100000) (hp:dn d<0):
  Calls Tryz.prog 76 #[.agg #[.bool m,.slice ao n cap,.bool k,.slice bo l cb]] w (Ci w q j):=by
 have hv:=hx.val;have hbn:Bd q.num j:=by rw[<-hv,lV];exact yE hx.bn (lZ d)
 have hbd:Bd (q.den:Int) j:=by rw[<-hv,lV];exact yF (jy hx.bd h1) (lZ d)
 have hg0:((Int.gcd x (dn d):Nat):Int)≠0:=by have:=Int.gcd_pos_of_ne_zero_right x (lZ d);omega
 obtain⟨g,hg⟩:∃g,((Int.gcd x (dn d):Nat):Int)=g:=⟨_,rfl⟩;have hgx:g ∣ x:=by rw[<-hg];exact Int.gcd_dvd_left _ _
 have hgd:g ∣ dn d:=by rw[<-hg];exact Int.gcd_dvd_right _ _
 rw[hg]at hg0;have HG:=hid hg;have QC:=hid hbn;have Cc:=hid hbd;obtain⟨s,hs⟩:∃s,(dn d).sign=s:=⟨_,rfl⟩;have e1:decide (s<0)=true:=by rw[<-hs];simp;omega
 have H0:Hid (-g≠0):=by show-g≠0;omega
 have HR1:Hid (x.tmod (-g)=0):=by rw[Hid,Int.tmod_neg];exact Int.tmod_eq_zero_of_dvd hgx
 have HR2:Hid ((dn d).tmod (-g)=0):=by rw[Hid,Int.tmod_neg];exact Int.tmod_eq_zero_of_dvd hgd
 have AR:Hid (x.tdiv (-g)=q.num):=by rw[Hid,<-hv,lV,AU hp,<-hg,Int.neg_gcd,Int.gcd_neg,Int.tdiv_neg,Int.neg_tdiv]
 have HE2:Hid ((dn d).tdiv (-g)=(q.den:Int)):=by rw[Hid,<-hv,lV,AV hp,<-hg,Int.neg_gcd,Int.gcd_neg,Int.tdiv_neg,Int.neg_tdiv]
 have HS:=hid hs;clear hs hv hbn hbd hg0 hg hgx hgd hp;go_enter Tryz.func76,Tryz.ntmps76;have S0:=hid (Sx.start (w:=w) (N:=[.rx m ao n cap k bo l cb x d q j]) ⟨hx,trivial⟩);clear hx;have S1:=hid (S0.out.var (w.heap.size) [.bool m,.slice ao n cap,.bool k,.slice bo l cb] 31 (by simp));clear S0;have S2:=hid (S1.out.var (w.heap.size+1) [.bool false,.slice none 0 0,.bool false,.slice none 0 0] 31 (by simp));clear S1;go_upto_region 1 with(fail)
 refine aj (fun w1 hW=>?_);rw[<-hW]at S2;clear hW;obtain⟨dz,dA,eX,eY⟩:=S2.out.b.t.c4;go_wp2_with fail;clear dz dA eX eY;refine(gy S2.out.n.rx).mono ?_;rintro e w2 ⟨aX,aY,aZ,bf,rfl,hX,hB⟩;have S3:=hid (((S2.out.step hB).nb ⟨hX,jy S2.out.n.rx.bd (by omega)⟩ rfl));clear S2 hX hB;go_upto_region 2 with(fail)
 have S4:=hid (S3.out.var (w2.heap.size) [.bool aX,.slice aY aZ bf] 29 (by simp));clear S3;refine aj (fun w3 hW=>?_);rw[<-hW]at S4;clear hW;obtain⟨dz,dA,eX,eY⟩:=S4.out.b.t.t.c4;obtain⟨bN,bO⟩:=S4.out.b.c2;go_wp2_with fail;clear dz dA eX eY bN bO;refine(ze S4.out.n.t.rx.num S4.out.n.nb.nx).mono ?_;rintro e w4 ⟨bP,bQ,bR,bS,rfl,hX,hB⟩;rw[HG.out]at hX;have S5:=hid (((S4.out.step hB).cb (hX.cb (HG.out▸yG S4.out.n.nb.bd (lZ d)) (by omega)) rfl));clear S4 hX hB;go_upto_region 3 with(fail)
 have S6:=hid (S5.out.var (w4.heap.size) [.bool bP,.slice bQ bR bS] 29 (by simp));clear S5;refine aj (fun w5 hW=>?_);rw[<-hW]at S6;clear hW;obtain⟨bN,bO⟩:=S6.out.b.t.c2;go_wp2_with fail;clear bN bO;refine(qw (s) S6.out.n.t.nb.nx (HS.out)).mono ?_;rintro e w6 ⟨rfl,hB⟩;have S7:=hid ((S6.out.step hB));clear S6 hB;obtain⟨bK,bL⟩:=S7.out.b.c2;go_wp2_with fail;clear bK bL;refine(DY S7.out.n.cb.cx.nx).mono ?_;rintro e w7 ⟨dS,dU,dV,dW,rfl,hX,hB⟩;have S8:=hid (((S7.out.step hB).cb (hX.cb (S7.out.n.cb.bd.neg) (by omega)) rfl));clear S7 hX hB;obtain⟨bK,bL⟩:=S8.out.b.c2;obtain⟨fB,fC⟩:=S8.out.b.f2;go_upto_region 5 with(fail)
 clear bK bL fB fC;have S9:Hid (Sx w _ [⟨(w4.heap.size),[.bool dS,.slice dU dV dW]⟩,⟨(w2.heap.size),[.bool aX,.slice aY aZ bf]⟩,⟨(w.heap.size+1),[.bool false,.slice none 0 0,.bool false,.slice none 0 0]⟩,⟨(w.heap.size),[.bool m,.slice ao n cap,.bool k,.slice bo l cb]⟩] _):=hid (Sx.set [] [⟨(w2.heap.size),[.bool aX,.slice aY aZ bf]⟩,⟨(w.heap.size+1),[.bool false,.slice none 0 0,.bool false,.slice none 0 0]⟩,⟨(w.heap.size),[.bool m,.slice ao n cap,.bool k,.slice bo l cb]⟩] (Sx.set [] [⟨(w2.heap.size),[.bool aX,.slice aY aZ bf]⟩,⟨(w.heap.size+1),[.bool false,.slice none 0 0,.bool false,.slice none 0 0]⟩,⟨(w.heap.size),[.bool m,.slice ao n cap,.bool k,.slice bo l cb]⟩] S8.out 0 (.bool dS)) 1 (.slice dU dV dW));clear S8;refine aj (fun w8 hW=>?_);rw[<-hW]at S9;clear hW;obtain⟨dz,dA,eX,eY⟩:=S9.out.b.t.t.t.c4;obtain⟨bK,bL⟩:=S9.out.b.c2;go_wp2_with fail;clear dz dA eX eY bK bL;refine(j6 S9.out.n.t.t.t.rx.num S9.out.n.cb.cx.nx (H0.out) (HR1.out)).mono ?_;rintro e w9 ⟨fD,fE,fF,fG,rfl,hX,hB⟩;rw[AR.out]at hX;have pR:=hid (((S9.out.step hB).cb (hX.cb (QC.out) (by omega)) rfl));clear S9 hX hB;obtain⟨dz,dA,eX,eY⟩:=pR.out.b.t.t.t.c4;obtain⟨sV,sW,sZ,tu⟩:=pR.out.b.t.t.t.f4;go_upto_region 6 with(fail)
 clear dz dA eX eY sV sW sZ tu;have oH:Hid (Sx w _ [⟨(w4.heap.size),[.bool dS,.slice dU dV dW]⟩,⟨(w2.heap.size),[.bool aX,.slice aY aZ bf]⟩,⟨(w.heap.size+1),[.bool false,.slice none 0 0,.bool false,.slice none 0 0]⟩,⟨(w.heap.size),[.bool fD,.slice fE fF fG,.bool k,.slice bo l cb]⟩] _):=hid (Sx.set [⟨(w4.heap.size),[.bool dS,.slice dU dV dW]⟩,⟨(w2.heap.size),[.bool aX,.slice aY aZ bf]⟩,⟨(w.heap.size+1),[.bool false,.slice none 0 0,.bool false,.slice none 0 0]⟩] [] (Sx.set [⟨(w4.heap.size),[.bool dS,.slice dU dV dW]⟩,⟨(w2.heap.size),[.bool aX,.slice aY aZ bf]⟩,⟨(w.heap.size+1),[.bool false,.slice none 0 0,.bool false,.slice none 0 0]⟩] [] pR.out 0 (.bool fD)) 1 (.slice fE fF fG));clear pR;refine aj (fun Ue hW=>?_);rw[<-hW]at oH;clear hW;obtain⟨bN,bO⟩:=oH.out.b.t.c2;obtain⟨bK,bL⟩:=oH.out.b.c2;go_wp2_with fail;clear bN bO bK bL;refine(j6 oH.out.n.t.t.t.nb.nx oH.out.n.t.cb.cx.nx (H0.out) (HR2.out)).mono ?_;rintro e VL ⟨kR,kS,kT,kU,rfl,hX,hB⟩;rw[HE2.out]at hX;have qb:=hid (((oH.out.step hB).cb (hX.cb (Cc.out) (by omega)) rfl));clear oH hX hB;obtain⟨dz,dA,eX,eY⟩:=qb.out.b.t.t.t.c4;obtain⟨sV,sW,sZ,tu⟩:=qb.out.b.t.t.t.f4;go_upto_region 7 with(fail)
 clear dz dA eX eY sV sW sZ tu;have qd:Hid (Sx w _ [⟨(w4.heap.size),[.bool dS,.slice dU dV dW]⟩,⟨(w2.heap.size),[.bool aX,.slice aY aZ bf]⟩,⟨(w.heap.size+1),[.bool false,.slice none 0 0,.bool false,.slice none 0 0]⟩,⟨(w.heap.size),[.bool fD,.slice fE fF fG,.bool kR,.slice kS kT kU]⟩] _):=hid (Sx.set [⟨(w4.heap.size),[.bool dS,.slice dU dV dW]⟩,⟨(w2.heap.size),[.bool aX,.slice aY aZ bf]⟩,⟨(w.heap.size+1),[.bool false,.slice none 0 0,.bool false,.slice none 0 0]⟩] [] (Sx.set [⟨(w4.heap.size),[.bool dS,.slice dU dV dW]⟩,⟨(w2.heap.size),[.bool aX,.slice aY aZ bf]⟩,⟨(w.heap.size+1),[.bool false,.slice none 0 0,.bool false,.slice none 0 0]⟩] [] qb.out 2 (.bool kR)) 3 (.slice kS kT kU));clear qb;refine aj (fun VN hW=>?_);rw[<-hW]at qd;clear hW;obtain⟨dz,dA,eX,eY⟩:=qd.out.b.t.t.t.c4;obtain⟨dD,dF,eT,eU⟩:=qd.out.b.t.t.c4;obtain⟨lM,lN,oO,oP⟩:=qd.out.b.t.t.f4;go_wp2_with fail;have xA:Hid (Sx w _ [⟨(w4.heap.size),[.bool dS,.slice dU dV dW]⟩,⟨(w2.heap.size),[.bool aX,.slice aY aZ bf]⟩,⟨(w.heap.size+1),[.bool fD,.slice fE fF fG,.bool kR,.slice kS kT kU]⟩,⟨(w.heap.size),[.bool fD,.slice fE fF fG,.bool kR,.slice kS kT kU]⟩] _):=hid (Sx.set [⟨(w4.heap.size),[.bool dS,.slice dU dV dW]⟩,⟨(w2.heap.size),[.bool aX,.slice aY aZ bf]⟩] [⟨(w.heap.size),[.bool fD,.slice fE fF fG,.bool kR,.slice kS kT kU]⟩] (Sx.set [⟨(w4.heap.size),[.bool dS,.slice dU dV dW]⟩,⟨(w2.heap.size),[.bool aX,.slice aY aZ bf]⟩] [⟨(w.heap.size),[.bool fD,.slice fE fF fG,.bool kR,.slice kS kT kU]⟩] (Sx.set [⟨(w4.heap.size),[.bool dS,.slice dU dV dW]⟩,⟨(w2.heap.size),[.bool aX,.slice aY aZ bf]⟩] [⟨(w.heap.size),[.bool fD,.slice fE fF fG,.bool kR,.slice kS kT kU]⟩] (Sx.set [⟨(w4.heap.size),[.bool dS,.slice dU dV dW]⟩,⟨(w2.heap.size),[.bool aX,.slice aY aZ bf]⟩] [⟨(w.heap.size),[.bool fD,.slice fE fF fG,.bool kR,.slice kS kT kU]⟩] qd.out 0 (.bool fD)) 1 (.slice fE fF fG)) 2 (.bool kR)) 3 (.slice kS kT kU));clear qd;refine bodyPost_ret (v:= .agg #[.bool fD,.slice fE fF fG,.bool kR,.slice kS kT kU]) (by simp[results,Tryz.results76,go_sem,dD,dF,eT,eU]) rfl ?_
 exact⟨_,_,_,_,_,_,_,_,rfl,⟨xA.out.n.t.cb.cx,xA.out.n.cb.cx,xA.out.n.t.cb.bd,xA.out.n.cb.bd⟩,xA.out.h⟩
theorem zf [Ol] {m:Bool} {ao:Option Addr} {n cap:Nat} {k:Bool} {bo:Option Addr} {l cb:Nat} {x d:Int} {q:Rat} {j:Nat} {w:World} (hx:Rx w m ao n cap k bo l cb x d q j) (h1:1<=j) (h2:j<=100000):
  Calls Tryz.prog 76 #[.agg #[.bool m,.slice ao n cap,.bool k,.slice bo l cb]] w (Ci w q j):=by
 by_cases h:0<dn d
 ·exact He hx h1 h2 h
 ·exact Hf hx h1 h2 (by have:=lZ d;omega)
end Go.Proofs.YtmenbpmciblnlaaGreatDoor
/- The contracts of ratio.together and of the function that it answers. -/
namespace Go.Proofs.YtmenbpmciblnlaaGreatDoor
open Lib (hid)
open Go.RowKit
def UK (w:World) (m:Bool) (ao:Option Addr) (n cap:Nat) (k:Bool) (bo:Option Addr) (l cb:Nat) (m2:Bool) (a2:Option Addr) (n2 c2:Nat) (k2:Bool) (b2:Option Addr) (l2 d2:Nat) (zx zy:Int) (j i:Nat) (e:Ending) (w':World):Prop:=
 ∃p0 p1 p2 p3 u v s t u' v' s' t',e= .returned (.func (.func 128) #[] #[.pointer (some ⟨p0,0,none⟩),.pointer (some ⟨p1,0,none⟩),.pointer (some ⟨p2,0,none⟩),.pointer (some ⟨p3,0,none⟩)])/\
  Cells w' p0 [.bool m,.slice ao n cap,.bool k,.slice bo l cb]/\ Cells w' p1 [.bool u,.slice v s t]/\ Cells w' p2 [.bool m2,.slice a2 n2 c2,.bool k2,.slice b2 l2 d2]/\ Cells w' p3 [.bool u',.slice v' s' t']/\
  Nb w' u v s t zy i/\ Nb w' u' v' s' t' zx j/\ Below w.heap.size w w'
theorem Rh [Ol] {m:Bool} {ao:Option Addr} {n cap:Nat} {k:Bool} {bo:Option Addr} {l cb:Nat} {m2:Bool} {a2:Option Addr} {n2 c2:Nat} {k2:Bool} {b2:Option Addr} {l2 d2:Nat} {x d y c:Int} {q r:Rat} {j i:Nat} {w:World} (hx:Rx w m ao n cap k bo l cb x d q j) (hy:Rx w m2 a2 n2 c2 k2 b2 l2 d2 y c r i) (hj:1<=j) (hi:1<=i):
  Calls Tryz.prog 77 #[.agg #[.bool m,.slice ao n cap,.bool k,.slice bo l cb],.agg #[.bool m2,.slice a2 n2 c2,.bool k2,.slice b2 l2 d2]] w (UK w m ao n cap k bo l cb m2 a2 n2 c2 k2 b2 l2 d2 (dn d) (dn c) j i):=by
 have ZJ:∀(fn:Fn) (first cap:Array Value) (w:World),(Instr.makeFunc fn first cap).run Tryz.prog w= .ok (.func fn first cap) w:=fun _ _ _ _=>rfl
 go_enter Tryz.func77,Tryz.ntmps77;have S0:=hid (Sx.start (w:=w) (N:=[.rx m ao n cap k bo l cb x d q j,.rx m2 a2 n2 c2 k2 b2 l2 d2 y c r i]) ⟨hx,hy,trivial⟩);clear hx hy;have S1:=hid (S0.out.var (w.heap.size) [.bool m,.slice ao n cap,.bool k,.slice bo l cb] 31 (by simp));clear S0;have S2:=hid (S1.out.var (w.heap.size+1) [.bool m2,.slice a2 n2 c2,.bool k2,.slice b2 l2 d2] 31 (by simp));clear S1;go_upto_region 1 with(fail)
 refine aj (fun w1 hW=>?_);rw[<-hW]at S2;clear hW;go_cut [5,6]from 7 to 11 (fun sl0 sl1 w9=>∃(qb5:Nat) (UL:Nat) (bP:Bool) (bQ:Option Addr) (bR:Nat) (bS:Nat) (aX:Bool) (aY:Option Addr) (aZ:Nat) (bf:Nat),sl0= .pointer (some ⟨qb5,0,none⟩)/\ sl1= .pointer (some ⟨UL,0,none⟩)/\ Hid (Sx w w9 [⟨UL,[.bool bP,.slice bQ bR bS]⟩,⟨qb5,[.bool aX,.slice aY aZ bf]⟩,⟨(w.heap.size+1),[.bool m2,.slice a2 n2 c2,.bool k2,.slice b2 l2 d2]⟩,⟨(w.heap.size),[.bool m,.slice ao n cap,.bool k,.slice bo l cb]⟩] [.nb bP bQ bR bS (dn c) i,.nb aX aY aZ bf (dn d) j,.rx m ao n cap k bo l cb x d q j,.rx m2 a2 n2 c2 k2 b2 l2 d2 y c r i]))
 case first=>
  have S3:=hid (S2.out.drew);clear S2;refine wp_region_held_drew (S:=fun w'=>(w'.cell? ⟨(w.heap.size),0,none⟩=some (.bool m)/\ w'.cell? ⟨(w.heap.size),1,none⟩=some (.slice ao n cap)/\ w'.cell? ⟨(w.heap.size),2,none⟩=some (.bool k)/\ w'.cell? ⟨(w.heap.size),3,none⟩=some (.slice bo l cb))/\ (w'.cell? ⟨(w.heap.size+1),0,none⟩=some (.bool m2)/\ w'.cell? ⟨(w.heap.size+1),1,none⟩=some (.slice a2 n2 c2)/\ w'.cell? ⟨(w.heap.size+1),2,none⟩=some (.bool k2)/\ w'.cell? ⟨(w.heap.size+1),3,none⟩=some (.slice b2 l2 d2))) (by kernel_rfl) (⟨S3.out.b.t.c4,S3.out.b.c4⟩) (fun hH=>?_);refine ai (fun w2 hW=>?_);rw[<-hW]at S3 hH;clear hW;refine bC 0 hH ?_;try simp only[aI]
  refine bC 2 hH ?_;try simp only[aI]
  refine wpAnyH_ready (rs:=[1,4,5]) (by kernel_rfl) (by simp) (aO rfl (fun K hK=>?_) (aO rfl (fun K hK=>?_) (aO rfl (fun K hK=>?_) (AllReadyH.nil))))
  ·go_simp;refine(gy S3.out.n.rx).mono ?_;rintro e w3 ⟨aX,aY,aZ,bf,rfl,hX,hB⟩;have S4:=hid (((S3.out.step hB).nb ⟨hX,jy S3.out.n.rx.bd (by omega)⟩ rfl));clear S3 hX hB;go_wp2_with fail;refine hK.out _ _ ⟨S4.out.b.t.c4,S4.out.b.c4⟩ (fun h2=>?_);clear hK K hH;have hH:=h2;clear h2
   try simp only[aI]
   refine wpAnyH_ready (rs:=[3,4,5]) (by kernel_rfl) (by simp) (aO rfl (fun K hK=>?_) (aO rfl (fun K hK=>?_) (aO rfl (fun K hK=>?_) (AllReadyH.nil))))
   ·go_simp;refine(gy S4.out.n.t.t.rx).mono ?_;rintro e w4 ⟨bP,bQ,bR,bS,rfl,hX,hB⟩;have S5:=hid (((S4.out.step hB).nb ⟨hX,jy S4.out.n.t.t.rx.bd (by omega)⟩ rfl));clear S4 hX hB;go_wp2_with fail;refine hK.out _ _ ⟨S5.out.b.t.c4,S5.out.b.c4⟩ (fun h2=>?_);clear hK K hH;have hH:=h2;clear h2
    try simp only[aI]
    refine wpAnyH_ready (rs:=[4,5]) (by kernel_rfl) (by simp) (aO rfl (fun K hK=>?_) (aO rfl (fun K hK=>?_) (AllReadyH.nil)))
    ·go_simp;have S6:=hid (S5.out.var (w4.heap.size) [.bool false,.slice none 0 0] 29 (by simp));clear S5;refine hK.out _ _ ⟨S6.out.b.t.t.c4,S6.out.b.t.c4⟩ (fun h2=>?_);clear hK K hH;have hH:=h2;clear h2
     try simp only[aI]
     refine ai (fun w5 hW=>?_);rw[<-hW]at S6 hH;clear hW;refine ah 5 rfl (by kernel_rfl) (fun K hK=>?_);go_simp;have S7:=hid (S6.out.var (w5.heap.size) [.bool false,.slice none 0 0] 29 (by simp));clear S6;refine hK.out _ _ ⟨S7.out.b.t.t.t.c4,S7.out.b.t.t.c4⟩ (fun h2=>?_);clear hK K hH;have hH:=h2;clear h2
     try simp only[aI]
     refine ai (fun w6 hW=>?_);rw[<-hW]at S7 hH;clear hW;refine ah 6 rfl (by kernel_rfl) (fun K hK=>?_);obtain⟨cO,cZ⟩:=S7.out.b.t.c2;obtain⟨fU,fV⟩:=S7.out.b.t.f2;go_simp;clear cO cZ fU fV;have S8:Hid (Sx w _ [⟨(w5.heap.size),[.bool false,.slice none 0 0]⟩,⟨(w4.heap.size),[.bool aX,.slice aY aZ bf]⟩,⟨(w.heap.size+1),[.bool m2,.slice a2 n2 c2,.bool k2,.slice b2 l2 d2]⟩,⟨(w.heap.size),[.bool m,.slice ao n cap,.bool k,.slice bo l cb]⟩] _):=hid (Sx.set [⟨(w5.heap.size),[.bool false,.slice none 0 0]⟩] [⟨(w.heap.size+1),[.bool m2,.slice a2 n2 c2,.bool k2,.slice b2 l2 d2]⟩,⟨(w.heap.size),[.bool m,.slice ao n cap,.bool k,.slice bo l cb]⟩] (Sx.set [⟨(w5.heap.size),[.bool false,.slice none 0 0]⟩] [⟨(w.heap.size+1),[.bool m2,.slice a2 n2 c2,.bool k2,.slice b2 l2 d2]⟩,⟨(w.heap.size),[.bool m,.slice ao n cap,.bool k,.slice bo l cb]⟩] S7.out 0 (.bool aX)) 1 (.slice aY aZ bf));clear S7;refine hK.out _ _ ⟨S8.out.b.t.t.t.c4,S8.out.b.t.t.c4⟩ (fun h2=>?_);clear hK K hH;have hH:=h2;clear h2
     try simp only[aI]
     refine ai (fun w7 hW=>?_);rw[<-hW]at S8 hH;clear hW;refine ah 7 rfl (by kernel_rfl) (fun K hK=>?_);obtain⟨dG,dH⟩:=S8.out.b.c2;obtain⟨dO,dP⟩:=S8.out.b.f2;go_simp;clear dG dH dO dP;have S9:Hid (Sx w _ [⟨(w5.heap.size),[.bool bP,.slice bQ bR bS]⟩,⟨(w4.heap.size),[.bool aX,.slice aY aZ bf]⟩,⟨(w.heap.size+1),[.bool m2,.slice a2 n2 c2,.bool k2,.slice b2 l2 d2]⟩,⟨(w.heap.size),[.bool m,.slice ao n cap,.bool k,.slice bo l cb]⟩] _):=hid (Sx.set [] [⟨(w4.heap.size),[.bool aX,.slice aY aZ bf]⟩,⟨(w.heap.size+1),[.bool m2,.slice a2 n2 c2,.bool k2,.slice b2 l2 d2]⟩,⟨(w.heap.size),[.bool m,.slice ao n cap,.bool k,.slice bo l cb]⟩] (Sx.set [] [⟨(w4.heap.size),[.bool aX,.slice aY aZ bf]⟩,⟨(w.heap.size+1),[.bool m2,.slice a2 n2 c2,.bool k2,.slice b2 l2 d2]⟩,⟨(w.heap.size),[.bool m,.slice ao n cap,.bool k,.slice bo l cb]⟩] S8.out 0 (.bool bP)) 1 (.slice bQ bR bS));clear S8;refine hK.out _ _ ⟨S9.out.b.t.t.t.c4,S9.out.b.t.t.c4⟩ (fun h2=>?_);clear hK K hH;have hH:=h2;clear h2
     try simp only[aI]
     refine ai (fun w8 hW=>?_);rw[<-hW]at S9 hH;clear hW;refine wpAnyH_done (by kernel_rfl) ?_ _
     clear hH;go_wp2_with fail;go_meet
     case rel=>exact⟨_,_,_,_,_,_,_,_,_,_,rfl,rfl,S9.out⟩
    ·go_simp;have S6:=hid (S5.out.var (w4.heap.size) [.bool false,.slice none 0 0] 29 (by simp));clear S5;refine hK.out _ _ ⟨S6.out.b.t.t.c4,S6.out.b.t.c4⟩ (fun h2=>?_);clear hK K hH;have hH:=h2;clear h2
     try simp only[aI]
     refine ai (fun w5 hW=>?_);rw[<-hW]at S6 hH;clear hW;refine ah 4 rfl (by kernel_rfl) (fun K hK=>?_);go_simp;have S7:=hid (S6.out.var (w5.heap.size) [.bool false,.slice none 0 0] 29 (by simp));clear S6;refine hK.out _ _ ⟨S7.out.b.t.t.t.c4,S7.out.b.t.t.c4⟩ (fun h2=>?_);clear hK K hH;have hH:=h2;clear h2
     try simp only[aI]
     refine ai (fun w6 hW=>?_);rw[<-hW]at S7 hH;clear hW;refine ah 6 rfl (by kernel_rfl) (fun K hK=>?_);obtain⟨cO,cZ⟩:=S7.out.b.c2;obtain⟨fU,fV⟩:=S7.out.b.f2;go_simp;clear cO cZ fU fV;have S8:Hid (Sx w _ [⟨(w5.heap.size),[.bool aX,.slice aY aZ bf]⟩,⟨(w4.heap.size),[.bool false,.slice none 0 0]⟩,⟨(w.heap.size+1),[.bool m2,.slice a2 n2 c2,.bool k2,.slice b2 l2 d2]⟩,⟨(w.heap.size),[.bool m,.slice ao n cap,.bool k,.slice bo l cb]⟩] _):=hid (Sx.set [] [⟨(w4.heap.size),[.bool false,.slice none 0 0]⟩,⟨(w.heap.size+1),[.bool m2,.slice a2 n2 c2,.bool k2,.slice b2 l2 d2]⟩,⟨(w.heap.size),[.bool m,.slice ao n cap,.bool k,.slice bo l cb]⟩] (Sx.set [] [⟨(w4.heap.size),[.bool false,.slice none 0 0]⟩,⟨(w.heap.size+1),[.bool m2,.slice a2 n2 c2,.bool k2,.slice b2 l2 d2]⟩,⟨(w.heap.size),[.bool m,.slice ao n cap,.bool k,.slice bo l cb]⟩] S7.out 0 (.bool aX)) 1 (.slice aY aZ bf));clear S7;refine hK.out _ _ ⟨S8.out.b.t.t.t.c4,S8.out.b.t.t.c4⟩ (fun h2=>?_);clear hK K hH;have hH:=h2;clear h2
     try simp only[aI]
     refine ai (fun w7 hW=>?_);rw[<-hW]at S8 hH;clear hW;refine ah 7 rfl (by kernel_rfl) (fun K hK=>?_);obtain⟨dG,dH⟩:=S8.out.b.t.c2;obtain⟨dO,dP⟩:=S8.out.b.t.f2;go_simp;clear dG dH dO dP;have S9:Hid (Sx w _ [⟨(w5.heap.size),[.bool aX,.slice aY aZ bf]⟩,⟨(w4.heap.size),[.bool bP,.slice bQ bR bS]⟩,⟨(w.heap.size+1),[.bool m2,.slice a2 n2 c2,.bool k2,.slice b2 l2 d2]⟩,⟨(w.heap.size),[.bool m,.slice ao n cap,.bool k,.slice bo l cb]⟩] _):=hid (Sx.set [⟨(w5.heap.size),[.bool aX,.slice aY aZ bf]⟩] [⟨(w.heap.size+1),[.bool m2,.slice a2 n2 c2,.bool k2,.slice b2 l2 d2]⟩,⟨(w.heap.size),[.bool m,.slice ao n cap,.bool k,.slice bo l cb]⟩] (Sx.set [⟨(w5.heap.size),[.bool aX,.slice aY aZ bf]⟩] [⟨(w.heap.size+1),[.bool m2,.slice a2 n2 c2,.bool k2,.slice b2 l2 d2]⟩,⟨(w.heap.size),[.bool m,.slice ao n cap,.bool k,.slice bo l cb]⟩] S8.out 0 (.bool bP)) 1 (.slice bQ bR bS));clear S8;refine hK.out _ _ ⟨S9.out.b.t.t.t.c4,S9.out.b.t.t.c4⟩ (fun h2=>?_);clear hK K hH;have hH:=h2;clear h2
     try simp only[aI]
     refine ai (fun w8 hW=>?_);rw[<-hW]at S9 hH;clear hW;refine wpAnyH_done (by kernel_rfl) ?_ _
     clear hH;go_wp2_with fail;go_meet
     case rel=>exact⟨_,_,_,_,_,_,_,_,_,_,rfl,rfl,S9.out.swap⟩
   ·go_simp;have S5:=hid (S4.out.var (w3.heap.size) [.bool false,.slice none 0 0] 29 (by simp));clear S4;refine hK.out _ _ ⟨S5.out.b.t.t.c4,S5.out.b.t.c4⟩ (fun h2=>?_);clear hK K hH;have hH:=h2;clear h2
    try simp only[aI]
    refine ai (fun w4 hW=>?_);rw[<-hW]at S5 hH;clear hW;refine wpAnyH_ready (rs:=[3,5]) (by kernel_rfl) (by simp) (aO rfl (fun K hK=>?_) (aO rfl (fun K hK=>?_) (AllReadyH.nil)))
    ·go_simp;refine(gy S5.out.n.t.t.rx).mono ?_;rintro e w5 ⟨bP,bQ,bR,bS,rfl,hX,hB⟩;have S6:=hid (((S5.out.step hB).nb ⟨hX,jy S5.out.n.t.t.rx.bd (by omega)⟩ rfl));clear S5 hX hB;go_wp2_with fail;refine hK.out _ _ ⟨S6.out.b.t.t.c4,S6.out.b.t.c4⟩ (fun h2=>?_);clear hK K hH;have hH:=h2;clear h2
     try simp only[aI]
     refine ah 5 rfl (by kernel_rfl) (fun K hK=>?_);go_simp;have S7:=hid (S6.out.var (w5.heap.size) [.bool false,.slice none 0 0] 29 (by simp));clear S6;refine hK.out _ _ ⟨S7.out.b.t.t.t.c4,S7.out.b.t.t.c4⟩ (fun h2=>?_);clear hK K hH;have hH:=h2;clear h2
     try simp only[aI]
     refine ai (fun w6 hW=>?_);rw[<-hW]at S7 hH;clear hW;refine ah 6 rfl (by kernel_rfl) (fun K hK=>?_);obtain⟨cO,cZ⟩:=S7.out.b.t.c2;obtain⟨fU,fV⟩:=S7.out.b.t.f2;go_simp;clear cO cZ fU fV;have S8:Hid (Sx w _ [⟨(w5.heap.size),[.bool false,.slice none 0 0]⟩,⟨(w3.heap.size),[.bool aX,.slice aY aZ bf]⟩,⟨(w.heap.size+1),[.bool m2,.slice a2 n2 c2,.bool k2,.slice b2 l2 d2]⟩,⟨(w.heap.size),[.bool m,.slice ao n cap,.bool k,.slice bo l cb]⟩] _):=hid (Sx.set [⟨(w5.heap.size),[.bool false,.slice none 0 0]⟩] [⟨(w.heap.size+1),[.bool m2,.slice a2 n2 c2,.bool k2,.slice b2 l2 d2]⟩,⟨(w.heap.size),[.bool m,.slice ao n cap,.bool k,.slice bo l cb]⟩] (Sx.set [⟨(w5.heap.size),[.bool false,.slice none 0 0]⟩] [⟨(w.heap.size+1),[.bool m2,.slice a2 n2 c2,.bool k2,.slice b2 l2 d2]⟩,⟨(w.heap.size),[.bool m,.slice ao n cap,.bool k,.slice bo l cb]⟩] S7.out 0 (.bool aX)) 1 (.slice aY aZ bf));clear S7;refine hK.out _ _ ⟨S8.out.b.t.t.t.c4,S8.out.b.t.t.c4⟩ (fun h2=>?_);clear hK K hH;have hH:=h2;clear h2
     try simp only[aI]
     refine ai (fun w7 hW=>?_);rw[<-hW]at S8 hH;clear hW;refine ah 7 rfl (by kernel_rfl) (fun K hK=>?_);obtain⟨dG,dH⟩:=S8.out.b.c2;obtain⟨dO,dP⟩:=S8.out.b.f2;go_simp;clear dG dH dO dP;have S9:Hid (Sx w _ [⟨(w5.heap.size),[.bool bP,.slice bQ bR bS]⟩,⟨(w3.heap.size),[.bool aX,.slice aY aZ bf]⟩,⟨(w.heap.size+1),[.bool m2,.slice a2 n2 c2,.bool k2,.slice b2 l2 d2]⟩,⟨(w.heap.size),[.bool m,.slice ao n cap,.bool k,.slice bo l cb]⟩] _):=hid (Sx.set [] [⟨(w3.heap.size),[.bool aX,.slice aY aZ bf]⟩,⟨(w.heap.size+1),[.bool m2,.slice a2 n2 c2,.bool k2,.slice b2 l2 d2]⟩,⟨(w.heap.size),[.bool m,.slice ao n cap,.bool k,.slice bo l cb]⟩] (Sx.set [] [⟨(w3.heap.size),[.bool aX,.slice aY aZ bf]⟩,⟨(w.heap.size+1),[.bool m2,.slice a2 n2 c2,.bool k2,.slice b2 l2 d2]⟩,⟨(w.heap.size),[.bool m,.slice ao n cap,.bool k,.slice bo l cb]⟩] S8.out 0 (.bool bP)) 1 (.slice bQ bR bS));clear S8;refine hK.out _ _ ⟨S9.out.b.t.t.t.c4,S9.out.b.t.t.c4⟩ (fun h2=>?_);clear hK K hH;have hH:=h2;clear h2
     try simp only[aI]
     refine ai (fun w8 hW=>?_);rw[<-hW]at S9 hH;clear hW;refine wpAnyH_done (by kernel_rfl) ?_ _
     clear hH;go_wp2_with fail;go_meet
     case rel=>exact⟨_,_,_,_,_,_,_,_,_,_,rfl,rfl,S9.out⟩
    ·go_simp;have S6:=hid (S5.out.var (w4.heap.size) [.bool false,.slice none 0 0] 29 (by simp));clear S5;refine hK.out _ _ ⟨S6.out.b.t.t.t.c4,S6.out.b.t.t.c4⟩ (fun h2=>?_);clear hK K hH;have hH:=h2;clear h2
     try simp only[aI]
     refine ai (fun w5 hW=>?_);rw[<-hW]at S6 hH;clear hW;refine ah 3 rfl (by kernel_rfl) (fun K hK=>?_);go_simp;refine(gy S6.out.n.t.t.rx).mono ?_;rintro e w6 ⟨bP,bQ,bR,bS,rfl,hX,hB⟩;have S7:=hid (((S6.out.step hB).nb ⟨hX,jy S6.out.n.t.t.rx.bd (by omega)⟩ rfl));clear S6 hX hB;go_wp2_with fail;refine hK.out _ _ ⟨S7.out.b.t.t.t.c4,S7.out.b.t.t.c4⟩ (fun h2=>?_);clear hK K hH;have hH:=h2;clear h2
     try simp only[aI]
     refine ah 6 rfl (by kernel_rfl) (fun K hK=>?_);obtain⟨cO,cZ⟩:=S7.out.b.t.c2;obtain⟨fU,fV⟩:=S7.out.b.t.f2;go_simp;clear cO cZ fU fV;have S8:Hid (Sx w _ [⟨(w4.heap.size),[.bool false,.slice none 0 0]⟩,⟨(w3.heap.size),[.bool aX,.slice aY aZ bf]⟩,⟨(w.heap.size+1),[.bool m2,.slice a2 n2 c2,.bool k2,.slice b2 l2 d2]⟩,⟨(w.heap.size),[.bool m,.slice ao n cap,.bool k,.slice bo l cb]⟩] _):=hid (Sx.set [⟨(w4.heap.size),[.bool false,.slice none 0 0]⟩] [⟨(w.heap.size+1),[.bool m2,.slice a2 n2 c2,.bool k2,.slice b2 l2 d2]⟩,⟨(w.heap.size),[.bool m,.slice ao n cap,.bool k,.slice bo l cb]⟩] (Sx.set [⟨(w4.heap.size),[.bool false,.slice none 0 0]⟩] [⟨(w.heap.size+1),[.bool m2,.slice a2 n2 c2,.bool k2,.slice b2 l2 d2]⟩,⟨(w.heap.size),[.bool m,.slice ao n cap,.bool k,.slice bo l cb]⟩] S7.out 0 (.bool aX)) 1 (.slice aY aZ bf));clear S7;refine hK.out _ _ ⟨S8.out.b.t.t.t.c4,S8.out.b.t.t.c4⟩ (fun h2=>?_);clear hK K hH;have hH:=h2;clear h2
     try simp only[aI]
     refine ai (fun w7 hW=>?_);rw[<-hW]at S8 hH;clear hW;refine ah 7 rfl (by kernel_rfl) (fun K hK=>?_);obtain⟨dG,dH⟩:=S8.out.b.c2;obtain⟨dO,dP⟩:=S8.out.b.f2;go_simp;clear dG dH dO dP;have S9:Hid (Sx w _ [⟨(w4.heap.size),[.bool bP,.slice bQ bR bS]⟩,⟨(w3.heap.size),[.bool aX,.slice aY aZ bf]⟩,⟨(w.heap.size+1),[.bool m2,.slice a2 n2 c2,.bool k2,.slice b2 l2 d2]⟩,⟨(w.heap.size),[.bool m,.slice ao n cap,.bool k,.slice bo l cb]⟩] _):=hid (Sx.set [] [⟨(w3.heap.size),[.bool aX,.slice aY aZ bf]⟩,⟨(w.heap.size+1),[.bool m2,.slice a2 n2 c2,.bool k2,.slice b2 l2 d2]⟩,⟨(w.heap.size),[.bool m,.slice ao n cap,.bool k,.slice bo l cb]⟩] (Sx.set [] [⟨(w3.heap.size),[.bool aX,.slice aY aZ bf]⟩,⟨(w.heap.size+1),[.bool m2,.slice a2 n2 c2,.bool k2,.slice b2 l2 d2]⟩,⟨(w.heap.size),[.bool m,.slice ao n cap,.bool k,.slice bo l cb]⟩] S8.out 0 (.bool bP)) 1 (.slice bQ bR bS));clear S8;refine hK.out _ _ ⟨S9.out.b.t.t.t.c4,S9.out.b.t.t.c4⟩ (fun h2=>?_);clear hK K hH;have hH:=h2;clear h2
     try simp only[aI]
     refine ai (fun w8 hW=>?_);rw[<-hW]at S9 hH;clear hW;refine wpAnyH_done (by kernel_rfl) ?_ _
     clear hH;go_wp2_with fail;go_meet
     case rel=>exact⟨_,_,_,_,_,_,_,_,_,_,rfl,rfl,S9.out⟩
   ·go_simp;have S5:=hid (S4.out.var (w3.heap.size) [.bool false,.slice none 0 0] 29 (by simp));clear S4;refine hK.out _ _ ⟨S5.out.b.t.t.c4,S5.out.b.t.c4⟩ (fun h2=>?_);clear hK K hH;have hH:=h2;clear h2
    try simp only[aI]
    refine ai (fun w4 hW=>?_);rw[<-hW]at S5 hH;clear hW;refine wpAnyH_ready (rs:=[3,4]) (by kernel_rfl) (by simp) (aO rfl (fun K hK=>?_) (aO rfl (fun K hK=>?_) (AllReadyH.nil)))
    ·go_simp;refine(gy S5.out.n.t.t.rx).mono ?_;rintro e w5 ⟨bP,bQ,bR,bS,rfl,hX,hB⟩;have S6:=hid (((S5.out.step hB).nb ⟨hX,jy S5.out.n.t.t.rx.bd (by omega)⟩ rfl));clear S5 hX hB;go_wp2_with fail;refine hK.out _ _ ⟨S6.out.b.t.t.c4,S6.out.b.t.c4⟩ (fun h2=>?_);clear hK K hH;have hH:=h2;clear h2
     try simp only[aI]
     refine ah 4 rfl (by kernel_rfl) (fun K hK=>?_);go_simp;have S7:=hid (S6.out.var (w5.heap.size) [.bool false,.slice none 0 0] 29 (by simp));clear S6;refine hK.out _ _ ⟨S7.out.b.t.t.t.c4,S7.out.b.t.t.c4⟩ (fun h2=>?_);clear hK K hH;have hH:=h2;clear h2
     try simp only[aI]
     refine ai (fun w6 hW=>?_);rw[<-hW]at S7 hH;clear hW;refine ah 6 rfl (by kernel_rfl) (fun K hK=>?_);obtain⟨cO,cZ⟩:=S7.out.b.c2;obtain⟨fU,fV⟩:=S7.out.b.f2;go_simp;clear cO cZ fU fV;have S8:Hid (Sx w _ [⟨(w5.heap.size),[.bool aX,.slice aY aZ bf]⟩,⟨(w3.heap.size),[.bool false,.slice none 0 0]⟩,⟨(w.heap.size+1),[.bool m2,.slice a2 n2 c2,.bool k2,.slice b2 l2 d2]⟩,⟨(w.heap.size),[.bool m,.slice ao n cap,.bool k,.slice bo l cb]⟩] _):=hid (Sx.set [] [⟨(w3.heap.size),[.bool false,.slice none 0 0]⟩,⟨(w.heap.size+1),[.bool m2,.slice a2 n2 c2,.bool k2,.slice b2 l2 d2]⟩,⟨(w.heap.size),[.bool m,.slice ao n cap,.bool k,.slice bo l cb]⟩] (Sx.set [] [⟨(w3.heap.size),[.bool false,.slice none 0 0]⟩,⟨(w.heap.size+1),[.bool m2,.slice a2 n2 c2,.bool k2,.slice b2 l2 d2]⟩,⟨(w.heap.size),[.bool m,.slice ao n cap,.bool k,.slice bo l cb]⟩] S7.out 0 (.bool aX)) 1 (.slice aY aZ bf));clear S7;refine hK.out _ _ ⟨S8.out.b.t.t.t.c4,S8.out.b.t.t.c4⟩ (fun h2=>?_);clear hK K hH;have hH:=h2;clear h2
     try simp only[aI]
     refine ai (fun w7 hW=>?_);rw[<-hW]at S8 hH;clear hW;refine ah 7 rfl (by kernel_rfl) (fun K hK=>?_);obtain⟨dG,dH⟩:=S8.out.b.t.c2;obtain⟨dO,dP⟩:=S8.out.b.t.f2;go_simp;clear dG dH dO dP;have S9:Hid (Sx w _ [⟨(w5.heap.size),[.bool aX,.slice aY aZ bf]⟩,⟨(w3.heap.size),[.bool bP,.slice bQ bR bS]⟩,⟨(w.heap.size+1),[.bool m2,.slice a2 n2 c2,.bool k2,.slice b2 l2 d2]⟩,⟨(w.heap.size),[.bool m,.slice ao n cap,.bool k,.slice bo l cb]⟩] _):=hid (Sx.set [⟨(w5.heap.size),[.bool aX,.slice aY aZ bf]⟩] [⟨(w.heap.size+1),[.bool m2,.slice a2 n2 c2,.bool k2,.slice b2 l2 d2]⟩,⟨(w.heap.size),[.bool m,.slice ao n cap,.bool k,.slice bo l cb]⟩] (Sx.set [⟨(w5.heap.size),[.bool aX,.slice aY aZ bf]⟩] [⟨(w.heap.size+1),[.bool m2,.slice a2 n2 c2,.bool k2,.slice b2 l2 d2]⟩,⟨(w.heap.size),[.bool m,.slice ao n cap,.bool k,.slice bo l cb]⟩] S8.out 0 (.bool bP)) 1 (.slice bQ bR bS));clear S8;refine hK.out _ _ ⟨S9.out.b.t.t.t.c4,S9.out.b.t.t.c4⟩ (fun h2=>?_);clear hK K hH;have hH:=h2;clear h2
     try simp only[aI]
     refine ai (fun w8 hW=>?_);rw[<-hW]at S9 hH;clear hW;refine wpAnyH_done (by kernel_rfl) ?_ _
     clear hH;go_wp2_with fail;go_meet
     case rel=>exact⟨_,_,_,_,_,_,_,_,_,_,rfl,rfl,S9.out.swap⟩
    ·go_simp;have S6:=hid (S5.out.var (w4.heap.size) [.bool false,.slice none 0 0] 29 (by simp));clear S5;refine hK.out _ _ ⟨S6.out.b.t.t.t.c4,S6.out.b.t.t.c4⟩ (fun h2=>?_);clear hK K hH;have hH:=h2;clear h2
     try simp only[aI]
     refine ai (fun w5 hW=>?_);rw[<-hW]at S6 hH;clear hW;refine ah 3 rfl (by kernel_rfl) (fun K hK=>?_);go_simp;refine(gy S6.out.n.t.t.rx).mono ?_;rintro e w6 ⟨bP,bQ,bR,bS,rfl,hX,hB⟩;have S7:=hid (((S6.out.step hB).nb ⟨hX,jy S6.out.n.t.t.rx.bd (by omega)⟩ rfl));clear S6 hX hB;go_wp2_with fail;refine hK.out _ _ ⟨S7.out.b.t.t.t.c4,S7.out.b.t.t.c4⟩ (fun h2=>?_);clear hK K hH;have hH:=h2;clear h2
     try simp only[aI]
     refine ah 6 rfl (by kernel_rfl) (fun K hK=>?_);obtain⟨cO,cZ⟩:=S7.out.b.c2;obtain⟨fU,fV⟩:=S7.out.b.f2;go_simp;clear cO cZ fU fV;have S8:Hid (Sx w _ [⟨(w4.heap.size),[.bool aX,.slice aY aZ bf]⟩,⟨(w3.heap.size),[.bool false,.slice none 0 0]⟩,⟨(w.heap.size+1),[.bool m2,.slice a2 n2 c2,.bool k2,.slice b2 l2 d2]⟩,⟨(w.heap.size),[.bool m,.slice ao n cap,.bool k,.slice bo l cb]⟩] _):=hid (Sx.set [] [⟨(w3.heap.size),[.bool false,.slice none 0 0]⟩,⟨(w.heap.size+1),[.bool m2,.slice a2 n2 c2,.bool k2,.slice b2 l2 d2]⟩,⟨(w.heap.size),[.bool m,.slice ao n cap,.bool k,.slice bo l cb]⟩] (Sx.set [] [⟨(w3.heap.size),[.bool false,.slice none 0 0]⟩,⟨(w.heap.size+1),[.bool m2,.slice a2 n2 c2,.bool k2,.slice b2 l2 d2]⟩,⟨(w.heap.size),[.bool m,.slice ao n cap,.bool k,.slice bo l cb]⟩] S7.out 0 (.bool aX)) 1 (.slice aY aZ bf));clear S7;refine hK.out _ _ ⟨S8.out.b.t.t.t.c4,S8.out.b.t.t.c4⟩ (fun h2=>?_);clear hK K hH;have hH:=h2;clear h2
     try simp only[aI]
     refine ai (fun w7 hW=>?_);rw[<-hW]at S8 hH;clear hW;refine ah 7 rfl (by kernel_rfl) (fun K hK=>?_);obtain⟨dG,dH⟩:=S8.out.b.t.c2;obtain⟨dO,dP⟩:=S8.out.b.t.f2;go_simp;clear dG dH dO dP;have S9:Hid (Sx w _ [⟨(w4.heap.size),[.bool aX,.slice aY aZ bf]⟩,⟨(w3.heap.size),[.bool bP,.slice bQ bR bS]⟩,⟨(w.heap.size+1),[.bool m2,.slice a2 n2 c2,.bool k2,.slice b2 l2 d2]⟩,⟨(w.heap.size),[.bool m,.slice ao n cap,.bool k,.slice bo l cb]⟩] _):=hid (Sx.set [⟨(w4.heap.size),[.bool aX,.slice aY aZ bf]⟩] [⟨(w.heap.size+1),[.bool m2,.slice a2 n2 c2,.bool k2,.slice b2 l2 d2]⟩,⟨(w.heap.size),[.bool m,.slice ao n cap,.bool k,.slice bo l cb]⟩] (Sx.set [⟨(w4.heap.size),[.bool aX,.slice aY aZ bf]⟩] [⟨(w.heap.size+1),[.bool m2,.slice a2 n2 c2,.bool k2,.slice b2 l2 d2]⟩,⟨(w.heap.size),[.bool m,.slice ao n cap,.bool k,.slice bo l cb]⟩] S8.out 0 (.bool bP)) 1 (.slice bQ bR bS));clear S8;refine hK.out _ _ ⟨S9.out.b.t.t.t.c4,S9.out.b.t.t.c4⟩ (fun h2=>?_);clear hK K hH;have hH:=h2;clear h2
     try simp only[aI]
     refine ai (fun w8 hW=>?_);rw[<-hW]at S9 hH;clear hW;refine wpAnyH_done (by kernel_rfl) ?_ _
     clear hH;go_wp2_with fail;go_meet
     case rel=>exact⟨_,_,_,_,_,_,_,_,_,_,rfl,rfl,S9.out.swap⟩
  ·go_simp;have S4:=hid (S3.out.var (w2.heap.size) [.bool false,.slice none 0 0] 29 (by simp));clear S3;refine hK.out _ _ ⟨S4.out.b.t.t.c4,S4.out.b.t.c4⟩ (fun h2=>?_);clear hK K hH;have hH:=h2;clear h2
   try simp only[aI]
   refine ai (fun w3 hW=>?_);rw[<-hW]at S4 hH;clear hW;refine wpAnyH_ready (rs:=[1,5]) (by kernel_rfl) (by simp) (aO rfl (fun K hK=>?_) (aO rfl (fun K hK=>?_) (AllReadyH.nil)))
   ·go_simp;refine(gy S4.out.n.rx).mono ?_;rintro e w4 ⟨aX,aY,aZ,bf,rfl,hX,hB⟩;have S5:=hid (((S4.out.step hB).nb ⟨hX,jy S4.out.n.rx.bd (by omega)⟩ rfl));clear S4 hX hB;go_wp2_with fail;refine hK.out _ _ ⟨S5.out.b.t.t.c4,S5.out.b.t.c4⟩ (fun h2=>?_);clear hK K hH;have hH:=h2;clear h2
    try simp only[aI]
    refine wpAnyH_ready (rs:=[3,5]) (by kernel_rfl) (by simp) (aO rfl (fun K hK=>?_) (aO rfl (fun K hK=>?_) (AllReadyH.nil)))
    ·go_simp;refine(gy S5.out.n.t.t.rx).mono ?_;rintro e w5 ⟨bP,bQ,bR,bS,rfl,hX,hB⟩;have S6:=hid (((S5.out.step hB).nb ⟨hX,jy S5.out.n.t.t.rx.bd (by omega)⟩ rfl));clear S5 hX hB;go_wp2_with fail;refine hK.out _ _ ⟨S6.out.b.t.t.c4,S6.out.b.t.c4⟩ (fun h2=>?_);clear hK K hH;have hH:=h2;clear h2
     try simp only[aI]
     refine ah 5 rfl (by kernel_rfl) (fun K hK=>?_);go_simp;have S7:=hid (S6.out.var (w5.heap.size) [.bool false,.slice none 0 0] 29 (by simp));clear S6;refine hK.out _ _ ⟨S7.out.b.t.t.t.c4,S7.out.b.t.t.c4⟩ (fun h2=>?_);clear hK K hH;have hH:=h2;clear h2
     try simp only[aI]
     refine ai (fun w6 hW=>?_);rw[<-hW]at S7 hH;clear hW;refine ah 6 rfl (by kernel_rfl) (fun K hK=>?_);obtain⟨cO,cZ⟩:=S7.out.b.t.c2;obtain⟨fU,fV⟩:=S7.out.b.t.f2;go_simp;clear cO cZ fU fV;have S8:Hid (Sx w _ [⟨(w5.heap.size),[.bool false,.slice none 0 0]⟩,⟨(w2.heap.size),[.bool aX,.slice aY aZ bf]⟩,⟨(w.heap.size+1),[.bool m2,.slice a2 n2 c2,.bool k2,.slice b2 l2 d2]⟩,⟨(w.heap.size),[.bool m,.slice ao n cap,.bool k,.slice bo l cb]⟩] _):=hid (Sx.set [⟨(w5.heap.size),[.bool false,.slice none 0 0]⟩] [⟨(w.heap.size+1),[.bool m2,.slice a2 n2 c2,.bool k2,.slice b2 l2 d2]⟩,⟨(w.heap.size),[.bool m,.slice ao n cap,.bool k,.slice bo l cb]⟩] (Sx.set [⟨(w5.heap.size),[.bool false,.slice none 0 0]⟩] [⟨(w.heap.size+1),[.bool m2,.slice a2 n2 c2,.bool k2,.slice b2 l2 d2]⟩,⟨(w.heap.size),[.bool m,.slice ao n cap,.bool k,.slice bo l cb]⟩] S7.out 0 (.bool aX)) 1 (.slice aY aZ bf));clear S7;refine hK.out _ _ ⟨S8.out.b.t.t.t.c4,S8.out.b.t.t.c4⟩ (fun h2=>?_);clear hK K hH;have hH:=h2;clear h2
     try simp only[aI]
     refine ai (fun w7 hW=>?_);rw[<-hW]at S8 hH;clear hW;refine ah 7 rfl (by kernel_rfl) (fun K hK=>?_);obtain⟨dG,dH⟩:=S8.out.b.c2;obtain⟨dO,dP⟩:=S8.out.b.f2;go_simp;clear dG dH dO dP;have S9:Hid (Sx w _ [⟨(w5.heap.size),[.bool bP,.slice bQ bR bS]⟩,⟨(w2.heap.size),[.bool aX,.slice aY aZ bf]⟩,⟨(w.heap.size+1),[.bool m2,.slice a2 n2 c2,.bool k2,.slice b2 l2 d2]⟩,⟨(w.heap.size),[.bool m,.slice ao n cap,.bool k,.slice bo l cb]⟩] _):=hid (Sx.set [] [⟨(w2.heap.size),[.bool aX,.slice aY aZ bf]⟩,⟨(w.heap.size+1),[.bool m2,.slice a2 n2 c2,.bool k2,.slice b2 l2 d2]⟩,⟨(w.heap.size),[.bool m,.slice ao n cap,.bool k,.slice bo l cb]⟩] (Sx.set [] [⟨(w2.heap.size),[.bool aX,.slice aY aZ bf]⟩,⟨(w.heap.size+1),[.bool m2,.slice a2 n2 c2,.bool k2,.slice b2 l2 d2]⟩,⟨(w.heap.size),[.bool m,.slice ao n cap,.bool k,.slice bo l cb]⟩] S8.out 0 (.bool bP)) 1 (.slice bQ bR bS));clear S8;refine hK.out _ _ ⟨S9.out.b.t.t.t.c4,S9.out.b.t.t.c4⟩ (fun h2=>?_);clear hK K hH;have hH:=h2;clear h2
     try simp only[aI]
     refine ai (fun w8 hW=>?_);rw[<-hW]at S9 hH;clear hW;refine wpAnyH_done (by kernel_rfl) ?_ _
     clear hH;go_wp2_with fail;go_meet
     case rel=>exact⟨_,_,_,_,_,_,_,_,_,_,rfl,rfl,S9.out⟩
    ·go_simp;have S6:=hid (S5.out.var (w4.heap.size) [.bool false,.slice none 0 0] 29 (by simp));clear S5;refine hK.out _ _ ⟨S6.out.b.t.t.t.c4,S6.out.b.t.t.c4⟩ (fun h2=>?_);clear hK K hH;have hH:=h2;clear h2
     try simp only[aI]
     refine ai (fun w5 hW=>?_);rw[<-hW]at S6 hH;clear hW;refine ah 3 rfl (by kernel_rfl) (fun K hK=>?_);go_simp;refine(gy S6.out.n.t.t.rx).mono ?_;rintro e w6 ⟨bP,bQ,bR,bS,rfl,hX,hB⟩;have S7:=hid (((S6.out.step hB).nb ⟨hX,jy S6.out.n.t.t.rx.bd (by omega)⟩ rfl));clear S6 hX hB;go_wp2_with fail;refine hK.out _ _ ⟨S7.out.b.t.t.t.c4,S7.out.b.t.t.c4⟩ (fun h2=>?_);clear hK K hH;have hH:=h2;clear h2
     try simp only[aI]
     refine ah 6 rfl (by kernel_rfl) (fun K hK=>?_);obtain⟨cO,cZ⟩:=S7.out.b.t.c2;obtain⟨fU,fV⟩:=S7.out.b.t.f2;go_simp;clear cO cZ fU fV;have S8:Hid (Sx w _ [⟨(w4.heap.size),[.bool false,.slice none 0 0]⟩,⟨(w2.heap.size),[.bool aX,.slice aY aZ bf]⟩,⟨(w.heap.size+1),[.bool m2,.slice a2 n2 c2,.bool k2,.slice b2 l2 d2]⟩,⟨(w.heap.size),[.bool m,.slice ao n cap,.bool k,.slice bo l cb]⟩] _):=hid (Sx.set [⟨(w4.heap.size),[.bool false,.slice none 0 0]⟩] [⟨(w.heap.size+1),[.bool m2,.slice a2 n2 c2,.bool k2,.slice b2 l2 d2]⟩,⟨(w.heap.size),[.bool m,.slice ao n cap,.bool k,.slice bo l cb]⟩] (Sx.set [⟨(w4.heap.size),[.bool false,.slice none 0 0]⟩] [⟨(w.heap.size+1),[.bool m2,.slice a2 n2 c2,.bool k2,.slice b2 l2 d2]⟩,⟨(w.heap.size),[.bool m,.slice ao n cap,.bool k,.slice bo l cb]⟩] S7.out 0 (.bool aX)) 1 (.slice aY aZ bf));clear S7;refine hK.out _ _ ⟨S8.out.b.t.t.t.c4,S8.out.b.t.t.c4⟩ (fun h2=>?_);clear hK K hH;have hH:=h2;clear h2
     try simp only[aI]
     refine ai (fun w7 hW=>?_);rw[<-hW]at S8 hH;clear hW;refine ah 7 rfl (by kernel_rfl) (fun K hK=>?_);obtain⟨dG,dH⟩:=S8.out.b.c2;obtain⟨dO,dP⟩:=S8.out.b.f2;go_simp;clear dG dH dO dP;have S9:Hid (Sx w _ [⟨(w4.heap.size),[.bool bP,.slice bQ bR bS]⟩,⟨(w2.heap.size),[.bool aX,.slice aY aZ bf]⟩,⟨(w.heap.size+1),[.bool m2,.slice a2 n2 c2,.bool k2,.slice b2 l2 d2]⟩,⟨(w.heap.size),[.bool m,.slice ao n cap,.bool k,.slice bo l cb]⟩] _):=hid (Sx.set [] [⟨(w2.heap.size),[.bool aX,.slice aY aZ bf]⟩,⟨(w.heap.size+1),[.bool m2,.slice a2 n2 c2,.bool k2,.slice b2 l2 d2]⟩,⟨(w.heap.size),[.bool m,.slice ao n cap,.bool k,.slice bo l cb]⟩] (Sx.set [] [⟨(w2.heap.size),[.bool aX,.slice aY aZ bf]⟩,⟨(w.heap.size+1),[.bool m2,.slice a2 n2 c2,.bool k2,.slice b2 l2 d2]⟩,⟨(w.heap.size),[.bool m,.slice ao n cap,.bool k,.slice bo l cb]⟩] S8.out 0 (.bool bP)) 1 (.slice bQ bR bS));clear S8;refine hK.out _ _ ⟨S9.out.b.t.t.t.c4,S9.out.b.t.t.c4⟩ (fun h2=>?_);clear hK K hH;have hH:=h2;clear h2
     try simp only[aI]
     refine ai (fun w8 hW=>?_);rw[<-hW]at S9 hH;clear hW;refine wpAnyH_done (by kernel_rfl) ?_ _
     clear hH;go_wp2_with fail;go_meet
     case rel=>exact⟨_,_,_,_,_,_,_,_,_,_,rfl,rfl,S9.out⟩
   ·go_simp;have S5:=hid (S4.out.var (w3.heap.size) [.bool false,.slice none 0 0] 29 (by simp));clear S4;refine hK.out _ _ ⟨S5.out.b.t.t.t.c4,S5.out.b.t.t.c4⟩ (fun h2=>?_);clear hK K hH;have hH:=h2;clear h2
    try simp only[aI]
    refine ai (fun w4 hW=>?_);rw[<-hW]at S5 hH;clear hW;refine ah 1 rfl (by kernel_rfl) (fun K hK=>?_);go_simp;refine(gy S5.out.n.rx).mono ?_;rintro e w5 ⟨aX,aY,aZ,bf,rfl,hX,hB⟩;have S6:=hid (((S5.out.step hB).nb ⟨hX,jy S5.out.n.rx.bd (by omega)⟩ rfl));clear S5 hX hB;go_wp2_with fail;refine hK.out _ _ ⟨S6.out.b.t.t.t.c4,S6.out.b.t.t.c4⟩ (fun h2=>?_);clear hK K hH;have hH:=h2;clear h2
    try simp only[aI]
    refine ah 3 rfl (by kernel_rfl) (fun K hK=>?_);go_simp;refine(gy S6.out.n.t.t.rx).mono ?_;rintro e w6 ⟨bP,bQ,bR,bS,rfl,hX,hB⟩;have S7:=hid (((S6.out.step hB).nb ⟨hX,jy S6.out.n.t.t.rx.bd (by omega)⟩ rfl));clear S6 hX hB;go_wp2_with fail;refine hK.out _ _ ⟨S7.out.b.t.t.t.c4,S7.out.b.t.t.c4⟩ (fun h2=>?_);clear hK K hH;have hH:=h2;clear h2
    try simp only[aI]
    refine ah 6 rfl (by kernel_rfl) (fun K hK=>?_);obtain⟨cO,cZ⟩:=S7.out.b.t.c2;obtain⟨fU,fV⟩:=S7.out.b.t.f2;go_simp;clear cO cZ fU fV;have S8:Hid (Sx w _ [⟨(w3.heap.size),[.bool false,.slice none 0 0]⟩,⟨(w2.heap.size),[.bool aX,.slice aY aZ bf]⟩,⟨(w.heap.size+1),[.bool m2,.slice a2 n2 c2,.bool k2,.slice b2 l2 d2]⟩,⟨(w.heap.size),[.bool m,.slice ao n cap,.bool k,.slice bo l cb]⟩] _):=hid (Sx.set [⟨(w3.heap.size),[.bool false,.slice none 0 0]⟩] [⟨(w.heap.size+1),[.bool m2,.slice a2 n2 c2,.bool k2,.slice b2 l2 d2]⟩,⟨(w.heap.size),[.bool m,.slice ao n cap,.bool k,.slice bo l cb]⟩] (Sx.set [⟨(w3.heap.size),[.bool false,.slice none 0 0]⟩] [⟨(w.heap.size+1),[.bool m2,.slice a2 n2 c2,.bool k2,.slice b2 l2 d2]⟩,⟨(w.heap.size),[.bool m,.slice ao n cap,.bool k,.slice bo l cb]⟩] S7.out 0 (.bool aX)) 1 (.slice aY aZ bf));clear S7;refine hK.out _ _ ⟨S8.out.b.t.t.t.c4,S8.out.b.t.t.c4⟩ (fun h2=>?_);clear hK K hH;have hH:=h2;clear h2
    try simp only[aI]
    refine ai (fun w7 hW=>?_);rw[<-hW]at S8 hH;clear hW;refine ah 7 rfl (by kernel_rfl) (fun K hK=>?_);obtain⟨dG,dH⟩:=S8.out.b.c2;obtain⟨dO,dP⟩:=S8.out.b.f2;go_simp;clear dG dH dO dP;have S9:Hid (Sx w _ [⟨(w3.heap.size),[.bool bP,.slice bQ bR bS]⟩,⟨(w2.heap.size),[.bool aX,.slice aY aZ bf]⟩,⟨(w.heap.size+1),[.bool m2,.slice a2 n2 c2,.bool k2,.slice b2 l2 d2]⟩,⟨(w.heap.size),[.bool m,.slice ao n cap,.bool k,.slice bo l cb]⟩] _):=hid (Sx.set [] [⟨(w2.heap.size),[.bool aX,.slice aY aZ bf]⟩,⟨(w.heap.size+1),[.bool m2,.slice a2 n2 c2,.bool k2,.slice b2 l2 d2]⟩,⟨(w.heap.size),[.bool m,.slice ao n cap,.bool k,.slice bo l cb]⟩] (Sx.set [] [⟨(w2.heap.size),[.bool aX,.slice aY aZ bf]⟩,⟨(w.heap.size+1),[.bool m2,.slice a2 n2 c2,.bool k2,.slice b2 l2 d2]⟩,⟨(w.heap.size),[.bool m,.slice ao n cap,.bool k,.slice bo l cb]⟩] S8.out 0 (.bool bP)) 1 (.slice bQ bR bS));clear S8;refine hK.out _ _ ⟨S9.out.b.t.t.t.c4,S9.out.b.t.t.c4⟩ (fun h2=>?_);clear hK K hH;have hH:=h2;clear h2
    try simp only[aI]
    refine ai (fun w8 hW=>?_);rw[<-hW]at S9 hH;clear hW;refine wpAnyH_done (by kernel_rfl) ?_ _
    clear hH;go_wp2_with fail;go_meet
    case rel=>exact⟨_,_,_,_,_,_,_,_,_,_,rfl,rfl,S9.out⟩
  ·go_simp;have S4:=hid (S3.out.var (w2.heap.size) [.bool false,.slice none 0 0] 29 (by simp));clear S3;refine hK.out _ _ ⟨S4.out.b.t.t.c4,S4.out.b.t.c4⟩ (fun h2=>?_);clear hK K hH;have hH:=h2;clear h2
   try simp only[aI]
   refine ai (fun w3 hW=>?_);rw[<-hW]at S4 hH;clear hW;refine wpAnyH_ready (rs:=[1,4]) (by kernel_rfl) (by simp) (aO rfl (fun K hK=>?_) (aO rfl (fun K hK=>?_) (AllReadyH.nil)))
   ·go_simp;refine(gy S4.out.n.rx).mono ?_;rintro e w4 ⟨aX,aY,aZ,bf,rfl,hX,hB⟩;have S5:=hid (((S4.out.step hB).nb ⟨hX,jy S4.out.n.rx.bd (by omega)⟩ rfl));clear S4 hX hB;go_wp2_with fail;refine hK.out _ _ ⟨S5.out.b.t.t.c4,S5.out.b.t.c4⟩ (fun h2=>?_);clear hK K hH;have hH:=h2;clear h2
    try simp only[aI]
    refine wpAnyH_ready (rs:=[3,4]) (by kernel_rfl) (by simp) (aO rfl (fun K hK=>?_) (aO rfl (fun K hK=>?_) (AllReadyH.nil)))
    ·go_simp;refine(gy S5.out.n.t.t.rx).mono ?_;rintro e w5 ⟨bP,bQ,bR,bS,rfl,hX,hB⟩;have S6:=hid (((S5.out.step hB).nb ⟨hX,jy S5.out.n.t.t.rx.bd (by omega)⟩ rfl));clear S5 hX hB;go_wp2_with fail;refine hK.out _ _ ⟨S6.out.b.t.t.c4,S6.out.b.t.c4⟩ (fun h2=>?_);clear hK K hH;have hH:=h2;clear h2
     try simp only[aI]
     refine ah 4 rfl (by kernel_rfl) (fun K hK=>?_);go_simp;have S7:=hid (S6.out.var (w5.heap.size) [.bool false,.slice none 0 0] 29 (by simp));clear S6;refine hK.out _ _ ⟨S7.out.b.t.t.t.c4,S7.out.b.t.t.c4⟩ (fun h2=>?_);clear hK K hH;have hH:=h2;clear h2
     try simp only[aI]
     refine ai (fun w6 hW=>?_);rw[<-hW]at S7 hH;clear hW;refine ah 6 rfl (by kernel_rfl) (fun K hK=>?_);obtain⟨cO,cZ⟩:=S7.out.b.c2;obtain⟨fU,fV⟩:=S7.out.b.f2;go_simp;clear cO cZ fU fV;have S8:Hid (Sx w _ [⟨(w5.heap.size),[.bool aX,.slice aY aZ bf]⟩,⟨(w2.heap.size),[.bool false,.slice none 0 0]⟩,⟨(w.heap.size+1),[.bool m2,.slice a2 n2 c2,.bool k2,.slice b2 l2 d2]⟩,⟨(w.heap.size),[.bool m,.slice ao n cap,.bool k,.slice bo l cb]⟩] _):=hid (Sx.set [] [⟨(w2.heap.size),[.bool false,.slice none 0 0]⟩,⟨(w.heap.size+1),[.bool m2,.slice a2 n2 c2,.bool k2,.slice b2 l2 d2]⟩,⟨(w.heap.size),[.bool m,.slice ao n cap,.bool k,.slice bo l cb]⟩] (Sx.set [] [⟨(w2.heap.size),[.bool false,.slice none 0 0]⟩,⟨(w.heap.size+1),[.bool m2,.slice a2 n2 c2,.bool k2,.slice b2 l2 d2]⟩,⟨(w.heap.size),[.bool m,.slice ao n cap,.bool k,.slice bo l cb]⟩] S7.out 0 (.bool aX)) 1 (.slice aY aZ bf));clear S7;refine hK.out _ _ ⟨S8.out.b.t.t.t.c4,S8.out.b.t.t.c4⟩ (fun h2=>?_);clear hK K hH;have hH:=h2;clear h2
     try simp only[aI]
     refine ai (fun w7 hW=>?_);rw[<-hW]at S8 hH;clear hW;refine ah 7 rfl (by kernel_rfl) (fun K hK=>?_);obtain⟨dG,dH⟩:=S8.out.b.t.c2;obtain⟨dO,dP⟩:=S8.out.b.t.f2;go_simp;clear dG dH dO dP;have S9:Hid (Sx w _ [⟨(w5.heap.size),[.bool aX,.slice aY aZ bf]⟩,⟨(w2.heap.size),[.bool bP,.slice bQ bR bS]⟩,⟨(w.heap.size+1),[.bool m2,.slice a2 n2 c2,.bool k2,.slice b2 l2 d2]⟩,⟨(w.heap.size),[.bool m,.slice ao n cap,.bool k,.slice bo l cb]⟩] _):=hid (Sx.set [⟨(w5.heap.size),[.bool aX,.slice aY aZ bf]⟩] [⟨(w.heap.size+1),[.bool m2,.slice a2 n2 c2,.bool k2,.slice b2 l2 d2]⟩,⟨(w.heap.size),[.bool m,.slice ao n cap,.bool k,.slice bo l cb]⟩] (Sx.set [⟨(w5.heap.size),[.bool aX,.slice aY aZ bf]⟩] [⟨(w.heap.size+1),[.bool m2,.slice a2 n2 c2,.bool k2,.slice b2 l2 d2]⟩,⟨(w.heap.size),[.bool m,.slice ao n cap,.bool k,.slice bo l cb]⟩] S8.out 0 (.bool bP)) 1 (.slice bQ bR bS));clear S8;refine hK.out _ _ ⟨S9.out.b.t.t.t.c4,S9.out.b.t.t.c4⟩ (fun h2=>?_);clear hK K hH;have hH:=h2;clear h2
     try simp only[aI]
     refine ai (fun w8 hW=>?_);rw[<-hW]at S9 hH;clear hW;refine wpAnyH_done (by kernel_rfl) ?_ _
     clear hH;go_wp2_with fail;go_meet
     case rel=>exact⟨_,_,_,_,_,_,_,_,_,_,rfl,rfl,S9.out.swap⟩
    ·go_simp;have S6:=hid (S5.out.var (w4.heap.size) [.bool false,.slice none 0 0] 29 (by simp));clear S5;refine hK.out _ _ ⟨S6.out.b.t.t.t.c4,S6.out.b.t.t.c4⟩ (fun h2=>?_);clear hK K hH;have hH:=h2;clear h2
     try simp only[aI]
     refine ai (fun w5 hW=>?_);rw[<-hW]at S6 hH;clear hW;refine ah 3 rfl (by kernel_rfl) (fun K hK=>?_);go_simp;refine(gy S6.out.n.t.t.rx).mono ?_;rintro e w6 ⟨bP,bQ,bR,bS,rfl,hX,hB⟩;have S7:=hid (((S6.out.step hB).nb ⟨hX,jy S6.out.n.t.t.rx.bd (by omega)⟩ rfl));clear S6 hX hB;go_wp2_with fail;refine hK.out _ _ ⟨S7.out.b.t.t.t.c4,S7.out.b.t.t.c4⟩ (fun h2=>?_);clear hK K hH;have hH:=h2;clear h2
     try simp only[aI]
     refine ah 6 rfl (by kernel_rfl) (fun K hK=>?_);obtain⟨cO,cZ⟩:=S7.out.b.c2;obtain⟨fU,fV⟩:=S7.out.b.f2;go_simp;clear cO cZ fU fV;have S8:Hid (Sx w _ [⟨(w4.heap.size),[.bool aX,.slice aY aZ bf]⟩,⟨(w2.heap.size),[.bool false,.slice none 0 0]⟩,⟨(w.heap.size+1),[.bool m2,.slice a2 n2 c2,.bool k2,.slice b2 l2 d2]⟩,⟨(w.heap.size),[.bool m,.slice ao n cap,.bool k,.slice bo l cb]⟩] _):=hid (Sx.set [] [⟨(w2.heap.size),[.bool false,.slice none 0 0]⟩,⟨(w.heap.size+1),[.bool m2,.slice a2 n2 c2,.bool k2,.slice b2 l2 d2]⟩,⟨(w.heap.size),[.bool m,.slice ao n cap,.bool k,.slice bo l cb]⟩] (Sx.set [] [⟨(w2.heap.size),[.bool false,.slice none 0 0]⟩,⟨(w.heap.size+1),[.bool m2,.slice a2 n2 c2,.bool k2,.slice b2 l2 d2]⟩,⟨(w.heap.size),[.bool m,.slice ao n cap,.bool k,.slice bo l cb]⟩] S7.out 0 (.bool aX)) 1 (.slice aY aZ bf));clear S7;refine hK.out _ _ ⟨S8.out.b.t.t.t.c4,S8.out.b.t.t.c4⟩ (fun h2=>?_);clear hK K hH;have hH:=h2;clear h2
     try simp only[aI]
     refine ai (fun w7 hW=>?_);rw[<-hW]at S8 hH;clear hW;refine ah 7 rfl (by kernel_rfl) (fun K hK=>?_);obtain⟨dG,dH⟩:=S8.out.b.t.c2;obtain⟨dO,dP⟩:=S8.out.b.t.f2;go_simp;clear dG dH dO dP;have S9:Hid (Sx w _ [⟨(w4.heap.size),[.bool aX,.slice aY aZ bf]⟩,⟨(w2.heap.size),[.bool bP,.slice bQ bR bS]⟩,⟨(w.heap.size+1),[.bool m2,.slice a2 n2 c2,.bool k2,.slice b2 l2 d2]⟩,⟨(w.heap.size),[.bool m,.slice ao n cap,.bool k,.slice bo l cb]⟩] _):=hid (Sx.set [⟨(w4.heap.size),[.bool aX,.slice aY aZ bf]⟩] [⟨(w.heap.size+1),[.bool m2,.slice a2 n2 c2,.bool k2,.slice b2 l2 d2]⟩,⟨(w.heap.size),[.bool m,.slice ao n cap,.bool k,.slice bo l cb]⟩] (Sx.set [⟨(w4.heap.size),[.bool aX,.slice aY aZ bf]⟩] [⟨(w.heap.size+1),[.bool m2,.slice a2 n2 c2,.bool k2,.slice b2 l2 d2]⟩,⟨(w.heap.size),[.bool m,.slice ao n cap,.bool k,.slice bo l cb]⟩] S8.out 0 (.bool bP)) 1 (.slice bQ bR bS));clear S8;refine hK.out _ _ ⟨S9.out.b.t.t.t.c4,S9.out.b.t.t.c4⟩ (fun h2=>?_);clear hK K hH;have hH:=h2;clear h2
     try simp only[aI]
     refine ai (fun w8 hW=>?_);rw[<-hW]at S9 hH;clear hW;refine wpAnyH_done (by kernel_rfl) ?_ _
     clear hH;go_wp2_with fail;go_meet
     case rel=>exact⟨_,_,_,_,_,_,_,_,_,_,rfl,rfl,S9.out.swap⟩
   ·go_simp;have S5:=hid (S4.out.var (w3.heap.size) [.bool false,.slice none 0 0] 29 (by simp));clear S4;refine hK.out _ _ ⟨S5.out.b.t.t.t.c4,S5.out.b.t.t.c4⟩ (fun h2=>?_);clear hK K hH;have hH:=h2;clear h2
    try simp only[aI]
    refine ai (fun w4 hW=>?_);rw[<-hW]at S5 hH;clear hW;refine ah 1 rfl (by kernel_rfl) (fun K hK=>?_);go_simp;refine(gy S5.out.n.rx).mono ?_;rintro e w5 ⟨aX,aY,aZ,bf,rfl,hX,hB⟩;have S6:=hid (((S5.out.step hB).nb ⟨hX,jy S5.out.n.rx.bd (by omega)⟩ rfl));clear S5 hX hB;go_wp2_with fail;refine hK.out _ _ ⟨S6.out.b.t.t.t.c4,S6.out.b.t.t.c4⟩ (fun h2=>?_);clear hK K hH;have hH:=h2;clear h2
    try simp only[aI]
    refine ah 3 rfl (by kernel_rfl) (fun K hK=>?_);go_simp;refine(gy S6.out.n.t.t.rx).mono ?_;rintro e w6 ⟨bP,bQ,bR,bS,rfl,hX,hB⟩;have S7:=hid (((S6.out.step hB).nb ⟨hX,jy S6.out.n.t.t.rx.bd (by omega)⟩ rfl));clear S6 hX hB;go_wp2_with fail;refine hK.out _ _ ⟨S7.out.b.t.t.t.c4,S7.out.b.t.t.c4⟩ (fun h2=>?_);clear hK K hH;have hH:=h2;clear h2
    try simp only[aI]
    refine ah 6 rfl (by kernel_rfl) (fun K hK=>?_);obtain⟨cO,cZ⟩:=S7.out.b.c2;obtain⟨fU,fV⟩:=S7.out.b.f2;go_simp;clear cO cZ fU fV;have S8:Hid (Sx w _ [⟨(w3.heap.size),[.bool aX,.slice aY aZ bf]⟩,⟨(w2.heap.size),[.bool false,.slice none 0 0]⟩,⟨(w.heap.size+1),[.bool m2,.slice a2 n2 c2,.bool k2,.slice b2 l2 d2]⟩,⟨(w.heap.size),[.bool m,.slice ao n cap,.bool k,.slice bo l cb]⟩] _):=hid (Sx.set [] [⟨(w2.heap.size),[.bool false,.slice none 0 0]⟩,⟨(w.heap.size+1),[.bool m2,.slice a2 n2 c2,.bool k2,.slice b2 l2 d2]⟩,⟨(w.heap.size),[.bool m,.slice ao n cap,.bool k,.slice bo l cb]⟩] (Sx.set [] [⟨(w2.heap.size),[.bool false,.slice none 0 0]⟩,⟨(w.heap.size+1),[.bool m2,.slice a2 n2 c2,.bool k2,.slice b2 l2 d2]⟩,⟨(w.heap.size),[.bool m,.slice ao n cap,.bool k,.slice bo l cb]⟩] S7.out 0 (.bool aX)) 1 (.slice aY aZ bf));clear S7;refine hK.out _ _ ⟨S8.out.b.t.t.t.c4,S8.out.b.t.t.c4⟩ (fun h2=>?_);clear hK K hH;have hH:=h2;clear h2
    try simp only[aI]
    refine ai (fun w7 hW=>?_);rw[<-hW]at S8 hH;clear hW;refine ah 7 rfl (by kernel_rfl) (fun K hK=>?_);obtain⟨dG,dH⟩:=S8.out.b.t.c2;obtain⟨dO,dP⟩:=S8.out.b.t.f2;go_simp;clear dG dH dO dP;have S9:Hid (Sx w _ [⟨(w3.heap.size),[.bool aX,.slice aY aZ bf]⟩,⟨(w2.heap.size),[.bool bP,.slice bQ bR bS]⟩,⟨(w.heap.size+1),[.bool m2,.slice a2 n2 c2,.bool k2,.slice b2 l2 d2]⟩,⟨(w.heap.size),[.bool m,.slice ao n cap,.bool k,.slice bo l cb]⟩] _):=hid (Sx.set [⟨(w3.heap.size),[.bool aX,.slice aY aZ bf]⟩] [⟨(w.heap.size+1),[.bool m2,.slice a2 n2 c2,.bool k2,.slice b2 l2 d2]⟩,⟨(w.heap.size),[.bool m,.slice ao n cap,.bool k,.slice bo l cb]⟩] (Sx.set [⟨(w3.heap.size),[.bool aX,.slice aY aZ bf]⟩] [⟨(w.heap.size+1),[.bool m2,.slice a2 n2 c2,.bool k2,.slice b2 l2 d2]⟩,⟨(w.heap.size),[.bool m,.slice ao n cap,.bool k,.slice bo l cb]⟩] S8.out 0 (.bool bP)) 1 (.slice bQ bR bS));clear S8;refine hK.out _ _ ⟨S9.out.b.t.t.t.c4,S9.out.b.t.t.c4⟩ (fun h2=>?_);clear hK K hH;have hH:=h2;clear h2
    try simp only[aI]
    refine ai (fun w8 hW=>?_);rw[<-hW]at S9 hH;clear hW;refine wpAnyH_done (by kernel_rfl) ?_ _
    clear hH;go_wp2_with fail;go_meet
    case rel=>exact⟨_,_,_,_,_,_,_,_,_,_,rfl,rfl,S9.out.swap⟩
 case rest=>
 clear S2;obtain⟨qb5,UL,bP,bQ,bR,bS,aX,aY,aZ,bf,rfl,rfl,S3⟩:=hcut;obtain⟨w9,hW⟩:∃w9,w9=wc:=⟨_,rfl⟩;rw[<-hW]at S3 ⊢;clear hW;obtain⟨dD,dF,eT,eU⟩:=S3.out.b.t.t.t.c4;obtain⟨cO,cZ⟩:=S3.out.b.t.c2;obtain⟨bN,bO,kM,kN⟩:=S3.out.b.t.t.c4;obtain⟨dG,dH⟩:=S3.out.b.c2;go_wp2_with fail;go_ret;exact⟨_,_,_,_,_,_,_,_,_,_,_,_,rfl,S3.out.b.t.t.t.1,S3.out.b.1,S3.out.b.t.t.1,S3.out.b.t.1,S3.out.n.nb,S3.out.n.t.nb,S3.out.h⟩
theorem NK [Ol] {m:Bool} {ao:Option Addr} {n cap:Nat} {k:Bool} {bo:Option Addr} {l cb:Nat} {m2:Bool} {a2:Option Addr} {n2 c2:Nat} {k2:Bool} {b2:Option Addr} {l2 d2:Nat} {u:Bool} {v:Option Addr} {s t:Nat} {u':Bool} {v':Option Addr} {s' t':Nat} {x d y c:Int} {q r:Rat} {j i:Nat} {w:World} {p0 p1 p2 p3:Nat} (hx:Rx w m ao n cap k bo l cb x d q j) (hy:Rx w m2 a2 n2 c2 k2 b2 l2 d2 y c r i) (hp0:Cells w p0 [.bool m,.slice ao n cap,.bool k,.slice bo l cb]) (hp1:Cells w p1 [.bool u,.slice v s t]) (hp2:Cells w p2 [.bool m2,.slice a2 n2 c2,.bool k2,.slice b2 l2 d2]) (hp3:Cells w p3 [.bool u',.slice v' s' t']) (hyd:Nb w u v s t (dn c) i) (hxd:Nb w u' v' s' t' (dn d) j) (hj:j+i+1<=100000):
  Calls Tryz.prog 128 #[.func (.func 78) #[] #[],.pointer (some ⟨p0,0,none⟩),.pointer (some ⟨p1,0,none⟩),.pointer (some ⟨p2,0,none⟩),.pointer (some ⟨p3,0,none⟩)] w (I7 w (x*dn c+y*dn d) (dn d*dn c) (j+i+1)):=by
 go_enter Tryz.func128,Tryz.ntmps128;have S0:=hid (Sx.start (w:=w) (N:=[.cells p0 [.bool m,.slice ao n cap,.bool k,.slice bo l cb],.cells p1 [.bool u,.slice v s t],.cells p2 [.bool m2,.slice a2 n2 c2,.bool k2,.slice b2 l2 d2],.cells p3 [.bool u',.slice v' s' t'],.rx m ao n cap k bo l cb x d q j,.rx m2 a2 n2 c2 k2 b2 l2 d2 y c r i,.nb u v s t (dn c) i,.nb u' v' s' t' (dn d) j]) ⟨hp0,hp1,hp2,hp3,hx,hy,hyd,hxd,trivial⟩);clear hp0 hp1 hp2 hp3 hx hy hyd hxd;have S1:=hid (S0.out.var (w.heap.size) [.bool false,.slice none 0 0,.bool false,.slice none 0 0] 31 (by simp));clear S0;go_upto_region 1 with(fail)
 refine aj (fun w1 hW=>?_);rw[<-hW]at S1;clear hW;have S2:=hid (S1.out.drew);clear S1;refine wp_region_held_drew (S:=fun w'=>(w'.cell? ⟨p0,0,none⟩=some (.bool m)/\ w'.cell? ⟨p0,1,none⟩=some (.slice ao n cap)/\ w'.cell? ⟨p0,2,none⟩=some (.bool k)/\ w'.cell? ⟨p0,3,none⟩=some (.slice bo l cb))/\ (w'.cell? ⟨p1,0,none⟩=some (.bool u)/\ w'.cell? ⟨p1,1,none⟩=some (.slice v s t))/\ (w'.cell? ⟨p2,0,none⟩=some (.bool m2)/\ w'.cell? ⟨p2,1,none⟩=some (.slice a2 n2 c2)/\ w'.cell? ⟨p2,2,none⟩=some (.bool k2)/\ w'.cell? ⟨p2,3,none⟩=some (.slice b2 l2 d2))/\ (w'.cell? ⟨p3,0,none⟩=some (.bool u')/\ w'.cell? ⟨p3,1,none⟩=some (.slice v' s' t'))) (by kernel_rfl) (⟨S2.out.n.cells.c4,S2.out.n.t.cells.c2,S2.out.n.t.t.cells.c4,S2.out.n.t.t.t.cells.c2⟩) (fun hH=>?_);refine ai (fun w2 hW=>?_);rw[<-hW]at S2 hH;clear hW;refine bC 0 hH ?_;try simp only[aI]
 refine bC 1 hH ?_;try simp only[aI]
 refine bC 2 hH ?_;try simp only[aI]
 refine bC 3 hH ?_;try simp only[aI]
 refine bC 5 hH ?_;try simp only[aI]
 refine bC 6 hH ?_;try simp only[aI]
 refine bC 7 hH ?_;try simp only[aI]
 refine bC 10 hH ?_;try simp only[aI]
 refine bC 11 hH ?_;try simp only[aI]
 refine ah 4 rfl (by kernel_rfl) (fun K hK=>?_);go_simp;refine(jq S2.out.n.t.t.t.t.rx.num S2.out.n.t.t.t.t.t.t.nb.nx).mono ?_;rintro e w3 ⟨aX,aY,aZ,bf,rfl,hX,hB⟩;have S3:=hid (((S2.out.step hB).cb (hX.cb (S2.out.n.t.t.t.t.rx.bn.mul S2.out.n.t.t.t.t.t.t.nb.bd) (by omega)) rfl));clear S2 hX hB;go_wp2_with fail;refine hK.out _ _ ⟨S3.out.n.t.cells.c4,S3.out.n.t.t.cells.c2,S3.out.n.t.t.t.cells.c4,S3.out.n.t.t.t.t.cells.c2⟩ (fun h2=>?_);clear hK K hH;have hH:=h2;clear h2
 try simp only[aI]
 refine ah 8 rfl (by kernel_rfl) (fun K hK=>?_);go_simp;refine(jq S3.out.n.t.t.t.t.t.t.rx.num S3.out.n.t.t.t.t.t.t.t.t.nb.nx).mono ?_;rintro e w4 ⟨bP,bQ,bR,bS,rfl,hX,hB⟩;have S4:=hid (((S3.out.step hB).cb (hX.cb (S3.out.n.t.t.t.t.t.t.rx.bn.mul S3.out.n.t.t.t.t.t.t.t.t.nb.bd) (by omega)) rfl));clear S3 hX hB;go_wp2_with fail;refine hK.out _ _ ⟨S4.out.n.t.t.cells.c4,S4.out.n.t.t.t.cells.c2,S4.out.n.t.t.t.t.cells.c4,S4.out.n.t.t.t.t.t.cells.c2⟩ (fun h2=>?_);clear hK K hH;have hH:=h2;clear h2
 try simp only[aI]
 refine ah 9 rfl (by kernel_rfl) (fun K hK=>?_);go_simp;refine(uh S4.out.n.t.cb.cx.nx S4.out.n.cb.cx.nx).mono ?_;rintro e w5 ⟨dS,dU,dV,dW,rfl,hX,hB⟩;have S5:=hid (((S4.out.step hB).cb (hX.cb ((show Bd ((x*dn c)+(y*dn d)) ((j+i)+1)from S4.out.n.t.cb.bd.XV S4.out.n.cb.bd (by omega) (by omega))) (by omega)) rfl));clear S4 hX hB;go_wp2_with fail;refine hK.out _ _ ⟨S5.out.n.t.t.t.cells.c4,S5.out.n.t.t.t.t.cells.c2,S5.out.n.t.t.t.t.t.cells.c4,S5.out.n.t.t.t.t.t.t.cells.c2⟩ (fun h2=>?_);clear hK K hH;have hH:=h2;clear h2
 try simp only[aI]
 refine ah 12 rfl (by kernel_rfl) (fun K hK=>?_);go_simp;refine(jq S5.out.n.t.t.t.t.t.t.t.t.t.t.nb.nx S5.out.n.t.t.t.t.t.t.t.t.t.nb.nx).mono ?_;rintro e w6 ⟨fD,fE,fF,fG,rfl,hX,hB⟩;have S6:=hid (((S5.out.step hB).cb (hX.cb (S5.out.n.t.t.t.t.t.t.t.t.t.t.nb.bd.mul S5.out.n.t.t.t.t.t.t.t.t.t.nb.bd) (by omega)) rfl));clear S5 hX hB;go_wp2_with fail;refine hK.out _ _ ⟨S6.out.n.t.t.t.t.cells.c4,S6.out.n.t.t.t.t.t.cells.c2,S6.out.n.t.t.t.t.t.t.cells.c4,S6.out.n.t.t.t.t.t.t.t.cells.c2⟩ (fun h2=>?_);clear hK K hH;have hH:=h2;clear h2
 try simp only[aI]
 refine bC 13 hH ?_;try simp only[aI]
 refine ah 14 rfl (by kernel_rfl) (fun K hK=>?_);obtain⟨dG,dH,tC,tF⟩:=S6.out.b.c4;obtain⟨dO,dP,zh,zi⟩:=S6.out.b.f4;go_simp;clear dG dH tC tF dO dP zh zi;have S7:Hid (Sx w _ [⟨(w.heap.size),[.bool dS,.slice dU dV dW,.bool fD,.slice fE fF fG]⟩] _):=hid (Sx.set [] [] (Sx.set [] [] (Sx.set [] [] (Sx.set [] [] S6.out 0 (.bool dS)) 1 (.slice dU dV dW)) 2 (.bool fD)) 3 (.slice fE fF fG));clear S6;refine hK.out _ _ ⟨S7.out.n.t.t.t.t.cells.c4,S7.out.n.t.t.t.t.t.cells.c2,S7.out.n.t.t.t.t.t.t.cells.c4,S7.out.n.t.t.t.t.t.t.t.cells.c2⟩ (fun h2=>?_);clear hK K hH;have hH:=h2;clear h2
 try simp only[aI]
 refine ai (fun w7 hW=>?_);rw[<-hW]at S7 hH;clear hW;refine wpAnyH_done (by kernel_rfl) ?_ _
 clear hH;obtain⟨dG,dH,tC,tF⟩:=S7.out.b.c4;obtain⟨dO,dP,zh,zi⟩:=S7.out.b.f4;go_wp2_with fail;refine bodyPost_ret (v:= .agg #[.bool dS,.slice dU dV dW,.bool fD,.slice fE fF fG]) (by simp[results,Tryz.results128,go_sem,dG,dH,tC,tF]) rfl ?_;exact⟨_,_,_,_,_,_,_,_,rfl,⟨S7.out.n.t.cb.cx,S7.out.n.t.cb.bd.mono (by omega)⟩,⟨S7.out.n.cb.cx,S7.out.n.cb.bd.mono (by omega)⟩,S7.out.h⟩
end Go.Proofs.YtmenbpmciblnlaaGreatDoor
/- The contracts of ratio's field: Sign, Cmp, Neg, Add, Sub, Mul, Whole. -/
namespace Go.Proofs.YtmenbpmciblnlaaGreatDoor
open Lib (hid)
open Go.RowKit
theorem UM (d c:Int):dn (dn d*dn c)=dn d*dn c:=NG (fun h=>by
 rcases Int.mul_eq_zero.1 h with h1|h1
 ·exact lZ d h1
 ·exact lZ c h1)
theorem UN {x d y c:Int} {q r:Rat} (hq:qv x d=q) (hr:qv y c=r):qv (x*dn c+y*dn d) (dn d*dn c)=q+r:=by
 rw[<-hq,<-hr,lV,lV,lV,UM,Rat.divInt_add_divInt _ _ (lZ d) (lZ c)]
theorem Ri (w:World):Cb w false none 0 0 0 1:=⟨tZ w,CF⟩
theorem NM [Ol] {m:Bool} {ao:Option Addr} {n cap:Nat} {k:Bool} {bo:Option Addr} {l cb:Nat} {m2:Bool} {a2:Option Addr} {n2 c2:Nat} {k2:Bool} {b2:Option Addr} {l2 d2:Nat} {x d y c:Int} {q r:Rat} {j i:Nat} {w:World} (hx:Rx w m ao n cap k bo l cb x d q j) (hy:Rx w m2 a2 n2 c2 k2 b2 l2 d2 y c r i) (hj:1<=j) (hi:1<=i) (hk:j+i+1<=100000):
  Calls Tryz.prog 28 #[.agg #[.bool m,.slice ao n cap,.bool k,.slice bo l cb],.agg #[.bool m2,.slice a2 n2 c2,.bool k2,.slice b2 l2 d2]] w (Ci w (q+r) (j+i+1)):=by
 have HV:=hid (UN hx.val hy.val);go_enter Tryz.func28,Tryz.ntmps28;have S0:=hid (Sx.start (w:=w) (N:=[.rx m ao n cap k bo l cb x d q j,.rx m2 a2 n2 c2 k2 b2 l2 d2 y c r i]) ⟨hx,hy,trivial⟩);clear hx hy;have S1:=hid (S0.out.var (w.heap.size) [.bool m,.slice ao n cap,.bool k,.slice bo l cb] 31 (by simp));clear S0;have S2:=hid (S1.out.var (w.heap.size+1) [.bool m2,.slice a2 n2 c2,.bool k2,.slice b2 l2 d2] 31 (by simp));clear S1;have S3:=hid (S2.out.var (w.heap.size+2) [.bool false,.slice none 0 0,.bool false,.slice none 0 0] 31 (by simp));clear S2;go_upto_region 1 with(fail)
 refine aj (fun w1 hW=>?_);rw[<-hW]at S3;clear hW;obtain⟨dD,dF,eT,eU⟩:=S3.out.b.t.t.c4;obtain⟨bN,bO,kM,kN⟩:=S3.out.b.t.c4;go_wp2_with fail;clear dD dF eT eU bN bO kM kN;refine(Rh S3.out.n.rx S3.out.n.t.rx (by omega) (by omega)).mono ?_;rintro e w2 ⟨p0,p1,p2,p3,u_m,u_0,u_n,u_c,u_k,u_1,u_l,u_d,rfl,hC0,hC1,hC2,hC3,hN1,ZN,hB⟩;have S4:=hid ((S3.out.step hB));clear S3 hB;go_wp2_with fail;refine(NK S4.out.n.rx S4.out.n.t.rx hC0 hC1 hC2 hC3 hN1 ZN (by omega)).mono ?_;rintro e w3 ⟨aX,aY,aZ,bf,ED,EF,EG,EH,rfl,hX,hY,hB⟩;have S5:=hid ((((S4.out.step hB).cb hY rfl).cb hX rfl));clear S4 hX hY hB hC0 hC1 hC2 hC3 hN1 ZN;go_wp2_with fail;refine(zf (⟨S5.out.n.cb.cx.nx,S5.out.n.t.cb.cx.nx,HV.out,S5.out.n.cb.bd.mono (by omega),S5.out.n.t.cb.bd.mono (by omega)⟩:Rx _ _ _ _ _ _ _ _ _ _ _ (q+r) (j+i+1)) (by omega) (by omega)).mono ?_;rintro e w4 ⟨bP,bQ,bR,bS,QD,QE,QF,QG,rfl,hX,hB⟩;have S6:=hid (((S5.out.step hB).rc hX rfl));clear S5 hX hB;obtain⟨bK,bL,sJ,sK⟩:=S6.out.b.c4;obtain⟨fB,fC,Cj,Ck⟩:=S6.out.b.f4;go_wp2_with fail;have S7:Hid (Sx w _ [⟨(w.heap.size+2),[.bool bP,.slice bQ bR bS,.bool QD,.slice QE QF QG]⟩,⟨(w.heap.size+1),[.bool m2,.slice a2 n2 c2,.bool k2,.slice b2 l2 d2]⟩,⟨(w.heap.size),[.bool m,.slice ao n cap,.bool k,.slice bo l cb]⟩] _):=hid (Sx.set [] [⟨(w.heap.size+1),[.bool m2,.slice a2 n2 c2,.bool k2,.slice b2 l2 d2]⟩,⟨(w.heap.size),[.bool m,.slice ao n cap,.bool k,.slice bo l cb]⟩] (Sx.set [] [⟨(w.heap.size+1),[.bool m2,.slice a2 n2 c2,.bool k2,.slice b2 l2 d2]⟩,⟨(w.heap.size),[.bool m,.slice ao n cap,.bool k,.slice bo l cb]⟩] (Sx.set [] [⟨(w.heap.size+1),[.bool m2,.slice a2 n2 c2,.bool k2,.slice b2 l2 d2]⟩,⟨(w.heap.size),[.bool m,.slice ao n cap,.bool k,.slice bo l cb]⟩] (Sx.set [] [⟨(w.heap.size+1),[.bool m2,.slice a2 n2 c2,.bool k2,.slice b2 l2 d2]⟩,⟨(w.heap.size),[.bool m,.slice ao n cap,.bool k,.slice bo l cb]⟩] S6.out 0 (.bool bP)) 1 (.slice bQ bR bS)) 2 (.bool QD)) 3 (.slice QE QF QG));clear S6;refine bodyPost_ret (v:= .agg #[.bool bP,.slice bQ bR bS,.bool QD,.slice QE QF QG]) (by simp[results,Tryz.results28,go_sem,bK,bL,sJ,sK]) rfl ?_
 exact⟨_,_,_,_,_,_,_,_,rfl,S7.out.n.rc,S7.out.h⟩
theorem yZ [Ol] {m:Bool} {ao:Option Addr} {n cap:Nat} {x:Int} {j:Nat} {w:World} (hx:Nx w m ao n cap x) (hb:Bd x j) (h1:1<=j) (h2:j<=100000):
  Calls Tryz.prog 147 #[.agg #[.bool m,.slice ao n cap]] w (Ci w (qv x 0) j):=by
 have hz0:=Ri w;have hxb:Nb w m ao n cap x j:=⟨hx,hb⟩;clear hx hb;go_enter Tryz.func147,Tryz.ntmps147;have S0:=hid (Sx.start (w:=w) (N:=[.nb m ao n cap x j,.cb false none 0 0 (0:Int) 1]) ⟨hxb,hz0,trivial⟩);clear hxb hz0;have S1:=hid (S0.out.var (w.heap.size) [.bool m,.slice ao n cap] 29 (by simp));clear S0;have S2:=hid (S1.out.var (w.heap.size+1) [.bool false,.slice none 0 0,.bool false,.slice none 0 0] 31 (by simp));clear S1;go_upto_region 1 with(fail)
 refine aj (fun w1 hW=>?_);rw[<-hW]at S2;clear hW;obtain⟨dz,dA⟩:=S2.out.b.t.c2;go_wp2_with fail;clear dz dA;refine(zf (⟨S2.out.n.nb.nx,S2.out.n.t.cb.cx.nx,rfl,S2.out.n.nb.bd.mono (by omega),S2.out.n.t.cb.bd.mono (by omega)⟩:Rx _ _ _ _ _ _ _ _ _ _ _ (qv x 0) j) (by omega) (by omega)).mono ?_;rintro e w2 ⟨aX,aY,aZ,bf,ED,EF,EG,EH,rfl,hX,hB⟩;have S3:=hid (((S2.out.step hB).rc hX rfl));clear S2 hX hB;obtain⟨dD,dF,eT,eU⟩:=S3.out.b.c4;obtain⟨lM,lN,oO,oP⟩:=S3.out.b.f4;go_wp2_with fail;have S4:Hid (Sx w _ [⟨(w.heap.size+1),[.bool aX,.slice aY aZ bf,.bool ED,.slice EF EG EH]⟩,⟨(w.heap.size),[.bool m,.slice ao n cap]⟩] _):=hid (Sx.set [] [⟨(w.heap.size),[.bool m,.slice ao n cap]⟩] (Sx.set [] [⟨(w.heap.size),[.bool m,.slice ao n cap]⟩] (Sx.set [] [⟨(w.heap.size),[.bool m,.slice ao n cap]⟩] (Sx.set [] [⟨(w.heap.size),[.bool m,.slice ao n cap]⟩] S3.out 0 (.bool aX)) 1 (.slice aY aZ bf)) 2 (.bool ED)) 3 (.slice EF EG EH));clear S3;refine bodyPost_ret (v:= .agg #[.bool aX,.slice aY aZ bf,.bool ED,.slice EF EG EH]) (by simp[results,Tryz.results147,go_sem,dD,dF,eT,eU]) rfl ?_;exact⟨_,_,_,_,_,_,_,_,rfl,S4.out.n.rc,S4.out.h⟩
end Go.Proofs.YtmenbpmciblnlaaGreatDoor
/- The contracts of ratio.Of, Small, Div. -/
namespace Go.Proofs.YtmenbpmciblnlaaGreatDoor
open Go.RowKit
end Go.Proofs.YtmenbpmciblnlaaGreatDoor

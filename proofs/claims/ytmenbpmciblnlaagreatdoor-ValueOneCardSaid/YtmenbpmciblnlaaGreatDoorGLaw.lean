/- Law, Law2, RowKit -/
import Derived.Test.YtmenbpmciblnlaaGreatDoorGRef
import Derived.ProofKit
import Derived.SizedLaws
set_option maxHeartbeats 40000000
set_option maxRecDepth 100000
/- What the walks of the laws share: all live slices under one name. -/
namespace Go.Proofs.YtmenbpmciblnlaaGreatDoor
open Go.RowKit
def All (w:World):List (Option Addr×Nat×Nat×List Nat)->Prop
 |[]=>True
 |s::r=>Sl w s.1 s.2.1 s.2.2.1 s.2.2.2/\ All w r
theorem All.nil (w:World):All w []:=trivial
theorem All.cons {w:World} {ao:Option Addr} {n cap:Nat} {xs:List Nat} {r:List (Option Addr×Nat×Nat×List Nat)} (h:Sl w ao n cap xs) (hr:All w r):All w ((ao,n,cap,xs)::r):=⟨h,hr⟩
theorem All.head {w:World} {ao:Option Addr} {n cap:Nat} {xs:List Nat} {r:List (Option Addr×Nat×Nat×List Nat)} (h:All w ((ao,n,cap,xs)::r)):Sl w ao n cap xs:=h.1
theorem All.tl {w:World} {s:Option Addr×Nat×Nat×List Nat} {r:List (Option Addr×Nat×Nat×List Nat)} (h:All w (s::r)):All w r:=h.2
theorem All.below {w w':World} (hb:Below w.heap.size w w'):∀{r:List (Option Addr×Nat×Nat×List Nat)},All w r->All w' r
 |[],_=>trivial
 | _::_,h=>⟨h.1.below hb,All.below hb h.2⟩
theorem gZ {n k:Nat} (h:n<4294967296^k):(limbs n).length<=k:=by
 rcases Nat.lt_or_ge k (limbs n).length with hl|hl
 ·obtain⟨j,hj⟩:∃j,nl (limbs n)=j+1:=⟨(limbs n).length-1,by rw[fH];omega⟩;have h1:=fu j hj;rw[au]at h1;have h2:4294967296^k<=4294967296^j:=Nat.pow_le_pow_right (by omega) (by rw[fH]at hj;omega);omega
 ·exact hl
theorem qU {xs:List Nat} {n:Nat} (k:Nat) (hw:Wf xs) (hl:xs.length=n) (hk:n<=k):val xs<4294967296^k:=by
 have h:=eu xs hw;rw[hl]at h;exact Nat.lt_of_lt_of_le h (Nat.pow_le_pow_right (by omega) hk)
theorem wE {a j k:Nat} (h:a<4294967296^j) (hk:j<=k):a<4294967296^k:=
 Nat.lt_of_lt_of_le h (Nat.pow_le_pow_right (by omega) hk)
theorem Qr (r:Bool) (a0 b0:Option Addr) (la ca lb cb:Nat) (xs ys:List Nat) (w:World) (ha:Sl w a0 la ca xs) (hb:Sl w b0 lb cb ys) (h:pV xs ys=r):
  Calls Tryz.prog 103 #[.slice a0 la ca,.slice b0 lb cb] w (dI (.bool r) w):=by
 rw[<-h];exact(ME a0 b0 la ca lb cb xs ys w ha hb).mono fun _ _ h=>h.b
end Go.Proofs.YtmenbpmciblnlaaGreatDoor
/- What the walks of laws over limbs and digits share. -/
namespace Go.Proofs.YtmenbpmciblnlaaGreatDoor
open Go.RowKit
def Dg.All [Ol] (w:World):List (Option Addr×Nat×Nat×List Nat)->Prop
 |[]=>True
 |s::r=>Dg.Sl w s.1 s.2.1 s.2.2.1 s.2.2.2/\ Dg.All w r
theorem Dg.All.nil [Ol] (w:World):Dg.All w []:=trivial
theorem Dg.All.cons [Ol] {w:World} {ao:Option Addr} {n cap:Nat} {xs:List Nat} {r:List (Option Addr×Nat×Nat×List Nat)} (h:Dg.Sl w ao n cap xs) (hr:Dg.All w r):Dg.All w ((ao,n,cap,xs)::r):=⟨h,hr⟩
theorem Dg.All.head [Ol] {w:World} {ao:Option Addr} {n cap:Nat} {xs:List Nat} {r:List (Option Addr×Nat×Nat×List Nat)} (h:Dg.All w ((ao,n,cap,xs)::r)):Dg.Sl w ao n cap xs:=h.1
theorem Dg.All.tail [Ol] {w:World} {s:Option Addr×Nat×Nat×List Nat} {r:List (Option Addr×Nat×Nat×List Nat)} (h:Dg.All w (s::r)):Dg.All w r:=h.2
theorem Dg.All.below [Ol] {w w':World} (hb:Below w.heap.size w w'):∀{r:List (Option Addr×Nat×Nat×List Nat)},Dg.All w r->Dg.All w' r
 |[],_=>trivial
 | _::_,h=>⟨h.1.below hb,Dg.All.below hb h.2⟩
end Go.Proofs.YtmenbpmciblnlaaGreatDoor
/- What the rows of the laws share: an argument of type []uint32 opened once; closed facts. -/
namespace Go.Proofs.YtmenbpmciblnlaaGreatDoor
open Go.ChangeShapes Go.WideShapes Go.ChangeAt Go.RowKit
theorem Tryz.own:ownKnob Tryz.prog.godebug=none:=by kernel_rfl
end Go.Proofs.YtmenbpmciblnlaaGreatDoor

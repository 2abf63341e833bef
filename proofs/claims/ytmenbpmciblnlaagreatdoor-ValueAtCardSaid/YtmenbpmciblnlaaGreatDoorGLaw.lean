/- Law, Law2, RowKit -/
import Derived.Test.YtmenbpmciblnlaaGreatDoorGRef
import Derived.ProofKit
set_option maxHeartbeats 0
set_option maxRecDepth 100000
open Nat renaming lt_of_lt_of_le->a0b,pow_le_pow_right->a0a
/- What the walks of the laws share: all live slices under one name. -/
namespace Go.Proofs.YtmenbpmciblnlaaGreatDoor
section
open Go.RowKit
def All (w:World):List (Option Addr×Nat×Nat×List Nat)->Prop
 |[]=>True
 |s::r=>Sl w s.1 s.2.1 s.2.2.1 s.2.2.2/\ All w r
theorem All.nil (w:World):All w []:=trivial
theorem All.cons {w:World} {ao:Option Addr} {n cap:Nat} {xs:List Nat} {r:List (Option Addr×Nat×Nat×List Nat)} (h:Sl w ao n cap xs) (hr:All w r):All w ((ao,n,cap,xs)::r):=⟨h,hr⟩
theorem All.head {w:World} {ao:Option Addr} {n cap:Nat} {xs:List Nat} {r:List (Option Addr×Nat×Nat×List Nat)} (h:All w ((ao,n,cap,xs)::r)):Sl w ao n cap xs:=h.1
theorem All.tl {w:World} {s:Option Addr×Nat×Nat×List Nat} {r:List (Option Addr×Nat×Nat×List Nat)} (h:All w (s::r)):All w r:=h.2
theorem All.below {w w':World} (hb:Below w.heap.size w w'):∀{r:List (Option Addr×Nat×Nat×List Nat)},All w r->All w' r
 |[],_=>trivial
 | _::_,h=>⟨h.1.below hb,All.below hb h.2⟩
theorem gD {n k:Nat} (h:n<4294967296^k):(limbs n).length<=k:=by
 rcases Nat.lt_or_ge k (limbs n).length with hl|hl
 ·obtain⟨j,hj⟩:∃j,nl (limbs n)=j+1:=⟨(limbs n).length-1,by rw[fQ];omega⟩;have h1:=fC j hj;rw[au]at h1;have h2:4294967296^k<=4294967296^j:=a0a (by omega) (by rw[fQ]at hj;omega);omega
 ·exact hl
theorem tQ {xs:List Nat} {n:Nat} (k:Nat) (hw:Wf xs) (hl:xs.length=n) (hk:n<=k):val xs<4294967296^k:=by
 have h:=eG xs hw;rw[hl]at h;exact a0b h (a0a (by omega) hk)
theorem yM {a j k:Nat} (h:a<4294967296^j) (hk:j<=k):a<4294967296^k:=
 a0b h (a0a (by omega) hk)
theorem Vw (r:Bool) (a0 b0:Option Addr) (la ca lb cb:Nat) (xs ys:List Nat) (w:World) (ha:Sl w a0 la ca xs) (hb:Sl w b0 lb cb ys) (h:qO xs ys=r):
  Calls Tryz.prog 103 #[.slice a0 la ca,.slice b0 lb cb] w (cu (.bool r) w):=by
 rw[<-h];exact(Tm a0 b0 la ca lb cb xs ys w ha hb).mono λ_ _ h=>h.b
end
/- What the walks of laws over limbs and digits share. -/
section
open Go.RowKit
def Dg.All [Ol] (w:World):List (Option Addr×Nat×Nat×List Nat)->Prop
 |[]=>True
 |s::r=>Dg.Sl w s.1 s.2.1 s.2.2.1 s.2.2.2/\ Dg.All w r
theorem Dg.All.nil [Ol] (w:World):Dg.All w []:=trivial
theorem Dg.All.cons [Ol] {w:World} {ao:Option Addr} {n cap:Nat} {xs:List Nat} {r:List (Option Addr×Nat×Nat×List Nat)} (h:Dg.Sl w ao n cap xs) (hr:Dg.All w r):Dg.All w ((ao,n,cap,xs)::r):=⟨h,hr⟩
theorem Dg.All.head [Ol] {w:World} {ao:Option Addr} {n cap:Nat} {xs:List Nat} {r:List (Option Addr×Nat×Nat×List Nat)} (h:Dg.All w ((ao,n,cap,xs)::r)):Dg.Sl w ao n cap xs:=h.1
theorem Dg.All.tail [Ol] {w:World} {s:Option Addr×Nat×Nat×List Nat} {r:List (Option Addr×Nat×Nat×List Nat)} (h:Dg.All w (s::r)):Dg.All w r:=h.2
theorem Dg.All.below [Ol] {w w':World} (hb:Below w.heap.size w w'):∀{r:List (Option Addr×Nat×Nat×List Nat)},Dg.All w r->Dg.All w' r
 |[],_=>trivial
 | _::_,h=>⟨h.1.below hb,Dg.All.below hb h.2⟩
end
/- What the rows of the laws share: an argument of type []uint32 opened once; closed facts. -/
section
open Go.ChangeShapes Go.WideShapes Go.ChangeAt Go.RowKit
theorem Tryz.own:ownKnob Tryz.prog.godebug=none:=by kernel_rfl
theorem Tryz.laidOut:laidOutB Tryz.prog=true:=by kernel_rfl
theorem Tryz.CY:Tryz.prog.cellsOf 192=1:=by kernel_rfl
theorem Tryz.MK:Tryz.prog.bytesOf 192=4:=by kernel_rfl
theorem Tn {n:Int} (h:(Lit.int .u32 n).wf=true):0<=n/\ n<4294967296:=by
 simp[Lit.wf,IntKind.min,IntKind.max,IntKind.signed,IntKind.bits]at h;omega
theorem P7 {H:Type} {enc:TypeId×Value->H} {W:World} {a0:Option Addr} {len cap:Nat} {d:DataW H} {p:List MemPlace}
  (hd:DataW.Trod enc Tryz.prog W 0 (λ_=>true) true 27 (.slice a0 len cap) d p)
  (hsz:∀elems spare,d= .slice elems spare->(elems.length+spare.length)*4<=140737488351232):
  ∃xs:List Nat,Sl W a0 len cap xs:=by
 obtain⟨fuel,hf⟩:=hd;rcases open_ints Tryz.underlying27 Tryz.underlying192 Tryz.CY hf with⟨hcs,hx⟩|⟨a,len',cap',zs,hcs,_,hl,hm,hz,hx,hcell,hwz⟩
 ·simp[Value.cells]at hcs;obtain⟨rfl,rfl,rfl⟩:=hcs;exact⟨[],Sl.none W⟩
 ·simp[Value.cells]at hcs;obtain⟨rfl,rfl,rfl⟩:=hcs;simp only[Prod.mk.injEq]at hx;obtain⟨rfl,rfl⟩:=hx;simp only[if_true]at hz;have hs:=hsz _ _ rfl;simp only[lits,List.length_map,List.length_take,List.length_drop]at hs;refine⟨(zs.take len).map Int.toNat,by simp;omega,hl,by omega,?_,(λh=>by cases h),λad had t ht=>?_⟩
  ·intro x hx;obtain⟨z,hz1,rfl⟩:=List.mem_map.1 hx;have:=Tn (hwz z (List.mem_of_mem_take hz1));omega
  ·obtain rfl:=Option.some.inj had;rw[hcell t (by omega)];have hmem:zs[t]'(by omega)∈zs:=List.getElem_mem _;have hw:=Tn (hwz _ hmem)
   have e:((((zs.take len).map Int.toNat).getD t 0:Nat):Int)=zs.getD t 0:=by
    simp[List.getD,ht,show t<zs.length by omega];omega
   rw[e]
end
end Go.Proofs.YtmenbpmciblnlaaGreatDoor

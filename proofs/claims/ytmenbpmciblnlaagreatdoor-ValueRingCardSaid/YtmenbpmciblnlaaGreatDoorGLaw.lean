import Derived.Test.YtmenbpmciblnlaaGreatDoorGRef
import Derived.ProofKit
set_option maxHeartbeats 0
set_option maxRecDepth 100000
open Nat renaming lt_of_lt_of_le->ah6,pow_le_pow_right->ah5
namespace Go.Proofs.YtmenbpmciblnlaaGreatDoor
section
open Go.RowKit
def qC (w:World):List (Option Addr×Nat×Nat×List Nat)->Prop
 |[]=>True
 |s::r=>Sl w s.1 s.2.1 s.2.2.1 s.2.2.2/\ qC w r
theorem qC.nil (w:World):qC w []:=trivial
theorem qC.cons {w:World} {ao:Z'} {n ae:Nat} {xs:List Nat} {r:List (Option Addr×Nat×Nat×List Nat)} (h:Sl w ao n ae xs) (hr:qC w r):qC w ((ao,n,ae,xs)::r):=⟨h,hr⟩
theorem qC.head {w:World} {ao:Z'} {n ae:Nat} {xs:List Nat} {r:List (Option Addr×Nat×Nat×List Nat)} (h:qC w ((ao,n,ae,xs)::r)):Sl w ao n ae xs:=h.1
theorem qC.tl {w:World} {s:Option Addr×Nat×Nat×List Nat} {r:List (Option Addr×Nat×Nat×List Nat)} (h:qC w (s::r)):qC w r:=h.2
theorem qC.below {w w':World} (hb:Below w.heap.size w w'):∀{r:List (Option Addr×Nat×Nat×List Nat)},qC w r->qC w' r
 |[],_=>trivial
 | _::_,h=>⟨h.1.below hb,qC.below hb h.2⟩
theorem fR {n k:Nat} (h:n<4294967296^k):(aq n).length<=k:=by
 rcases Nat.lt_or_ge k (aq n).length with hl|hl
 ·obtain⟨j,hj⟩:∃j,nl (aq n)=j+1:=⟨(aq n).length-1,by rw[eI];omega⟩;have h1:=eh j hj;rw[av]at h1;have h2:4294967296^k<=4294967296^j:=ah5 (by omega) (by rw[eI]at hj;omega);omega
 ·exact hl
theorem qb {xs:List Nat} {n:Nat} (k:Nat) (hw:Wf xs) (hl:xs.length=n) (hk:n<=k):au xs<4294967296^k:=by
 have h:=dG xs hw;rw[hl]at h;exact ah6 h (ah5 (by omega) hk)
theorem uD {a j k:Nat} (h:a<4294967296^j) (hk:j<=k):a<4294967296^k:=
 ah6 h (ah5 (by omega) hk)
theorem Rv (r:Bool) (a0 b0:Z') (la ca lb cb:Nat) (xs ys:List Nat) (w:World) (ha:Sl w a0 la ca xs) (hb:Sl w b0 lb cb ys) (h:oH xs ys=r):
  Calls Tryz.prog 103 #[.slice a0 la ca,.slice b0 lb cb] w (cr (.bool r) w):=by
 rw[<-h];exact(OI a0 b0 la ca lb cb xs ys w ha hb).mono λ_ _ h=>h.b
end
section
open Go.RowKit
end
section
open Go.ChangeShapes Go.WideShapes Go.ChangeAt Go.RowKit
theorem Tryz.own:ownKnob Tryz.prog.godebug=none:=by kernel_rfl
theorem Tryz.Ca:laidOutB Tryz.prog=true:=by kernel_rfl
theorem Tryz.yQ:Tryz.prog.cellsOf 192=1:=by kernel_rfl
theorem Tryz.Jh:Tryz.prog.bytesOf 192=4:=by kernel_rfl
theorem OJ {n:Int} (h:(Lit.int .u32 n).wf=true):0<=n/\ n<4294967296:=by
 simp[Lit.wf,IntKind.min,IntKind.max,IntKind.signed,IntKind.bits]at h;omega
theorem L6 {H:Type} {enc:TypeId×Value->H} {W:World} {a0:Z'} {len ae:Nat} {d:DataW H} {p:List MemPlace}
  (hd:DataW.Trod enc Tryz.prog W 0 (λ_=>true) true 27 (.slice a0 len ae) d p)
  (hsz:∀elems spare,d= .slice elems spare->(elems.length+spare.length)*4<=140737488351232):
  ∃xs:List Nat,Sl W a0 len ae xs:=by
 obtain⟨fuel,hf⟩:=hd;rcases open_ints Tryz.underlying27 Tryz.underlying192 Tryz.yQ hf with⟨hcs,hx⟩|⟨a,len',cap',zs,hcs,_,hl,hm,hz,hx,hcell,hwz⟩
 ·simp[Value.cells]at hcs;obtain⟨rfl,rfl,rfl⟩:=hcs;exact⟨[],Sl.none W⟩
 ·simp[Value.cells]at hcs;obtain⟨rfl,rfl,rfl⟩:=hcs;simp only[Prod.mk.injEq]at hx;obtain⟨rfl,rfl⟩:=hx;simp only[if_true]at hz;have hs:=hsz _ _ rfl;simp only[lits,List.length_map,List.length_take,List.length_drop]at hs;refine⟨(zs.take len).map Int.toNat,by simp;omega,hl,by omega,?_,(λh=>by cases h),λad had t ht=>?_⟩
  ·intro x hx;obtain⟨z,hz1,rfl⟩:=List.mem_map.1 hx;have:=OJ (hwz z (List.mem_of_mem_take hz1));omega
  ·obtain rfl:=Option.some.inj had;rw[hcell t (by omega)];have hmem:zs[t]'(by omega)∈zs:=List.getElem_mem _;have hw:=OJ (hwz _ hmem)
   have e:((((zs.take len).map Int.toNat).getD t 0:Nat):Int)=zs.getD t 0:=by
    simp[List.getD,ht,show t<zs.length by omega];omega
   rw[e]
end
end Go.Proofs.YtmenbpmciblnlaaGreatDoor

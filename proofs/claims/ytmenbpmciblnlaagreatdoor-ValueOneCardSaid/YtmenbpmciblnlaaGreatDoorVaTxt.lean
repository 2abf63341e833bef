/-
  A polynomial's text, term by term.
-/
import Derived.Test.YtmenbpmciblnlaaGreatDoorGTx
set_option maxHeartbeats 40000000
set_option maxRecDepth 100000
namespace Go.Proofs.YtmenbpmciblnlaaGreatDoor
open Go.RowKit Go.Lib
def lK (i:Nat) (t:Term):List UInt8:=(if t.1<0 then[45]else if 0<i then[43]else[])++gI t
def Af:Nat->List Term->List UInt8
 | _,[]=>[]
 |i,t::r=>lK i t++Af (i+1) r
theorem Ed (t:Term):∀(p:List Term) (i:Nat),Af i (p++[t])=Af i p++lK (i+p.length) t
 |[],i=>by simp[Af]
 |s::r,i=>by
  simp only[List.cons_append,Af,List.length_cons];rw[Ed t r (i+1),List.append_assoc,show i+1+r.length=i+(r.length+1)by omega]
theorem Ee:∀(p:List Term) (i:Nat),0<i->Af i p=nL p
 |[],_,_=>rfl
 |t::r,i,h=>by
  simp only[Af,nL,lK];rw[Ee r (i+1) (by omega),if_pos h];split<;>simp
theorem MV {p:List Term} (h:p≠[]):Af 0 p=jo p:=by
 cases p with
 |nil=>exact absurd rfl h
 |cons t r=>
  simp only[Af,jo,lK];rw[Ee r 1 (by omega)];simp
theorem AQ {X:Nat}:∀(ms:List (Int×Int)),(∀x∈ms,(jl x).length<=X)->(kP ms).length<=ms.length*(X+1)
 |[],_=>by simp[kP]
 |w::r,h=>by
  have h1:=h w (by simp);have h2:=AQ r fun x hx=>h x (by simp[hx])
  simp only[kP,List.length_cons,List.length_append];rw[Nat.add_mul];omega
theorem MW {v e:Int} (hv:0<=v/\ v<=10000) (he:0<=e/\ e<=10000):(jl (v,e)).length<=12:=by
 have h1:=nM hv.1 hv.2;have h2:=nM he.1 he.2;unfold jl;simp only[List.length_cons,List.length_append];split
 ·simp;omega
 ·simp;omega
end Go.Proofs.YtmenbpmciblnlaaGreatDoor

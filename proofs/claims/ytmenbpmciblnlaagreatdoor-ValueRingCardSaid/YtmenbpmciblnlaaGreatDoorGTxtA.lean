import Derived.Test.YtmenbpmciblnlaaGreatDoorGWInt
import Derived.Shelf.Small.Wraps
import Derived.Shelf.Pu.ParseUintPublic10
import Derived.Shelf.Strconv.Itoa2
import Derived.Shelf.Strconv.Itoa1
import Derived.Lib.AppendIntMem
import Derived.Shelf.Strings.Repeat
set_option maxHeartbeats 0
set_option maxRecDepth 100000
open Array renaming size_replicate->ah5
open Bool renaming and_eq_true->ah6
open Go renaming Value->ah8,World->ah7
open Go.Shelf renaming Ren->ah9
open Go.Value renaming int->ai0,slice->ai1
open List renaming all_eq_true->ai4,append_assoc->ai2,drop->ak3,drop_left->ak5,foldl_cons->ai5,getElem?_append_left->aj2,getElem?_eq_none->aj8,getElem?_replicate->aj4,getElem?_take_of_lt->aj3,getElem?_toArray->aj7,isPrefixOf->aj1,length_append->ak1,length_cons->ai6,length_pos_iff->ai9,length_replicate->aj5,length_take->aj0,mem_replicate->aj6,replicate->ai3,replicate_append_replicate->ak4,take->ak2,take_append->aj9,take_of_length_le->ak0,take_succ_cons->ai7,take_zero->ai8
open Nat renaming add_assoc->ak6,add_mul->al8,add_sub_cancel->am9,div_div_eq_div_mul->ak7,div_eq_of_lt->al1,eq_zero_or_pos->am4,le_mul_of_pos_right->am1,le_refl->al0,le_trans->am6,lt_of_lt_of_le->am5,lt_or_ge->am7,min->am8,min_eq_left->am2,mod_eq_of_lt->al2,mul_assoc->al9,mul_comm->ak9,mul_zero->al5,pow_le_pow_right->am3,pow_pos->al3,pow_succ->ak8,strongRecOn->am0,sub_self->al4,zero_add->al7,zero_mul->al6
open UInt8 renaming ofNat->an0
namespace Go.Proofs.YtmenbpmciblnlaaGreatDoor
section
open Go.Lib
def je:Nat->Nat->List UInt8
 |0,_=>[]
 |k+1,v=>je k (v/10)++[an0 (48+v%10)]
theorem Oo (a:Nat) (b:Nat):∀v,je (a+b) v=je a (v/10^b)++je b v:=by
 induction b with
 |zero=>intro v;simp[je]
 |succ b ih=>
  intro v;rw[<-ak6,je,ih,je,<-ai2,ak7,ak8,ak9 10]
theorem Oq (k:Nat):∀v,je k (v%10^k)=je k v:=by
 induction k with
 |zero=>intro v;rfl
 |succ k ih=>
  intro v;rw[je,je,ak8,Nat.mod_mul_left_div_self,ih,Nat.mod_mul_left_mod]
theorem KU (k:Nat):je k 0=ai3 k 48:=by
 induction k with
 |zero=>rfl
 |succ k ih=>rw[je,Nat.zero_div,ih,List.replicate_succ'];rfl
theorem nJ (k:Nat):∀v,v<10^(k+1)->nDigits v<=k+1:=by
 induction k with
 |zero=>intro v h;rw[nDigits_small (by omega)];exact al0 _
 |succ k ih=>
  intro v h;by_cases h1:v<10
  ·rw[nDigits_small h1];omega
  ·rw[nDigits_big h1];have h2:=ih (v/10) (by rw[ak8]at h;omega);omega
theorem Ot (k:Nat):∀v,nDigits v<=k->je k v=ai3 (k-nDigits v) 48++decDigits v:=by
 induction k with
 |zero=>intro v h;have:=nDigits_pos v;omega
 |succ k ih=>
  intro v h;rw[je];by_cases h1:v<10
  ·rw[nDigits_small h1,decDigits_one h1,al1 h1,KU,al2 h1];rfl
  ·rw[nDigits_big h1]at h ⊢;rw[ih _ (by omega),decDigits.eq_def v,dif_neg h1,ai2,Nat.add_sub_add_right]
theorem vd (b:Nat):∀n,10^b<=n->decDigits n=decDigits (n/10^b)++je b n:=by
 induction b with
 |zero=>intro n _;simp[je]
 |succ b ih=>
  intro n h;have hp:0<10^b:=al3 (by omega);rw[ak8]at h;have h1:¬n<10:=by omega
  rw[decDigits.eq_def n,dif_neg h1,ih (n/10) (by omega),je,ai2,ak7,ak8,ak9 10]
def gC (n j:Nat):Nat:=n/10^(9*j)%1000000000
theorem oW (n j:Nat):gC n j<1000000000:=Nat.mod_lt _ (by omega)
def LL (n K:Nat):List Nat:=(List.range K).map (gC n)
theorem FY (n K:Nat):(LL n K).length=K:=by simp[LL]
theorem Nf (n K:Nat):LL n (K+1)=LL n K++[gC n K]:=by simp[LL,List.range_succ]
theorem C9 (n K j:Nat) (h:j<K):(LL n K).getD j 0=gC n j:=by simp[LL,List.getD,h]
theorem UD (n K:Nat):∀x∈LL n K,x<4294967296:=by
 intro x hx;obtain⟨j,_,rfl⟩:=List.mem_map.1 hx;have:=oW n j;omega
theorem Q2:(10:Nat)^9=1000000000:=by decide
theorem qa (n k:Nat):n/10^(9*k)/1000000000=n/10^(9*(k+1)):=by
 rw[ak7,<-Q2,<-Nat.pow_add]
 congr 2
def Ou (n L k:Nat):List UInt8:=decDigits (n/10^(9*L))++(ai3 (9*(L-k)) 48++je (9*k) n)
theorem KV (n L:Nat) (h:L=0∨10^(9*L)<=n):Ou n L L=decDigits n:=by
 unfold Ou;rw[al4,al5];rcases h with rfl|h
 ·simp[je]
 ·rw[vd (9*L) n h];rfl
def aP (l:List UInt8):Nat:=l.foldl (λa c=>a*10+(c.toNat-48)) 0
def eG (c:UInt8):Bool:=decide (48<=c.toNat)&&decide (c.toNat<=57)
def cL (l:List UInt8):Bool:=l.all eG
theorem eO {c:UInt8}:eG c=true↔48<=c.toNat/\ c.toNat<=57:=by simp[eG]
theorem dI {c:UInt8} {l:List UInt8}:cL (c::l)=(eG c&&cL l):=by simp[cL]
theorem lS {a b:List UInt8}:cL (a++b)=(cL a&&cL b):=by simp[cL]
theorem qY {l:List UInt8} (h:cL l=true):∀c∈l,eG c=true:=ai4.1 h
theorem gP {l:List UInt8} (h:cL l=true) (k:Nat):cL (l.take k)=true:=ai4.2 λc hc=>qY h c (List.mem_of_mem_take hc)
theorem oI {l:List UInt8} (h:cL l=true) (k:Nat):cL (l.drop k)=true:=ai4.2 λc hc=>qY h c (List.mem_of_mem_drop hc)
theorem KW (l:List UInt8):∀a,l.foldl (λa c=>a*10+(c.toNat-48)) a=a*10^l.length+aP l:=by
 unfold aP;induction l with
 |nil=>intro a;simp
 |cons c l ih=>
  intro a;rw[ai5,ai5,ih,ih (0*10+_),ai6,ak8,al6,al7,al8,al9,ak9 10,ak6]
theorem Gy:aP []=0:=rfl
theorem jE (a b:List UInt8):aP (a++b)=aP a*10^b.length+aP b:=by
 rw[aP.eq_def (a++b),List.foldl_append,KW b];rfl
theorem lh (c:UInt8):aP [c]=c.toNat-48:=by simp[aP]
theorem uI (a:List UInt8) (c:UInt8):aP (a++[c])=aP a*10+(c.toNat-48):=by
 rw[jE,lh];rfl
theorem gW (c:UInt8) (l:List UInt8):aP (c::l)=(c.toNat-48)*10^l.length+aP l:=by
 rw[<-lh,<-jE];rfl
theorem pZ {l:List UInt8} (h:cL l=true):aP l<10^l.length:=by
 induction l with
 |nil=>simp[aP]
 |cons c l ih=>
  rw[dI,ah6]at h;have h1:=eO.1 h.1;have h2:=ih h.2;have h3:(c.toNat-48)*10^l.length<=9*10^l.length:=Nat.mul_le_mul_right _ (by omega);rw[gW,ai6,ak8];omega
theorem ofNat_toNat {d:Nat} (h:d<10):(an0 (48+d)).toNat=48+d:=by
 rw[UInt8.toNat_ofNat'];exact al2 (by omega)
theorem DL {d:Nat} (h:d<10):eG (an0 (48+d))=true:=by
 rw[eO,ofNat_toNat h];omega
theorem DM {c:UInt8} (h:eG c=true):an0 (48+(c.toNat-48))=c:=by
 have h1:=eO.1 h;rw[show 48+(c.toNat-48)=c.toNat by omega];simp
theorem vt (n:Nat):cL (decDigits n)=true:=by
 induction n using am0 with
 | _ n ih=>
  by_cases h:n<10
  ·rw[decDigits_one h,dI,DL h];rfl
  ·rw[decDigits.eq_def n,dif_neg h,lS,ih (n/10) (by omega),dI,DL (by omega)];rfl
theorem IQ (n:Nat):aP (decDigits n)=n:=by
 induction n using am0 with
 | _ n ih=>
  by_cases h:n<10
  ·rw[decDigits_one h,lh,ofNat_toNat h];omega
  ·rw[decDigits.eq_def n,dif_neg h,uI,ih (n/10) (by omega),ofNat_toNat (by omega)];omega
theorem Uo (n:Nat):decDigits n≠[]:=by
 intro h;have h1:=decDigits_length n;rw[h]at h1;have:=nDigits_pos n;simp at h1;omega
theorem qI (k:Nat):∀l:List UInt8,l.length=k+1->cL l=true->(l.head? ≠some 48∨l.length=1)->decDigits (aP l)=l:=by
 induction k with
 |zero=>
  intro l hl ha _
  match l,hl with
  |[c],_=>
   rw[dI,ah6]at ha;have h1:=eO.1 ha.1;rw[lh,decDigits_one (by omega),DM ha.1]
 |succ k ih=>
  intro l hl ha hh;obtain⟨r,c,rfl⟩:∃r c,l=r++[c]:=⟨l.dropLast,l.getLast (by intro e;rw[e]at hl;simp at hl),(List.dropLast_concat_getLast _).symm⟩;have hr:r.length=k+1:=by simpa using hl
  rw[lS,ah6]at ha;have hc:eG c=true:=by have:=ha.2;rw[dI,ah6]at this;exact this.1
  have h1:=eO.1 hc
  match r,hr with
  |d::r,hr=>
   have hd:(d::r).head? ≠some 48:=by
    rcases hh with hh|hh
    ·simpa using hh
    ·simp at hh
   have h2:=ih (d::r) hr ha.1 (.inl hd)
   have h3:0<aP (d::r):=by
    rw[gW];have h4:eG d=true:=by have:=ha.1;rw[dI,ah6]at this;exact this.1
    have h5:=eO.1 h4;have h6:d.toNat≠48:=λe=>hd (by rw[List.head?_cons];congr 1;exact UInt8.toNat_inj.1 e)
    have:0<(d.toNat-48)*10^r.length:=Nat.mul_pos (by omega) (al3 (by omega));omega
   rw[uI,decDigits.eq_def,dif_neg (by omega),show(aP (d::r)*10+(c.toNat-48))/10=aP (d::r)by omega,h2,show(aP (d::r)*10+(c.toNat-48))%10=c.toNat-48 by omega,DM hc]
theorem KX (M:Nat):∀(l:List UInt8) (acc:Nat),cL l=true->acc*10^l.length+aP l<=M->acc<10^9->(∀k,k<=l.length->acc*10^k+aP (l.take k)<10^10)->parseUintM M acc l= .ok (acc*10^l.length+aP l):=by
 intro l;induction l with
 |nil=>intro acc _ _ _ _;simp[parseUintM,aP]
 |cons c l ih=>
  intro acc ha hM hlt hk;rw[dI,ah6]at ha;have h1:=eO.1 ha.1;have hk1:=hk 1 (by simp);simp only[ai7,ai8,lh,Nat.pow_one]at hk1;have hp:1<=10^l.length:=Nat.one_le_pow _ _ (by omega)
  have e:acc*10^(c::l).length+aP (c::l)=(acc*10+(c.toNat-48))*10^l.length+aP l:=by
   rw[gW,ai6,ak8,al8,al9,ak9 10,ak6]
  rw[e]at hM ⊢;have h2:acc*10+(c.toNat-48)<=(acc*10+(c.toNat-48))*10^l.length:=am1 _ hp;unfold parseUintM;rw[if_pos h1,if_neg (by omega),if_neg (by omega)];by_cases hl:l=[]
  ·subst hl;simp[parseUintM,aP]
  ·refine ih _ ha.2 hM ?_ (λk hk'=>?_)
   ·have h3:=hk 2 (by have:=ai9.2 hl;simp;omega);have h4:acc*10^2=acc*100:=rfl
    have h5:aP ((c::l).take 2)≥(c.toNat-48)*10:=by
     cases l with
     |nil=>exact absurd rfl hl
     |cons d l=>simp only[ai7,ai8];rw[gW];simp
    omega
   ·have h3:=hk (k+1) (by simp;omega);rw[ai7,gW,aj0,am2 hk',ak8]at h3;rw[al8,al9,ak9 10,ak6];exact h3
theorem KY {l:List UInt8} (ha:cL l=true) (hl:l≠[]) (h9:l.length<=9):parseUintB 32 l= .ok (aP l):=by
 have hv:=pZ ha;have hp:10^l.length<=10^9:=am3 (by omega) h9;rw[Q2]at hp;unfold parseUintB;rw[if_neg hl]
 have h:=KX (2^32-1) l 0 ha (by rw[al6,al7];omega) (by omega) (λk hk=>by
  have h1:=pZ (gP ha k);have h2:10^(l.take k).length<=10^9:=am3 (by omega) (by rw[aj0];omega);rw[al6,al7];omega)
 rw[al6,al7]at h;exact h
def dX (l:List UInt8):List UInt8:=trimPrefix l [45]
def FW (l:List UInt8):Bool:=decide (dX l≠[])&&cL (dX l)&&(decide ((dX l).head? ≠some 48)||decide (l=[48]))
theorem oV {l:List UInt8}:FW l=true↔dX l≠[]/\ cL (dX l)=true/\ ((dX l).head? ≠some 48∨l=[48]):=by
 simp only[FW,ah6,Bool.or_eq_true,decide_eq_true_iff,and_assoc]
theorem F4 (l:List UInt8):hasPrefix (45::l) [45]=true/\ dX (45::l)=l:=by
 simp[dX,trimPrefix,hasPrefix,aj1]
theorem Db (l:List UInt8):(∃r,l=45::r)∨(hasPrefix l [45]=false/\ dX l=l):=by
 cases l with
 |nil=>exact .inr ⟨rfl,rfl⟩
 |cons c r=>
  by_cases h:c=45
  ·exact .inl ⟨r,by rw[h]⟩
  ·have h1:hasPrefix (c::r) [45]=false:=by
    simp only[hasPrefix,aj1,Bool.and_true];rw[beq_eq_false_iff_ne];exact λe=>h e.symm
   exact .inr ⟨h1,by unfold dX trimPrefix;rw[h1];rfl⟩
end
section
open Go.Lib
def FX (l:List UInt8):Int:=cV (hasPrefix l [45]) (aP (dX l))
theorem zQ {z:Int} (h:z<0):itoa z=45::decDigits z.natAbs:=by unfold itoa;rw[if_pos h]
theorem mF {z:Int} (h:0<=z):itoa z=decDigits z.natAbs:=by
 unfold itoa;rw[if_neg (by omega),show z.toNat=z.natAbs by omega]
theorem DN {l:List UInt8} (h:FW l=true):decDigits (aP (dX l))=dX l:=by
 obtain⟨h1,h2,h3⟩:=oV.1 h;refine qI ((dX l).length-1) _ (by have:=ai9.2 h1;omega) h2 ?_;rcases h3 with h3|h3
 ·exact .inl h3
 ·subst h3;exact .inr rfl
theorem Ov {l:List UInt8} (h:FW l=true) (hm:hasPrefix l [45]=true):0<aP (dX l):=by
 have h0:=DN h;obtain⟨h1,h2,h3⟩:=oV.1 h;rcases am4 (aP (dX l))with h4|h4
 ·rw[h4,decDigits_one (by omega)]at h0;rcases h3 with h3|h3
  ·rw[<-h0]at h3;exact absurd rfl h3
  ·subst h3;exact absurd hm (by decide)
 ·exact h4
theorem J3 {l:List UInt8} (h:FW l=true):hasPrefix l [45]=decide (FX l<0):=by
 unfold FX;rw[qj];cases hm:hasPrefix l [45]with
 |false=>rfl
 |true=>have:=Ov h hm;simp[this]
theorem Nk (l:List UInt8):(FX l).natAbs=aP (dX l):=fK _ _
theorem KZ {z:Int} {k:Nat} (h:Bd z k):nDigits z.natAbs<=10*k+1:=by
 refine nJ (10*k) _ ?_;unfold Bd at h;refine am5 h ?_;rw[ak8,Nat.pow_mul];exact am6 (Nat.pow_le_pow_left (show 4294967296<=10^10 by decide) k) (am1 _ (by omega))
theorem MS {z:Int} {k:Nat} (h:Bd z k):(itoa z).length<=10*k+2:=by
 have h1:=KZ h;by_cases hz:z<0
 ·rw[zQ hz,ai6,decDigits_length];omega
 ·rw[mF (by omega),decDigits_length];omega
theorem pU {P:Program} (W:ah7) (x y:List UInt8) (h:x.length+y.length<=9223372036854775807):(Op.stringOp .add ⟨x.toArray⟩ ⟨y.toArray⟩).run P W= .ok (.string ⟨(x++y).toArray⟩) W:=by
 rw[run_string_add_sum W _ _ (by simpa[ByteArray.size]using h),ByteArray.mk_append_mk]
end
section
open Go.Shelf
def Tryz.DO:ah9:=⟨λ|103=>164|206=>203|210=>202|n=>n,λ|3=>3|4=>4|9=>9|24=>211|n=>n,λn=>n⟩
theorem Tryz.RP:Go.Proofs.Lays.n103 Tryz.prog Tryz.DO:={
 mixed:=by kernel_rfl
 f103:=Tryz.func164.trans (congrArg some (by kernel_rfl))
 f206:=Tryz.func203.trans (congrArg some (by kernel_rfl))
 f210:=Tryz.func202.trans (congrArg some (by kernel_rfl))
 t3:=Tryz.underlying3
 a3:=Tryz.isAgg3
 z3:=Tryz.sizeOf3
 v3:=Tryz.zeroValue3
 t4:=Tryz.underlying4
 a4:=Tryz.isAgg4
 z4:=Tryz.sizeOf4
 v4:=Tryz.zeroValue4
 t9:=Tryz.underlying9
 a9:=Tryz.isAgg9
 z9:=Tryz.sizeOf9
 v9:=Tryz.zeroValue9
 t24:=Tryz.underlying211
 a24:=Tryz.isAgg211
 z24:=Tryz.sizeOf211
 v24:=Tryz.zeroValue211 }
def Tryz.BI:ah9:=⟨λ|14=>249|16=>266|17=>252|19=>280|20=>281|21=>268|22=>269|23=>270|24=>271|25=>282|26=>283|27=>163|28=>201|29=>225|30=>242|31=>243|32=>244|33=>245|34=>259|35=>260|36=>261|37=>262|38=>263|39=>274|40=>275|n=>n,λ|0=>0|2=>2|3=>3|4=>4|5=>5|9=>9|20=>20|21=>21|22=>147|24=>103|25=>287|34=>299|36=>228|37=>99|39=>302|44=>316|47=>157|48=>320|50=>322|52=>278|55=>281|59=>295|60=>192|61=>296|65=>318|66=>319|67=>109|n=>n,λ|0=>5|1=>6|2=>2|3=>7|4=>8|n=>n⟩
theorem Tryz.Ow:Go.Proofs.LaysPu.n14 Tryz.prog Tryz.BI:={
 mixed:=by kernel_rfl
 f14:=Tryz.func249.trans (congrArg some (by kernel_rfl))
 f16:=Tryz.func266.trans (congrArg some (by kernel_rfl))
 f17:=Tryz.func252.trans (congrArg some (by kernel_rfl))
 f19:=Tryz.func280.trans (congrArg some (by kernel_rfl))
 f20:=Tryz.func281.trans (congrArg some (by kernel_rfl))
 f21:=Tryz.func268.trans (congrArg some (by kernel_rfl))
 f22:=Tryz.func269.trans (congrArg some (by kernel_rfl))
 f23:=Tryz.func270.trans (congrArg some (by kernel_rfl))
 f24:=Tryz.func271.trans (congrArg some (by kernel_rfl))
 f25:=Tryz.func282.trans (congrArg some (by kernel_rfl))
 f26:=Tryz.func283.trans (congrArg some (by kernel_rfl))
 f27:=Tryz.func163.trans (congrArg some (by kernel_rfl))
 f28:=Tryz.func201.trans (congrArg some (by kernel_rfl))
 f29:=Tryz.func225.trans (congrArg some (by kernel_rfl))
 f30:=Tryz.func242.trans (congrArg some (by kernel_rfl))
 f31:=Tryz.func243.trans (congrArg some (by kernel_rfl))
 f32:=Tryz.func244.trans (congrArg some (by kernel_rfl))
 f33:=Tryz.func245.trans (congrArg some (by kernel_rfl))
 f34:=Tryz.func259.trans (congrArg some (by kernel_rfl))
 f35:=Tryz.func260.trans (congrArg some (by kernel_rfl))
 f36:=Tryz.func261.trans (congrArg some (by kernel_rfl))
 f37:=Tryz.func262.trans (congrArg some (by kernel_rfl))
 f38:=Tryz.func263.trans (congrArg some (by kernel_rfl))
 f39:=Tryz.func274.trans (congrArg some (by kernel_rfl))
 f40:=Tryz.func275.trans (congrArg some (by kernel_rfl))
 t0:=Tryz.underlying0
 a0:=Tryz.isAgg0
 z0:=Tryz.sizeOf0
 v0:=Tryz.zeroValue0
 i0:=by kernel_rfl
 t2:=Tryz.underlying2
 a2:=Tryz.isAgg2
 z2:=Tryz.sizeOf2
 v2:=Tryz.zeroValue2
 i2:=by kernel_rfl
 t3:=Tryz.underlying3
 a3:=Tryz.isAgg3
 z3:=Tryz.sizeOf3
 v3:=Tryz.zeroValue3
 i3:=by kernel_rfl
 t4:=Tryz.underlying4
 a4:=Tryz.isAgg4
 z4:=Tryz.sizeOf4
 v4:=Tryz.zeroValue4
 i4:=by kernel_rfl
 t5:=Tryz.underlying5
 a5:=Tryz.isAgg5
 z5:=Tryz.sizeOf5
 v5:=Tryz.zeroValue5
 i5:=by kernel_rfl
 t9:=Tryz.underlying9
 a9:=Tryz.isAgg9
 z9:=Tryz.sizeOf9
 v9:=Tryz.zeroValue9
 i9:=by kernel_rfl
 t20:=Tryz.underlying20
 a20:=Tryz.isAgg20
 z20:=Tryz.sizeOf20
 v20:=Tryz.zeroValue20
 i20:=by kernel_rfl
 t21:=Tryz.underlying21
 a21:=Tryz.isAgg21
 z21:=Tryz.sizeOf21
 v21:=Tryz.zeroValue21
 i21:=by kernel_rfl
 t22:=Tryz.underlying147
 a22:=Tryz.isAgg147
 z22:=Tryz.sizeOf147
 v22:=Tryz.zeroValue147
 i22:=by kernel_rfl
 t24:=Tryz.underlying103
 a24:=Tryz.isAgg103
 z24:=Tryz.sizeOf103
 v24:=Tryz.zeroValue103
 i24:=by kernel_rfl
 t25:=Tryz.underlying287
 a25:=Tryz.isAgg287
 z25:=Tryz.sizeOf287
 v25:=Tryz.zeroValue287
 i25:=by kernel_rfl
 t34:=Tryz.underlying299
 a34:=Tryz.isAgg299
 z34:=Tryz.sizeOf299
 v34:=Tryz.zeroValue299
 i34:=by kernel_rfl
 c34:=by kernel_rfl
 t36:=Tryz.underlying228
 a36:=Tryz.isAgg228
 z36:=Tryz.sizeOf228
 v36:=Tryz.zeroValue228
 i36:=by kernel_rfl
 t37:=Tryz.underlying99
 a37:=Tryz.isAgg99
 z37:=Tryz.sizeOf99
 v37:=Tryz.zeroValue99
 i37:=by kernel_rfl
 t39:=Tryz.underlying302
 a39:=Tryz.isAgg302
 z39:=Tryz.sizeOf302
 v39:=Tryz.zeroValue302
 i39:=by kernel_rfl
 t44:=Tryz.underlying316
 a44:=Tryz.isAgg316
 z44:=Tryz.sizeOf316
 v44:=Tryz.zeroValue316
 i44:=by kernel_rfl
 t47:=Tryz.underlying157
 a47:=Tryz.isAgg157
 z47:=Tryz.sizeOf157
 v47:=Tryz.zeroValue157
 i47:=by kernel_rfl
 t48:=Tryz.underlying320
 a48:=Tryz.isAgg320
 z48:=Tryz.sizeOf320
 v48:=Tryz.zeroValue320
 i48:=by kernel_rfl
 t50:=Tryz.underlying322
 a50:=Tryz.isAgg322
 z50:=Tryz.sizeOf322
 v50:=Tryz.zeroValue322
 i50:=by kernel_rfl
 t52:=Tryz.underlying278
 a52:=Tryz.isAgg278
 z52:=Tryz.sizeOf278
 v52:=Tryz.zeroValue278
 i52:=by kernel_rfl
 t55:=Tryz.underlying281
 a55:=Tryz.isAgg281
 z55:=Tryz.sizeOf281
 v55:=Tryz.zeroValue281
 i55:=by kernel_rfl
 t59:=Tryz.underlying295
 a59:=Tryz.isAgg295
 z59:=Tryz.sizeOf295
 v59:=Tryz.zeroValue295
 i59:=by kernel_rfl
 t60:=Tryz.underlying192
 a60:=Tryz.isAgg192
 z60:=Tryz.sizeOf192
 v60:=Tryz.zeroValue192
 i60:=by kernel_rfl
 t61:=Tryz.underlying296
 a61:=Tryz.isAgg296
 z61:=Tryz.sizeOf296
 t65:=Tryz.underlying318
 a65:=Tryz.isAgg318
 z65:=Tryz.sizeOf318
 v65:=Tryz.zeroValue318
 i65:=by kernel_rfl
 t66:=Tryz.underlying319
 a66:=Tryz.isAgg319
 z66:=Tryz.sizeOf319
 v66:=Tryz.zeroValue319
 i66:=by kernel_rfl
 t67:=Tryz.underlying109
 a67:=Tryz.isAgg109
 z67:=Tryz.sizeOf109
 v67:=Tryz.zeroValue109
 i67:=by kernel_rfl
 g0:=by kernel_rfl
 m0:=by kernel_rfl
 g1:=by kernel_rfl
 m1:=by kernel_rfl
 g2:=by kernel_rfl
 m2:=by kernel_rfl
 g3:=by kernel_rfl
 m3:=by kernel_rfl
 g4:=by kernel_rfl
 m4:=by kernel_rfl }
def Tryz.DR:ah9:=⟨λ|283=>242|n=>n,λ|3=>3|4=>4|9=>9|n=>n,λn=>n⟩
theorem Tryz.RQ:Go.Proofs.Lays.n283 Tryz.prog Tryz.DR:={
 mixed:=by kernel_rfl
 f283:=Tryz.func242.trans (congrArg some (by kernel_rfl))
 t3:=Tryz.underlying3
 a3:=Tryz.isAgg3
 z3:=Tryz.sizeOf3
 v3:=Tryz.zeroValue3
 t4:=Tryz.underlying4
 a4:=Tryz.isAgg4
 z4:=Tryz.sizeOf4
 v4:=Tryz.zeroValue4
 t9:=Tryz.underlying9
 a9:=Tryz.isAgg9
 z9:=Tryz.sizeOf9
 v9:=Tryz.zeroValue9 }
def Tryz.BJ:ah9:=⟨λ|129=>260|284=>243|317=>259|318=>261|n=>n,λ|0=>0|3=>3|4=>4|5=>5|9=>9|46=>228|53=>147|212=>295|n=>n,λ|17=>2|n=>n⟩
theorem Tryz.Ox:Go.Proofs.LaysM.n284 Tryz.prog Tryz.BJ:={
 mixed:=by kernel_rfl
 f129:=Tryz.func260.trans (congrArg some (by kernel_rfl))
 f284:=Tryz.func243.trans (congrArg some (by kernel_rfl))
 f317:=Tryz.func259.trans (congrArg some (by kernel_rfl))
 f318:=Tryz.func261.trans (congrArg some (by kernel_rfl))
 t0:=Tryz.underlying0
 a0:=Tryz.isAgg0
 z0:=Tryz.sizeOf0
 v0:=Tryz.zeroValue0
 t3:=Tryz.underlying3
 a3:=Tryz.isAgg3
 z3:=Tryz.sizeOf3
 v3:=Tryz.zeroValue3
 t4:=Tryz.underlying4
 a4:=Tryz.isAgg4
 z4:=Tryz.sizeOf4
 v4:=Tryz.zeroValue4
 t5:=Tryz.underlying5
 a5:=Tryz.isAgg5
 z5:=Tryz.sizeOf5
 v5:=Tryz.zeroValue5
 t9:=Tryz.underlying9
 a9:=Tryz.isAgg9
 z9:=Tryz.sizeOf9
 v9:=Tryz.zeroValue9
 t46:=Tryz.underlying228
 a46:=Tryz.isAgg228
 z46:=Tryz.sizeOf228
 v46:=Tryz.zeroValue228
 t53:=Tryz.underlying147
 a53:=Tryz.isAgg147
 z53:=Tryz.sizeOf147
 v53:=Tryz.zeroValue147
 t212:=Tryz.underlying295
 a212:=Tryz.isAgg295
 z212:=Tryz.sizeOf295
 v212:=Tryz.zeroValue295
 g17:=by kernel_rfl
 i0:=by kernel_rfl
 i3:=by kernel_rfl
 i4:=by kernel_rfl
 i5:=by kernel_rfl
 i9:=by kernel_rfl
 i46:=by kernel_rfl
 i53:=by kernel_rfl
 i212:=by kernel_rfl
 m17:=by kernel_rfl }
def Tryz.DT:ah9:=⟨λ|285=>244|n=>n,λ|0=>0|3=>3|4=>4|5=>5|9=>9|37=>99|51=>192|53=>147|n=>n,λn=>n⟩
theorem Tryz.RR:Go.Proofs.Lays.n285 Tryz.prog Tryz.DT:={
 mixed:=by kernel_rfl
 f285:=Tryz.func244.trans (congrArg some (by kernel_rfl))
 t0:=Tryz.underlying0
 a0:=Tryz.isAgg0
 z0:=Tryz.sizeOf0
 v0:=Tryz.zeroValue0
 t3:=Tryz.underlying3
 a3:=Tryz.isAgg3
 z3:=Tryz.sizeOf3
 v3:=Tryz.zeroValue3
 t4:=Tryz.underlying4
 a4:=Tryz.isAgg4
 z4:=Tryz.sizeOf4
 v4:=Tryz.zeroValue4
 t5:=Tryz.underlying5
 a5:=Tryz.isAgg5
 z5:=Tryz.sizeOf5
 v5:=Tryz.zeroValue5
 t9:=Tryz.underlying9
 a9:=Tryz.isAgg9
 z9:=Tryz.sizeOf9
 v9:=Tryz.zeroValue9
 t37:=Tryz.underlying99
 a37:=Tryz.isAgg99
 z37:=Tryz.sizeOf99
 v37:=Tryz.zeroValue99
 t51:=Tryz.underlying192
 a51:=Tryz.isAgg192
 z51:=Tryz.sizeOf192
 v51:=Tryz.zeroValue192
 t53:=Tryz.underlying147
 a53:=Tryz.isAgg147
 z53:=Tryz.sizeOf147
 v53:=Tryz.zeroValue147 }
end
section
open Go.RowKit Go.Sort Go.Lib
def vS (w:ah7):Prop:=Lib.TabIs Tryz.prog w ((Tryz.progGlobals[2]?.map (·.name)).getD default) .u64 Lib.pow10Tab
theorem vS.below {w w':ah7} (h:vS w) (hb:Below w.heap.size w w'):vS w':=Lib.tabBelow_of_tabIs h w' hb
theorem K1 (i:Nat) (h:i<100) (w:ah7):
  Calls Tryz.prog 242 #[.int .i64 (i:Int)] w λe w'=>e= .returned (.string ⟨(decDigits i).toArray⟩)/\ w'=w:=Any.internal_strconv_small Tryz.RQ i h w
theorem yJ (u:Nat) (h1:1<=u) (h2:u<18446744073709551616) (w:ah7) (ht:vS w):
  Calls Tryz.prog 243 #[.int .u64 (u:Int)] w λe w'=>e= .returned (.int .i64 ((nDigits u:Nat):Int))/\ w'=w:=Any.internal_strconv_numDigits Tryz.Ox u h1 h2 w ht
theorem GK (eQ off ae u:Nat) (d:Array UInt8) (w:ah7) (hH:Holds (λ(b:UInt8)=>ai0 .u8 (b.toNat:Int)) w eQ off d) (hu:u<10^d.size) (hu64:u<18446744073709551616) (hsz:d.size<4611686018427387904):
  Calls Tryz.prog 244 #[ai1 (some ⟨eQ,off,none⟩) d.size ae,.int .u64 (u:Int)] w λe w'=>
   e= .returned (.tuple #[])/\∃(n v':Nat) (dk:Array UInt8),w'=(putRow (λ(b:UInt8)=>ai0 .u8 (b.toNat:Int)) w eQ off dk).drewN n/\ FmtInv d.size u 0 v' dk:=Any.internal_strconv_formatBase10 Tryz.RR eQ off ae u d w hH hu hu64 hsz
theorem K4 (u:Nat) (hs:u<100) (w:ah7):
  Calls Tryz.prog 222 #[.int .u64 (u:Int),.int .i64 10] w (cr (.string ⟨(decDigits u).toArray⟩) w):=by
 have h1:((u:Nat):Int)<100:=by omega
 go_enter Tryz.func222,Tryz.ntmps222;go_wp2_with (go_at_call 242;refine(K1 u hs _).mono ?_;rintro e w' ⟨rfl,rfl⟩);go_ret;exact⟨rfl,Below.refl _ _⟩
theorem RS (u:Nat) (hu:100<=u) (hu64:u<18446744073709551616) (w:ah7) (htab:vS w):
  Calls Tryz.prog 222 #[.int .u64 (u:Int),.int .i64 10] w (cr (.string ⟨(decDigits u).toArray⟩) w):=by
 have iu:¬((u:Nat):Int)<100:=by omega
 have hu1:1<=u:=by omega
 have hnd20:nDigits u<=20:=by have:=numDigits_eq u hu1 hu64;split at this<;>omega
 have hal:Tryz.prog.arrayLen 278=24:=by simp[Program.arrayLen,Tryz.underlying278]
 have hsl:∀W,(Instr.sliceAt 278 (.pointer (some ⟨w.heap.size,0,none⟩)) none (some (.int .i64 ((nDigits u:Nat):Int))) none).run Tryz.prog W= .ok (ai1 (some ⟨w.heap.size,0,none⟩) (nDigits u) 24) W:=λW=>by
  rw[run_sliceAt_array_h W 278 ⟨w.heap.size,0,none⟩ (by simp[Program.arrayLen,Program.elem,Tryz.underlying278]) .i64 ((nDigits u:Nat):Int) (by omega) (by rw[hal];omega)];go_simp
 have hH0:=holds_zero0 w 278 (nDigits u) (by omega);have hfmt:=GK w.heap.size 0 24 u (Array.replicate (nDigits u) 0) (w.alloc (.cells zeros24 278)) hH0 (by rw[ah5];exact lt_pow_nDigits u) hu64 (by rw[ah5];omega);rw[ah5]at hfmt;have HH0:=Lib.hid hH0;have HT:=Lib.hid htab;clear hH0 hal htab;go_enter Tryz.func222,Tryz.ntmps222;go_wp2_with (go_at_call 243;refine(yJ u hu1 hu64 _ (Lib.tabIs_alloc HT.o _)).mono ?_;rintro e w' ⟨rfl,rfl⟩);refine hfmt.mono ?_;rintro e w' ⟨rfl,k,v',dk,rfl,hF⟩
 have hcv:(convert 99 9 (ai1 (some ⟨w.heap.size,0,none⟩) (nDigits u) 24)).run Tryz.prog ((putRow (λ(b:UInt8)=>ai0 .u8 (b.toNat:Int)) (w.alloc (.cells zeros24 278)) w.heap.size 0 dk).drewN k)= .ok (.string ⟨(decDigits u).toArray⟩) ((putRow (λ(b:UInt8)=>ai0 .u8 (b.toNat:Int)) (w.alloc (.cells zeros24 278)) w.heap.size 0 dk).drewN k):=by
  have h:=run_convert_bytes_back (P:=Tryz.prog) ((putRow (λ(b:UInt8)=>ai0 .u8 (b.toNat:Int)) (w.alloc (.cells zeros24 278)) w.heap.size 0 dk).drewN k) 99 9 5 ⟨w.heap.size,0,none⟩ 24 (decDigits u) Tryz.underlying99 Tryz.underlying5 Tryz.underlying9 (λj hj=>by
   rw[row_is_numeral hF j hj,Lib.add_plain,World.cell?_drewN];exact cell?_putRow (λ(b:UInt8)=>ai0 .u8 (b.toNat:Int)) _ w.heap.size 0 _ dk HH0.o (by rw[hF.size,ah5]) j (by rw[hF.size];rw[decDigits_length]at hj;exact hj))
  rw[decDigits_length]at h;exact h
 obtain⟨os,eo⟩:=Lib.fin_at w (.cells zeros24 278) dk k 0;have hnx:Hid (Below w.heap.size w ((putRow (λ(b:UInt8)=>ai0 .u8 (b.toNat:Int)) (w.alloc (.cells zeros24 278)) w.heap.size 0 dk).drewN k)):=by rw[eo];exact Lib.below_grow _ w (al0 _) k os
 generalize (putRow (λ(b:UInt8)=>ai0 .u8 (b.toNat:Int)) (w.alloc (.cells zeros24 278)) w.heap.size 0 dk).drewN k=W2 at hcv hnx ⊢;clear eo HH0 hF;go_wp2_with fail;go_ret;exact⟨rfl,hnx.o⟩
theorem Vk (u:Nat) (hu:u<18446744073709551616) (w:ah7) (ht:vS w):
  Calls Tryz.prog 222 #[.int .u64 (u:Int),.int .i64 10] w (cr (.string ⟨(decDigits u).toArray⟩) w):=by
 rcases am7 u 100 with h|h
 ·exact K4 u h w
 ·exact RS u h hu w ht
theorem QW (u:Nat) (hu:u<18446744073709551616) (w:ah7) (ht:vS w):
  Calls Tryz.prog 199 #[.int .u64 (u:Int),.int .i64 10] w (cr (.string ⟨(decDigits u).toArray⟩) w):=by
 have HT:=Lib.hid ht;clear ht;go_enter Tryz.func199,Tryz.ntmps199;go_wp2_with fail;refine(Vk u hu _ HT.o).mono ?_;rintro e w' ⟨rfl,hB⟩;go_wp2_with fail;go_ret;exact⟨rfl,hB⟩
theorem xv (s p:ByteArray) (w:ah7):
  Calls Tryz.prog 164 #[.string s,.string p] w λe w'=>e= .returned (.tuple #[.string ⟨(Lib.trimPrefix s.data.toList p.data.toList).toArray⟩,.bool (Lib.hasPrefix s.data.toList p.data.toList)])/\ w'=w:=Any.strings_CutPrefix Tryz.RP s p w
theorem Nj (s:ByteArray) (w:ah7):
  Calls Tryz.prog 164 #[.string s,.string ⟨#[45]⟩] w λe w'=>e= .returned (.tuple #[.string ⟨(dX s.data.toList).toArray⟩,.bool (hasPrefix s.data.toList [45])])/\ w'=w:=xv s ⟨#[45]⟩ w
theorem JZ (s:ByteArray) (hs:s.size<=9) (h0:0<s.size) (ha:cL s.data.toList=true) (w:ah7):
  Calls Tryz.prog 249 #[.string s,.int .i64 10,.int .i64 32] w (cr (.tuple #[.int .u64 ((aP s.data.toList:Nat):Int),.nilIface]) w):=by
 have e:s.data.toList.length=s.size:=(Lib.size_eq s).symm;have hp:parseUintB 32 s.data.toList= .ok (aP s.data.toList):=KY ha (λh=>by rw[h]at e;simp at e;omega) (by omega);refine Calls.mono (Any.strconv_ParseUint_10_at32_ok Tryz.Ow s (by omega) _ hp w) ?_;rintro e w' ⟨rfl,rfl|rfl⟩
 ·exact⟨rfl,Below.refl _ _⟩
 ·exact⟨rfl,Lib.bytesWorld_below _ _ _⟩
end
section
open Go.Shelf
def Tryz.DU:ah9:=⟨λ|212=>200|263=>223|264=>224|n=>n,λ|46=>228|51=>192|53=>147|146=>219|148=>260|n=>n,λn=>n⟩
theorem Tryz.RT:Go.Proofs.Lays.n212 Tryz.prog Tryz.DU:={
 mixed:=by kernel_rfl
 f212:=Tryz.func200.trans (congrArg some (by kernel_rfl))
 f263:=Tryz.func223.trans (congrArg some (by kernel_rfl))
 f264:=Tryz.func224.trans (congrArg some (by kernel_rfl))
 t46:=Tryz.underlying228
 a46:=Tryz.isAgg228
 z46:=Tryz.sizeOf228
 v46:=Tryz.zeroValue228
 t51:=Tryz.underlying192
 a51:=Tryz.isAgg192
 z51:=Tryz.sizeOf192
 v51:=Tryz.zeroValue192
 t53:=Tryz.underlying147
 a53:=Tryz.isAgg147
 z53:=Tryz.sizeOf147
 v53:=Tryz.zeroValue147
 t146:=Tryz.underlying219
 a146:=Tryz.isAgg219
 z146:=Tryz.sizeOf219
 v146:=Tryz.zeroValue219
 t148:=Tryz.underlying260
 a148:=Tryz.isAgg260
 z148:=Tryz.sizeOf260
 v148:=Tryz.zeroValue260 }
end
section
open Lib (hid)
open Go.RowKit
theorem Tryz.BK:(Tryz.prog.info? 5).map (·.size)=some 1:=by kernel_rfl
theorem Oy (n:Nat) (hn:n<18446744073709551616) (w:ah7):
  Calls Tryz.prog 200 #[.int .u64 1,.int .u64 (n:Int)] w λe w'=>e= .returned (.tuple #[.int .u64 0,.int .u64 (n:Int)])/\ w=w':=by
 have h:=Any.bits_Mul Tryz.RT 1 n (by omega) hn w;rw[Nat.one_mul,al1 hn,al2 hn]at h;exact h.mono λ_ _ h=>⟨h.1,h.2.symm⟩
def xz (w:ah7) (g n k:Nat) (c:UInt8):Prop:=
 ∃cur:List ah8,w.heap[g]? =some (.cells cur.toArray 5 (0,0))/\ n<=cur.length/\∀j,j<k->cur[j]? =some (.int .u8 (c.toNat:Int))
def RU (w:ah7) (n:Nat) (c:UInt8) (e:Ending) (w':ah7):Prop:=
 ∃g,e= .returned (ai1 (some ⟨g,0,none⟩) n n)/\ w.heap.size<=g/\ xz w' g n n c/\ Below w.heap.size w w'
theorem uJ {cur:List ah8} {k m:Nat} {c:UInt8} (h:∀j,j<k->cur[j]? =some (.int .u8 (c.toNat:Int))) (hk:k+m<=cur.length):
  (splice cur k (ai3 m (.int .u8 (c.toNat:Int)))).length=cur.length/\∀j,j<k+m->(splice cur k (ai3 m (.int .u8 (c.toNat:Int))))[j]? =some (.int .u8 (c.toNat:Int)):=by
 unfold splice;refine⟨by simp;omega,λj hj=>?_⟩;by_cases h1:j<k
 ·rw[aj2 (by simp;omega),aj3 h1,h j h1]
 ·rw[List.getElem?_append_right (by simp;omega),aj0,am2 (by omega),aj2 (by simp;omega),aj4,if_pos (by omega)]
theorem Ng (b o n:Nat) (c:UInt8) (w:ah7) (hc:w.cell? ⟨b,o,none⟩=some (.int .u8 (c.toNat:Int))) (h0:0<n) (hn:n<=1000000000000):
  Calls Tryz.prog 162 #[ai1 (some ⟨b,o,none⟩) 1 1,.int .i64 (n:Int)] w (RU w n c):=by
 have e0:(((n:Nat):Int)==0)=false:=by simp;omega
 have i1:(0:Int)<((n:Nat):Int):=by omega
 have i2:((n:Nat):Int)<=1000000000000:=by omega
 obtain⟨cs,hrun,hle,hmax⟩:=Lib.run_makeNoZero (P:=Tryz.prog) w #[3] 99 5 Tryz.underlying99 n (by omega)
 have hcall:(callFunc 197 #[.int .i64 ((n:Nat):Int)]).run Tryz.prog w= .ok (.value (ai1 (some ⟨w.heap.size,0,none⟩) n cs.size)) (w.drew.drew.alloc (.cells cs 5)):=by
  rw[run_callFunc_extern Tryz.func197 (by kernel_rfl) (by kernel_rfl) (by kernel_rfl) (e:=Extern.BytealgMakeNoZero.makeNoZero #[3] #[99]) (by kernel_rfl),hrun];rfl
 clear hrun;have HC:=hid hc;clear hc;go_enter Tryz.func162,Tryz.ntmps162;go_upto_if 42 with(first|(go_at_call 200;refine(Oy n (by omega) _).mono ?_;rintro e w' ⟨rfl,rfl⟩))
 go_cut [8] (λs8 wx=>w=wx/\∃m:Nat,1<=m/\ m<=1000000000000/\ s8= .int .i64 (m:Int))
 case first=>
  go_wp2
  all_goals (go_meet;first|exact⟨rfl,n,by omega,by omega,rfl⟩|exact⟨rfl,8192,by omega,by omega,rfl⟩)
 case rest=>
  obtain⟨rfl,m,hm1,hm2,rfl⟩:=hcut
  have HG:Hid (((w.alloc (.cells cs 5)).drew.drew).heap[w.heap.size]? =some (.cells cs.toList.toArray 5 (0,0))):=by
   show(w.heap.push _)[w.heap.size]? =_;rw[Array.getElem?_push_size,Array.toArray_toList]
  have HB:Hid (Below w.heap.size w ((w.alloc (.cells cs 5)).drew.drew)):=(((Below.refl _ _).alloc (al0 _) _).drew).drew;have hblt:b<w.heap.size:=World.block_lt_of_cell? w _ HC.o
  have HS:Hid (0<(ai3 1 (ai0 .u8 (c.toNat:Int))).length->some (⟨w.heap.size,0,none⟩:Addr)=some ⟨w.heap.size,0,none⟩/\∃ad,some (⟨b,o,none⟩:Addr)=some ad/\∀j v,(ai3 1 (ai0 .u8 (c.toNat:Int)))[j]? =some v->((w.alloc (.cells cs 5)).drew.drew).cell? (ad.add j)=some v):=by
   intro _;refine⟨rfl,_,rfl,λj v hv=>?_⟩
   match j,hv with
   |0,hv=>
    simp at hv;subst hv;exact(HB.o.cell (p:=⟨b,o,none⟩) hblt).trans HC.o
   |j+1,hv=>simp at hv
  have HL:Hid (n<=cs.toList.length):=by show _;rw[Array.length_toList];exact hle
  have HN:Hid ((ai3 1 (ai0 .u8 (c.toNat:Int))).length=am8 1 n):=by show _;rw[aj5];exact(am2 h0).symm
  have HT:=hid (show 0+(ai3 1 (ai0 .u8 (c.toNat:Int))).length<=cs.toList.length by rw[aj5];have:=HL.o;omega);have HO:Hid (∀v∈ai3 1 (ai0 .u8 (c.toNat:Int)),v.oneCell'=true):=by intro v hv;rw[(aj6.1 hv).2];rfl
  clear hle hmax hblt;go_wp2_with ((with_reducible refine wpList_copy_splice rfl (.tmp 58) (.tmp 59) 99 99 rfl 5 rfl Tryz.BK _ _ _ _ _ _ rfl rfl w.heap.size 0 cs.toList 5 HG.o (ai3 1 (ai0 .u8 (c.toNat:Int))) HN.o HS.o HT.o HO.o w.heap.size w HB.o (al0 _) ?_);intro w4 HG4 hb4)
  have HF:Hid (xz w4 w.heap.size n 1 c):=by
   have h1:=uJ (cur:=cs.toList) (k:=0) (m:=1) (c:=c) (λj hj=>by omega) (by have:=HL.o;omega);exact⟨_,HG4.o,by rw[h1.1];exact HL.o,λj hj=>h1.2 j (by omega)⟩
  have lx:=hid hb4;clear HG HB HS HL HG4 hb4 hcall HC HN HT HO;go_loopg [10] (n-1) (λg s10 wx=>∃k:Nat,1<=k/\ k<=n/\ s10= .int .i64 (k:Int)/\ Hid (n-k=g)/\ Hid (xz wx w.heap.size n k c)/\ Hid (Below w.heap.size w wx))
  case atStart=>exact⟨1,al0 _,h0,by simp,rfl,HF,lx⟩
  case round=>
   clear HF lx;obtain⟨k,hk1,hk2,rfl,HK,HF,HB⟩:=hrel;by_cases hlt:k<n
   ·obtain⟨q,hq⟩:∃q,q=min k m:=⟨_,rfl⟩;obtain⟨r,hr⟩:∃r,r=min q (n-k):=⟨_,rfl⟩;obtain⟨cur,hcur,hcl,hce⟩:=HF.o;have hq1:1<=q/\ q<=k:=by omega
    have WH:((q:Nat):Int)<=((n:Nat):Int):=by omega
    have hr1:1<=r/\ k+r<=n/\ r<=q:=by omega
    have hmin:min ((k:Nat):Int) ((m:Nat):Int)=((q:Nat):Int):=by omega
    have hne:¬n=k:=by omega
    have HC4:=hid hcur;have HE:=uJ (k:=k) (m:=r) hce (by omega);have vv:Hid (n<=(splice cur k (ai3 r (.int .u8 (c.toNat:Int)))).length):=am6 hcl (Nat.le_of_eq HE.1.symm);have HE2:=hid HE.2;have HN:=hid (show(ai3 r (ai0 .u8 (c.toNat:Int))).length=am8 q (n-k)by rw[aj5];exact hr)
    have HP:Hid (∀j v,(ai3 r (ai0 .u8 (c.toNat:Int)))[j]? =some v->wr.cell? ((⟨w.heap.size,0,none⟩:Addr).add j)=some v):=by
     intro j v hv;have hj:=(List.getElem?_eq_some_iff.1 hv).1;rw[aj5]at hj;rw[aj4,if_pos hj]at hv;cases hv;rw[Addr.add_lit,al7,Lib.cell_of_heap hcur,aj7,hce j (by omega)]
    have HT:=hid (show k+(ai3 r (ai0 .u8 (c.toNat:Int))).length<=cur.length by rw[aj5];omega);have HO:Hid (∀v∈ai3 r (ai0 .u8 (c.toNat:Int)),v.oneCell'=true):=by intro v hv;rw[(aj6.1 hv).2];rfl
    have HR:=hid hr1;clear hr hq HE hcur hce hcl hr1 HF;go_wp2_with fail;refine wp_region_held_drew (S:=λ_=>True) (by kernel_rfl) trivial (λhH=>?_);refine ah (λw5 hW=>?_);have HC5:Hid (w5.heap[w.heap.size]? =some (.cells cur.toArray 5 (0,0))):=by rw[hW];exact HC4.o
    have oq:Hid (Below w.heap.size w w5):=by rw[hW];exact HB.o.drew
    have HP5:Hid (∀j v,(ai3 r (ai0 .u8 (c.toNat:Int)))[j]? =some v->w5.cell? ((⟨w.heap.size,0,none⟩:Addr).add j)=some v):=by rw[hW];exact HP.o
    clear hW HC4 HB HP;refine aT 0 hH ?_;try simp only[ax]
    refine aT 1 hH ?_;try simp only[ax]
    refine aT 2 hH ?_;try simp only[ax]
    refine aT 3 hH ?_;try simp only[ax]
    refine aT 4 hH ?_;try simp only[ax]
    refine aT 5 hH ?_;try simp only[ax]
    refine aT 6 hH ?_;try simp only[ax]
    refine ag 7 rfl (by kernel_rfl) (λK hK=>?_);refine step_copy_splice rfl (.tmp 70) (.tmp 73) 99 99 rfl 5 Tryz.underlying99 Tryz.BK _ _ _ _ _ _ rfl rfl w.heap.size k cur 5 HC5.o (ai3 r (ai0 .u8 (c.toNat:Int))) HN.o (λ_=>⟨rfl,_,rfl,HP5.o⟩) HT.o HO.o w.heap.size w oq.o (al0 _) ?_;intro w6 HG6 hb6;refine hK.o _ _ trivial (λh2=>?_);clear hK K hH;have hH:=h2;clear h2
    try simp only[ax]
    have hlr:(ai3 r (ai0 .u8 (c.toNat:Int))).length=r:=aj5;rw[hlr];have hr2:=HR.o;have ib:((k:Nat):Int)+((r:Nat):Int)<=1000000000000:=by omega
    clear hlr hr2;refine aT 8 hH ?_;try simp only[ax]
    refine aT 9 hH ?_;try simp only[ax]
    refine wpAnyH_done (by kernel_rfl) ?_ _
    clear hH;have hr3:=HR.o;have HF6:Hid (xz w6 w.heap.size n (k+r) c):=⟨_,HG6.o,vv.o,HE2.o⟩;have uU:=hid hb6;clear hr3 hb6;have hwr:IntKind.i64.wrap (((k:Nat):Int)+((r:Nat):Int))=((k+r:Nat):Int):=by rw[IntKind.wrap_i64];omega
    rw[hwr];clear hwr;go_wp2_with fail;go_roundg (n-(k+r))
    case measure=>have:=HR.o;have:=HK.o;omega
    case rel=>exact⟨k+r,by have:=HR.o;omega,HR.o.2.1,by go_num,rfl,HF6,uU⟩
   ·obtain rfl:k=n:=by omega
    go_wp2_with fail;go_ret;exact⟨_,rfl,al0 _,HF.o,HB.o⟩
end
section
open Go.RowKit Go.Lib
def kU (w:ah7) (g T:Nat) (l:List UInt8):Prop:=
 l.length=T/\∃cur:List ah8,w.heap[g]? =some (.cells cur.toArray 5 (0,0))/\ cur.take T=byteCells l
theorem kU.QX {w:ah7} {g n:Nat} {c:UInt8} (h:xz w g n n c):kU w g n (ai3 n c):=by
 obtain⟨cur,hc,hl,he⟩:=h;refine⟨aj5,cur,hc,?_⟩;apply List.ext_getElem?;intro j;by_cases hj:j<n
 ·rw[aj3 hj,he j hj];simp[byteCells,hj]
 ·rw[aj8 (by rw[aj0];omega),aj8 (by simp[byteCells];omega)]
theorem kU.row {w:ah7} {g T:Nat} {l:List UInt8} (h:kU w g T l):∃cur:List ah8,w.heap[g]? =some (.cells cur.toArray 5 (0,0))/\ T<=cur.length:=by
 obtain⟨hl,cur,hc,ht⟩:=h;refine⟨cur,hc,?_⟩;have:=congrArg List.length ht;rw[byteCells_length,hl,aj0]at this;omega
theorem kU.cell {w:ah7} {g T:Nat} {l:List UInt8} (h:kU w g T l) (j:Nat) (hj:j<l.length):w.cell? ⟨g,j,none⟩=some (.int .u8 (l[j].toNat:Int)):=by
 obtain⟨hl,cur,hc,ht⟩:=h;rw[Lib.cell_of_heap hc,aj7,<-aj3 (show j<T by omega),ht];simp[byteCells,hj]
theorem ZT (A S D:List ah8) (T:Nat) (h:A.length+S.length<=T):(A++(S++D)).take T=A++(S++D.take (T-A.length-S.length)):=by
 rw[aj9,aj9,ak0 (show A.length<=T by omega),ak0 (show S.length<=T-A.length by omega)]
theorem od {w:ah7} {ops:Array Oper} {rest:List Oper} {o:Oper} {a:Act} {Q:Exit->Act->ah7->Prop} (hgd:o.guard=none) (d s:Operand) (dT sT:TypeId)
  (ho:o.op= .call { callee:= .builtin .copy,args:= #[d,s],argTypes:= #[dT,sT] }) (hu:Tryz.prog.underlying dT=some (.slice 5))
  (g off dLen dCap:Nat) (hd:a.eval d=ai1 (some ⟨g,off,none⟩) dLen dCap) (str:List UInt8) (hs:a.eval s= .string ⟨str.toArray⟩)
  (T:Nat) (l:List UInt8) (hT:kU w g T l) (hle:str.length<=dLen) (hfit:off+str.length<=T) (B:Nat) (w0:ah7) (hb:Below B w0 w) (hBg:B<=g)
  (h:∀w',Hid (kU w' g T (l.take off++(str++l.drop (off+str.length))))->Below B w0 w'->wpList Tryz.prog ops Q rest (a.put o.dst (goInt str.length)) w'):
  wpList Tryz.prog ops Q (o::rest) a w:=by
 have hT0:=hT;obtain⟨hl,cur,hc,ht⟩:=hT;obtain⟨cur',hc',hcl⟩:=hT0.row
 have e:cur'=cur:=by
  rw[hc]at hc';simpa using hc'.symm
 subst e;have hsz:(⟨str.toArray⟩:ByteArray).size=str.length:=by rw[Lib.size_eq]
 have hr:=run_copy_row_string (P:=Tryz.prog) w dT sT o.type 5 g off dLen dCap ⟨str.toArray⟩ cur'.toArray 5 hu Tryz.BK hc (by rw[hsz];exact hle) (by rw[hsz];simp;omega);rw[hsz]at hr;refine wpList_plain hgd λK hK=>?_
 unfold Oper.wp;simp[execOp,ho,resolve,invoke,builtin,hd,hs,hr,Result.andThen];refine hK _ _ (h _ ?_ (below_setRow hb hBg _));have hT1:T<=cur'.length:=hcl;refine⟨?_,_,setRow_heap w g _ _ 5 _ hc,?_⟩
 ·rw[ak1,ak1,aj0,List.length_drop];omega
 ·have e1:ak2 off cur'=byteCells (l.take off):=by
   unfold byteCells at ht ⊢;rw[List.map_take,<-ht,List.take_take,am2 (by omega)]
  have e2:ak2 (T-off-str.length) (ak3 (off+str.length) cur')=byteCells (l.drop (off+str.length)):=by
   unfold byteCells at ht ⊢;rw[List.map_drop,<-ht,List.drop_take]
   congr 1
   omega
  have e3:(ak2 off cur').length=off:=by rw[aj0];omega
  have e4:(byteCells str).length=str.length:=byteCells_length _;have e5:=ZT (ak2 off cur') (byteCells str) (ak3 (off+str.length) cur') T (by omega);rw[e3,e4]at e5;rw[byteCells_append,byteCells_append,<-e1,<-e2];exact e5
end
section
open Go.Lib
def wI (m:Bool) (N L:Nat):List UInt8:=(if m&&decide (0<gC N L)then[45]else[])++decDigits (gC N L)
def qD (A:List UInt8) (N L k:Nat):List UInt8:=A++(ai3 (9*(L-k)) 48++je (9*k) N)
theorem JU (A:List UInt8) (N L:Nat):A++ak3 (A.length) (ai3 (A.length+L*9) 48)=qD A N L 0:=by
 unfold qD;rw[List.drop_replicate,al5,je,List.append_nil,Nat.sub_zero,Nat.add_sub_cancel_left,ak9]
theorem sy (N k:Nat):1<=(decDigits (gC N k)).length/\ (decDigits (gC N k)).length<=9:=by
 rw[decDigits_length];exact⟨nDigits_pos _,nJ 8 _ (by have:=oW N k;simpa using this)⟩
theorem JV (A:List UInt8) (N L k o:Nat) (h:k<L) (ho:o+(decDigits (gC N k)).length+9*k=A.length+L*9):
  (qD A N L k).take o++(decDigits (gC N k)++(qD A N L k).drop (o+(decDigits (gC N k)).length))=qD A N L (k+1):=by
 have hd:=sy N k;have hp:=Ot 9 (gC N k) (by rw[<-decDigits_length];exact hd.2);rw[<-decDigits_length]at hp;obtain⟨ds,hds⟩:∃ds,ds=decDigits (gC N k):=⟨_,rfl⟩;rw[<-hds]at ho hd hp ⊢
 have e1:je (9*(k+1)) N=je 9 (gC N k)++je (9*k) N:=by
  rw[show 9*(k+1)=9+9*k by omega,Oo,<-Oq 9,Q2];rfl
 obtain⟨r,hr⟩:∃r,9*(L-k)=r+ds.length:=⟨9*(L-k)-ds.length,by omega⟩
 have e2:qD A N L k=(A++ai3 r 48)++(ai3 ds.length 48++je (9*k) N):=by
  unfold qD;rw[hr,<-ak4];simp only[ai2]
 have e3:(A++ai3 r (48:UInt8)).length=o:=by simp;omega
 have e4:ak2 o (qD A N L k)=A++ai3 r 48:=by rw[e2,<-e3,List.take_left]
 have e5:ak3 (o+ds.length) (qD A N L k)=je (9*k) N:=by
  rw[e2,<-List.drop_drop,<-e3,ak5]
  conv=>lhs;arg 1;rw[<-aj5 (n:=ds.length) (a:=(48:UInt8))]
  rw[ak5]
 rw[e4,e5];unfold qD;obtain⟨r',hr'⟩:∃r',r=r'+(9-ds.length):=⟨r-(9-ds.length),by omega⟩;rw[e1,hp,show 9*(L-(k+1))=r' by omega,hr',<-ak4];simp only[ai2]
theorem JW {m:Bool} {N L:Nat} (h1:N/10^(9*(L+1))=0) (h2:1<L+1->0<N/10^(9*(L+1-1))):qD (wI m N L) N L L=itoa (cV m N):=by
 have hp:gC N L=N/10^(9*L):=by
  unfold gC;rw[<-qa]at h1;refine al2 ?_;rcases am7 (N/10^(9*L)) 1000000000 with h|h
  ·exact h
  ·have:=Nat.div_pos h (by omega);omega
 have h0:0<N/10^(9*L)↔0<N:=by
  rcases am4 L with h|h
  ·subst h;simp
  ·have h3:=h2 (by omega);rw[am9]at h3;exact⟨λ_=>am5 h3 (Nat.div_le_self _ _),λ_=>h3⟩
 have ht:decDigits (N/10^(9*L))++je (9*L) N=decDigits N:=by
  have h4:=KV N L (by
   rcases am4 L with h|h
   ·exact .inl h
   ·right
    have h3:=h2 (by omega);rw[am9]at h3;exact(Nat.div_pos_iff.1 h3).2)
  unfold Ou at h4;rw[al4,al5]at h4;simpa using h4
 unfold qD wI;rw[al4,al5,hp,ai2];show _++(_++je (9*L) N)=_;rw[ht];have h5:decide (0<N/10^(9*L))=decide (0<N):=by rw[decide_eq_decide];exact h0
 rw[h5,<-qj];by_cases hz:cV m N<0
 ·rw[zQ hz,fK,decide_eq_true hz];rfl
 ·rw[mF (by omega),fK,decide_eq_false hz];rfl
end
end Go.Proofs.YtmenbpmciblnlaaGreatDoor

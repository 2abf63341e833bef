/- TxtPlain, TxtNum, TxtShelf, TxtLib, TxtRep, TxtBytes, TxtMem, TxtCont -/
import Derived.Test.YtmenbpmciblnlaaGreatDoorGWInt
import Derived.Shelf.Small.Wraps
import Derived.Shelf.Pu.ParseUintPublic10
import Derived.Shelf.Strconv.Itoa2
import Derived.Shelf.Strconv.Itoa1
import Derived.Lib.AppendIntMem
import Derived.Shelf.Strings.Repeat
set_option maxHeartbeats 0
set_option maxRecDepth 100000
open Array renaming size_replicate->a0a
open Bool renaming and_eq_true->a0b
open Go.Shelf renaming Ren->a0c
open Go.Value renaming int->a0d,slice->a0e
open List renaming all_eq_true->a0h,append_assoc->a0f,drop->a0A,drop_left->a0C,foldl_cons->a0i,getElem?_append_left->a0p,getElem?_eq_none->a0v,getElem?_replicate->a0r,getElem?_take_of_lt->a0q,getElem?_toArray->a0u,isPrefixOf->a0o,length_append->a0y,length_cons->a0j,length_pos_iff->a0m,length_replicate->a0s,length_take->a0n,mem_replicate->a0t,replicate->a0g,replicate_append_replicate->a0B,take->a0z,take_append->a0w,take_of_length_le->a0x,take_succ_cons->a0k,take_zero->a0l
open Nat renaming add_assoc->a0D,add_mul->a0P,add_sub_cancel->a0Z,div_div_eq_div_mul->a0E,div_eq_of_lt->a0I,eq_zero_or_pos->a0V,le_mul_of_pos_right->a0S,le_refl->a0H,le_trans->a0X,lt_of_lt_of_le->a0W,lt_or_ge->a0Y,min_eq_left->a0T,mod_eq_of_lt->a0J,mul_assoc->a0Q,mul_comm->a0G,mul_zero->a0M,pow_le_pow_right->a0U,pow_pos->a0K,pow_succ->a0F,strongRecOn->a0R,sub_self->a0L,zero_add->a0O,zero_mul->a0N
/- Plain facts on decimal texts: the digits of a number, pieces of nine of them, what a text stands for. -/
namespace Go.Proofs.YtmenbpmciblnlaaGreatDoor
section
open Go.Lib
def kK:Nat->Nat->List UInt8
 |0,_=>[]
 |k+1,v=>kK k (v/10)++[UInt8.ofNat (48+v%10)]
theorem SN (a:Nat) (b:Nat):∀v,kK (a+b) v=kK a (v/10^b)++kK b v:=by
 induction b with
 |zero=>intro v;simp[kK]
 |succ b ih=>
  intro v;rw[<-a0D,kK,ih,kK,<-a0f,a0E,a0F,a0G 10]
theorem SQ (k:Nat):∀v,kK k (v%10^k)=kK k v:=by
 induction k with
 |zero=>intro v;rfl
 |succ k ih=>
  intro v;rw[kK,kK,a0F,Nat.mod_mul_left_div_self,ih,Nat.mod_mul_left_mod]
theorem OQ (k:Nat):kK k 0=a0g k 48:=by
 induction k with
 |zero=>rfl
 |succ k ih=>rw[kK,Nat.zero_div,ih,List.replicate_succ'];rfl
theorem qE (k:Nat):∀v,v<10^(k+1)->nDigits v<=k+1:=by
 induction k with
 |zero=>intro v h;rw[nDigits_small (by omega)];exact a0H _
 |succ k ih=>
  intro v h;by_cases h1:v<10
  ·rw[nDigits_small h1];omega
  ·rw[nDigits_big h1];have h2:=ih (v/10) (by rw[a0F]at h;omega);omega
theorem SS (k:Nat):∀v,nDigits v<=k->kK k v=a0g (k-nDigits v) 48++decDigits v:=by
 induction k with
 |zero=>intro v h;have:=nDigits_pos v;omega
 |succ k ih=>
  intro v h;rw[kK];by_cases h1:v<10
  ·rw[nDigits_small h1,decDigits_one h1,a0I h1,OQ,a0J h1];rfl
  ·rw[nDigits_big h1]at h ⊢;rw[ih _ (by omega),decDigits.eq_def v,dif_neg h1,a0f,Nat.add_sub_add_right]
theorem zi (b:Nat):∀n,10^b<=n->decDigits n=decDigits (n/10^b)++kK b n:=by
 induction b with
 |zero=>intro n _;simp[kK]
 |succ b ih=>
  intro n h;have hp:0<10^b:=a0K (by omega);rw[a0F]at h;have h1:¬n<10:=by omega
  rw[decDigits.eq_def n,dif_neg h1,ih (n/10) (by omega),kK,a0f,a0E,a0F,a0G 10]
def piece (n j:Nat):Nat:=n/10^(9*j)%1000000000
theorem rW (n j:Nat):piece n j<1000000000:=Nat.mod_lt _ (by omega)
def Ps (n K:Nat):List Nat:=(List.range K).map (piece n)
theorem Kb (n K:Nat):(Ps n K).length=K:=by simp[Ps]
theorem Ro (n K:Nat):Ps n (K+1)=Ps n K++[piece n K]:=by simp[Ps,List.range_succ]
theorem Hq (n K j:Nat) (h:j<K):(Ps n K).getD j 0=piece n j:=by simp[Ps,List.getD,h]
theorem Yv (n K:Nat):∀x∈Ps n K,x<4294967296:=by
 intro x hx;obtain⟨j,_,rfl⟩:=List.mem_map.1 hx;have:=rW n j;omega
theorem U8:(10:Nat)^9=1000000000:=by decide
theorem tO (n k:Nat):n/10^(9*k)/1000000000=n/10^(9*(k+1)):=by
 rw[a0E,<-U8,<-Nat.pow_add]
 congr 2
def SV (n L k:Nat):List UInt8:=decDigits (n/10^(9*L))++(a0g (9*(L-k)) 48++kK (9*k) n)
theorem OT (n L:Nat) (h:L=0∨10^(9*L)<=n):SV n L L=decDigits n:=by
 unfold SV;rw[a0L,a0M];rcases h with rfl|h
 ·simp[kK]
 ·rw[zi (9*L) n h];rfl
def aR (l:List UInt8):Nat:=l.foldl (λa c=>a*10+(c.toNat-48)) 0
def fJ (c:UInt8):Bool:=decide (48<=c.toNat)&&decide (c.toNat<=57)
def dJ (l:List UInt8):Bool:=l.all fJ
theorem gB {c:UInt8}:fJ c=true↔48<=c.toNat/\ c.toNat<=57:=by simp[fJ]
theorem eZ {c:UInt8} {l:List UInt8}:dJ (c::l)=(fJ c&&dJ l):=by simp[dJ]
theorem oL {a b:List UInt8}:dJ (a++b)=(dJ a&&dJ b):=by simp[dJ]
theorem uZ {l:List UInt8} (h:dJ l=true):∀c∈l,fJ c=true:=a0h.1 h
theorem jq {l:List UInt8} (h:dJ l=true) (k:Nat):dJ (l.take k)=true:=a0h.2 λc hc=>uZ h c (List.mem_of_mem_take hc)
theorem rD {l:List UInt8} (h:dJ l=true) (k:Nat):dJ (l.drop k)=true:=a0h.2 λc hc=>uZ h c (List.mem_of_mem_drop hc)
theorem OU (l:List UInt8):∀a,l.foldl (λa c=>a*10+(c.toNat-48)) a=a*10^l.length+aR l:=by
 unfold aR;induction l with
 |nil=>intro a;simp
 |cons c l ih=>
  intro a;rw[a0i,a0i,ih,ih (0*10+_),a0j,a0F,a0N,a0O,a0P,a0Q,a0G 10,a0D]
theorem KJ:aR []=0:=rfl
theorem lK (a b:List UInt8):aR (a++b)=aR a*10^b.length+aR b:=by
 rw[aR.eq_def (a++b),List.foldl_append,OU b];rfl
theorem nN (c:UInt8):aR [c]=c.toNat-48:=by simp[aR]
theorem yR (a:List UInt8) (c:UInt8):aR (a++[c])=aR a*10+(c.toNat-48):=by
 rw[lK,nN];rfl
theorem jw (c:UInt8) (l:List UInt8):aR (c::l)=(c.toNat-48)*10^l.length+aR l:=by
 rw[<-nN,<-lK];rfl
theorem tN {l:List UInt8} (h:dJ l=true):aR l<10^l.length:=by
 induction l with
 |nil=>simp[aR]
 |cons c l ih=>
  rw[eZ,a0b]at h;have h1:=gB.1 h.1;have h2:=ih h.2;have h3:(c.toNat-48)*10^l.length<=9*10^l.length:=Nat.mul_le_mul_right _ (by omega);rw[jw,a0j,a0F];omega
theorem ofNat_toNat {d:Nat} (h:d<10):(UInt8.ofNat (48+d)).toNat=48+d:=by
 rw[UInt8.toNat_ofNat'];exact a0J (by omega)
theorem Iz {d:Nat} (h:d<10):fJ (UInt8.ofNat (48+d))=true:=by
 rw[gB,ofNat_toNat h];omega
theorem IA {c:UInt8} (h:fJ c=true):UInt8.ofNat (48+(c.toNat-48))=c:=by
 have h1:=gB.1 h;rw[show 48+(c.toNat-48)=c.toNat by omega];simp
theorem zD (n:Nat):dJ (decDigits n)=true:=by
 induction n using a0R with
 | _ n ih=>
  by_cases h:n<10
  ·rw[decDigits_one h,eZ,Iz h];rfl
  ·rw[decDigits.eq_def n,dif_neg h,oL,ih (n/10) (by omega),eZ,Iz (by omega)];rfl
theorem Me (n:Nat):aR (decDigits n)=n:=by
 induction n using a0R with
 | _ n ih=>
  by_cases h:n<10
  ·rw[decDigits_one h,nN,ofNat_toNat h];omega
  ·rw[decDigits.eq_def n,dif_neg h,yR,ih (n/10) (by omega),ofNat_toNat (by omega)];omega
theorem Ya (n:Nat):decDigits n≠[]:=by
 intro h;have h1:=decDigits_length n;rw[h]at h1;have:=nDigits_pos n;simp at h1;omega
theorem uG (k:Nat):∀l:List UInt8,l.length=k+1->dJ l=true->(l.head? ≠some 48∨l.length=1)->decDigits (aR l)=l:=by
 induction k with
 |zero=>
  intro l hl ha _
  match l,hl with
  |[c],_=>
   rw[eZ,a0b]at ha;have h1:=gB.1 ha.1;rw[nN,decDigits_one (by omega),IA ha.1]
 |succ k ih=>
  intro l hl ha hh;obtain⟨r,c,rfl⟩:∃r c,l=r++[c]:=⟨l.dropLast,l.getLast (by intro e;rw[e]at hl;simp at hl),(List.dropLast_concat_getLast _).symm⟩;have hr:r.length=k+1:=by simpa using hl
  rw[oL,a0b]at ha;have hc:fJ c=true:=by have:=ha.2;rw[eZ,a0b]at this;exact this.1
  have h1:=gB.1 hc
  match r,hr with
  |d::r,hr=>
   have hd:(d::r).head? ≠some 48:=by
    rcases hh with hh|hh
    ·simpa using hh
    ·simp at hh
   have h2:=ih (d::r) hr ha.1 (.inl hd)
   have h3:0<aR (d::r):=by
    rw[jw];have h4:fJ d=true:=by have:=ha.1;rw[eZ,a0b]at this;exact this.1
    have h5:=gB.1 h4;have h6:d.toNat≠48:=λe=>hd (by rw[List.head?_cons];congr 1;exact UInt8.toNat_inj.1 e)
    have:0<(d.toNat-48)*10^r.length:=Nat.mul_pos (by omega) (a0K (by omega));omega
   rw[yR,decDigits.eq_def,dif_neg (by omega),show(aR (d::r)*10+(c.toNat-48))/10=aR (d::r)by omega,h2,show(aR (d::r)*10+(c.toNat-48))%10=c.toNat-48 by omega,IA hc]
theorem OV (M:Nat):∀(l:List UInt8) (acc:Nat),dJ l=true->acc*10^l.length+aR l<=M->acc<10^9->(∀k,k<=l.length->acc*10^k+aR (l.take k)<10^10)->parseUintM M acc l= .ok (acc*10^l.length+aR l):=by
 intro l;induction l with
 |nil=>intro acc _ _ _ _;simp[parseUintM,aR]
 |cons c l ih=>
  intro acc ha hM hlt hk;rw[eZ,a0b]at ha;have h1:=gB.1 ha.1;have hk1:=hk 1 (by simp);simp only[a0k,a0l,nN,Nat.pow_one]at hk1;have hp:1<=10^l.length:=Nat.one_le_pow _ _ (by omega)
  have e:acc*10^(c::l).length+aR (c::l)=(acc*10+(c.toNat-48))*10^l.length+aR l:=by
   rw[jw,a0j,a0F,a0P,a0Q,a0G 10,a0D]
  rw[e]at hM ⊢;have h2:acc*10+(c.toNat-48)<=(acc*10+(c.toNat-48))*10^l.length:=a0S _ hp;unfold parseUintM;rw[if_pos h1,if_neg (by omega),if_neg (by omega)];by_cases hl:l=[]
  ·subst hl;simp[parseUintM,aR]
  ·refine ih _ ha.2 hM ?_ (λk hk'=>?_)
   ·have h3:=hk 2 (by have:=a0m.2 hl;simp;omega);have h4:acc*10^2=acc*100:=rfl
    have h5:aR ((c::l).take 2)≥(c.toNat-48)*10:=by
     cases l with
     |nil=>exact absurd rfl hl
     |cons d l=>simp only[a0k,a0l];rw[jw];simp
    omega
   ·have h3:=hk (k+1) (by simp;omega);rw[a0k,jw,a0n,a0T hk',a0F]at h3;rw[a0P,a0Q,a0G 10,a0D];exact h3
theorem OW {l:List UInt8} (ha:dJ l=true) (hl:l≠[]) (h9:l.length<=9):parseUintB 32 l= .ok (aR l):=by
 have hv:=tN ha;have hp:10^l.length<=10^9:=a0U (by omega) h9;rw[U8]at hp;unfold parseUintB;rw[if_neg hl]
 have h:=OV (2^32-1) l 0 ha (by rw[a0N,a0O];omega) (by omega) (λk hk=>by
  have h1:=tN (jq ha k);have h2:10^(l.take k).length<=10^9:=a0U (by omega) (by rw[a0n];omega);rw[a0N,a0O];omega)
 rw[a0N,a0O]at h;exact h
def fw (l:List UInt8):List UInt8:=trimPrefix l [45]
def J9 (l:List UInt8):Bool:=decide (fw l≠[])&&dJ (fw l)&&(decide ((fw l).head? ≠some 48)||decide (l=[48]))
theorem rV {l:List UInt8}:J9 l=true↔fw l≠[]/\ dJ (fw l)=true/\ ((fw l).head? ≠some 48∨l=[48]):=by
 simp only[J9,a0b,Bool.or_eq_true,decide_eq_true_iff,and_assoc]
theorem Ki (l:List UInt8):hasPrefix (45::l) [45]=true/\ fw (45::l)=l:=by
 simp[fw,trimPrefix,hasPrefix,a0o]
theorem Ht (l:List UInt8):(∃r,l=45::r)∨(hasPrefix l [45]=false/\ fw l=l):=by
 cases l with
 |nil=>exact .inr ⟨rfl,rfl⟩
 |cons c r=>
  by_cases h:c=45
  ·exact .inl ⟨r,by rw[h]⟩
  ·have h1:hasPrefix (c::r) [45]=false:=by
    simp only[hasPrefix,a0o,Bool.and_true];rw[beq_eq_false_iff_ne];exact λe=>h e.symm
   exact .inr ⟨h1,by unfold fw trimPrefix;rw[h1];rfl⟩
end
/- Plain facts on the texts of whole numbers: of which number a text is, and back. -/
section
open Go.Lib
def Ka (l:List UInt8):Int:=dK (hasPrefix l [45]) (aR (fw l))
theorem D5 {z:Int} (h:z<0):itoa z=45::decDigits z.natAbs:=by unfold itoa;rw[if_pos h]
theorem pE {z:Int} (h:0<=z):itoa z=decDigits z.natAbs:=by
 unfold itoa;rw[if_neg (by omega),show z.toNat=z.natAbs by omega]
theorem IB {l:List UInt8} (h:J9 l=true):decDigits (aR (fw l))=fw l:=by
 obtain⟨h1,h2,h3⟩:=rV.1 h;refine uG ((fw l).length-1) _ (by have:=a0m.2 h1;omega) h2 ?_;rcases h3 with h3|h3
 ·exact .inl h3
 ·subst h3;exact .inr rfl
theorem SX {l:List UInt8} (h:J9 l=true) (hm:hasPrefix l [45]=true):0<aR (fw l):=by
 have h0:=IB h;obtain⟨h1,h2,h3⟩:=rV.1 h;rcases a0V (aR (fw l))with h4|h4
 ·rw[h4,decDigits_one (by omega)]at h0;rcases h3 with h3|h3
  ·rw[<-h0]at h3;exact absurd rfl h3
  ·subst h3;exact absurd hm (by decide)
 ·exact h4
theorem NP {l:List UInt8} (h:J9 l=true):hasPrefix l [45]=decide (Ka l<0):=by
 unfold Ka;rw[tX];cases hm:hasPrefix l [45]with
 |false=>rfl
 |true=>have:=SX h hm;simp[this]
theorem Ru (l:List UInt8):(Ka l).natAbs=aR (fw l):=gW _ _
theorem OX {z:Int} {k:Nat} (h:Bd z k):nDigits z.natAbs<=10*k+1:=by
 refine qE (10*k) _ ?_;unfold Bd at h;refine a0W h ?_;rw[a0F,Nat.pow_mul];exact a0X (Nat.pow_le_pow_left (show 4294967296<=10^10 by decide) k) (a0S _ (by omega))
theorem QT {z:Int} {k:Nat} (h:Bd z k):(itoa z).length<=10*k+2:=by
 have h1:=OX h;by_cases hz:z<0
 ·rw[D5 hz,a0j,decDigits_length];omega
 ·rw[pE (by omega),decDigits_length];omega
theorem tC {P:Program} (W:World) (x y:List UInt8) (h:x.length+y.length<=9223372036854775807):(Op.stringOp .add ⟨x.toArray⟩ ⟨y.toArray⟩).run P W= .ok (.string ⟨(x++y).toArray⟩) W:=by
 rw[run_string_add_sum W _ _ (by simpa[ByteArray.size]using h),ByteArray.mk_append_mk]
end
/- What the shelf's contracts of strings.CutPrefix, strconv.ParseUint and of internal/strconv's digits ask of this program. -/
section
open Go.Shelf
def Tryz.IC:a0c:=⟨λ|103=>164|206=>203|210=>202|n=>n,λ|3=>3|4=>4|9=>9|24=>211|n=>n,λn=>n⟩
theorem Tryz.VL:Go.Proofs.Lays.n103 Tryz.prog Tryz.IC:={
 mixed:=by kernel_rfl
 f103:=Tryz.func164.trans (congrArg some (by kernel_rfl))
 f206:=Tryz.func203.trans (congrArg some (by kernel_rfl))
 f210:=Tryz.func202.trans (congrArg some (by kernel_rfl))
 t3:=Tryz.underlying3
 a3:=Tryz.isAgg3
 z3:=Tryz.sizeOf3
 v3:=Tryz.zeroValue3
 t4:=Tryz.underlying4
 a4:=Tryz.isAgg4
 z4:=Tryz.sizeOf4
 v4:=Tryz.zeroValue4
 t9:=Tryz.underlying9
 a9:=Tryz.isAgg9
 z9:=Tryz.sizeOf9
 v9:=Tryz.zeroValue9
 t24:=Tryz.underlying211
 a24:=Tryz.isAgg211
 z24:=Tryz.sizeOf211
 v24:=Tryz.zeroValue211 }
def Tryz.FK:a0c:=⟨λ|14=>249|16=>266|17=>252|19=>280|20=>281|21=>268|22=>269|23=>270|24=>271|25=>282|26=>283|27=>163|28=>201|29=>225|30=>242|31=>243|32=>244|33=>245|34=>259|35=>260|36=>261|37=>262|38=>263|39=>274|40=>275|n=>n,λ|0=>0|2=>2|3=>3|4=>4|5=>5|9=>9|20=>20|21=>21|22=>147|24=>103|25=>287|34=>299|36=>228|37=>99|39=>302|44=>316|47=>157|48=>320|50=>322|52=>278|55=>281|59=>295|60=>192|61=>296|65=>318|66=>319|67=>109|n=>n,λ|0=>5|1=>6|2=>2|3=>7|4=>8|n=>n⟩
theorem Tryz.SY:Go.Proofs.LaysPu.n14 Tryz.prog Tryz.FK:={
 mixed:=by kernel_rfl
 f14:=Tryz.func249.trans (congrArg some (by kernel_rfl))
 f16:=Tryz.func266.trans (congrArg some (by kernel_rfl))
 f17:=Tryz.func252.trans (congrArg some (by kernel_rfl))
 f19:=Tryz.func280.trans (congrArg some (by kernel_rfl))
 f20:=Tryz.func281.trans (congrArg some (by kernel_rfl))
 f21:=Tryz.func268.trans (congrArg some (by kernel_rfl))
 f22:=Tryz.func269.trans (congrArg some (by kernel_rfl))
 f23:=Tryz.func270.trans (congrArg some (by kernel_rfl))
 f24:=Tryz.func271.trans (congrArg some (by kernel_rfl))
 f25:=Tryz.func282.trans (congrArg some (by kernel_rfl))
 f26:=Tryz.func283.trans (congrArg some (by kernel_rfl))
 f27:=Tryz.func163.trans (congrArg some (by kernel_rfl))
 f28:=Tryz.func201.trans (congrArg some (by kernel_rfl))
 f29:=Tryz.func225.trans (congrArg some (by kernel_rfl))
 f30:=Tryz.func242.trans (congrArg some (by kernel_rfl))
 f31:=Tryz.func243.trans (congrArg some (by kernel_rfl))
 f32:=Tryz.func244.trans (congrArg some (by kernel_rfl))
 f33:=Tryz.func245.trans (congrArg some (by kernel_rfl))
 f34:=Tryz.func259.trans (congrArg some (by kernel_rfl))
 f35:=Tryz.func260.trans (congrArg some (by kernel_rfl))
 f36:=Tryz.func261.trans (congrArg some (by kernel_rfl))
 f37:=Tryz.func262.trans (congrArg some (by kernel_rfl))
 f38:=Tryz.func263.trans (congrArg some (by kernel_rfl))
 f39:=Tryz.func274.trans (congrArg some (by kernel_rfl))
 f40:=Tryz.func275.trans (congrArg some (by kernel_rfl))
 t0:=Tryz.underlying0
 a0:=Tryz.isAgg0
 z0:=Tryz.sizeOf0
 v0:=Tryz.zeroValue0
 i0:=by kernel_rfl
 t2:=Tryz.underlying2
 a2:=Tryz.isAgg2
 z2:=Tryz.sizeOf2
 v2:=Tryz.zeroValue2
 i2:=by kernel_rfl
 t3:=Tryz.underlying3
 a3:=Tryz.isAgg3
 z3:=Tryz.sizeOf3
 v3:=Tryz.zeroValue3
 i3:=by kernel_rfl
 t4:=Tryz.underlying4
 a4:=Tryz.isAgg4
 z4:=Tryz.sizeOf4
 v4:=Tryz.zeroValue4
 i4:=by kernel_rfl
 t5:=Tryz.underlying5
 a5:=Tryz.isAgg5
 z5:=Tryz.sizeOf5
 v5:=Tryz.zeroValue5
 i5:=by kernel_rfl
 t9:=Tryz.underlying9
 a9:=Tryz.isAgg9
 z9:=Tryz.sizeOf9
 v9:=Tryz.zeroValue9
 i9:=by kernel_rfl
 t20:=Tryz.underlying20
 a20:=Tryz.isAgg20
 z20:=Tryz.sizeOf20
 v20:=Tryz.zeroValue20
 i20:=by kernel_rfl
 t21:=Tryz.underlying21
 a21:=Tryz.isAgg21
 z21:=Tryz.sizeOf21
 v21:=Tryz.zeroValue21
 i21:=by kernel_rfl
 t22:=Tryz.underlying147
 a22:=Tryz.isAgg147
 z22:=Tryz.sizeOf147
 v22:=Tryz.zeroValue147
 i22:=by kernel_rfl
 t24:=Tryz.underlying103
 a24:=Tryz.isAgg103
 z24:=Tryz.sizeOf103
 v24:=Tryz.zeroValue103
 i24:=by kernel_rfl
 t25:=Tryz.underlying287
 a25:=Tryz.isAgg287
 z25:=Tryz.sizeOf287
 v25:=Tryz.zeroValue287
 i25:=by kernel_rfl
 t34:=Tryz.underlying299
 a34:=Tryz.isAgg299
 z34:=Tryz.sizeOf299
 v34:=Tryz.zeroValue299
 i34:=by kernel_rfl
 c34:=by kernel_rfl
 t36:=Tryz.underlying228
 a36:=Tryz.isAgg228
 z36:=Tryz.sizeOf228
 v36:=Tryz.zeroValue228
 i36:=by kernel_rfl
 t37:=Tryz.underlying99
 a37:=Tryz.isAgg99
 z37:=Tryz.sizeOf99
 v37:=Tryz.zeroValue99
 i37:=by kernel_rfl
 t39:=Tryz.underlying302
 a39:=Tryz.isAgg302
 z39:=Tryz.sizeOf302
 v39:=Tryz.zeroValue302
 i39:=by kernel_rfl
 t44:=Tryz.underlying316
 a44:=Tryz.isAgg316
 z44:=Tryz.sizeOf316
 v44:=Tryz.zeroValue316
 i44:=by kernel_rfl
 t47:=Tryz.underlying157
 a47:=Tryz.isAgg157
 z47:=Tryz.sizeOf157
 v47:=Tryz.zeroValue157
 i47:=by kernel_rfl
 t48:=Tryz.underlying320
 a48:=Tryz.isAgg320
 z48:=Tryz.sizeOf320
 v48:=Tryz.zeroValue320
 i48:=by kernel_rfl
 t50:=Tryz.underlying322
 a50:=Tryz.isAgg322
 z50:=Tryz.sizeOf322
 v50:=Tryz.zeroValue322
 i50:=by kernel_rfl
 t52:=Tryz.underlying278
 a52:=Tryz.isAgg278
 z52:=Tryz.sizeOf278
 v52:=Tryz.zeroValue278
 i52:=by kernel_rfl
 t55:=Tryz.underlying281
 a55:=Tryz.isAgg281
 z55:=Tryz.sizeOf281
 v55:=Tryz.zeroValue281
 i55:=by kernel_rfl
 t59:=Tryz.underlying295
 a59:=Tryz.isAgg295
 z59:=Tryz.sizeOf295
 v59:=Tryz.zeroValue295
 i59:=by kernel_rfl
 t60:=Tryz.underlying192
 a60:=Tryz.isAgg192
 z60:=Tryz.sizeOf192
 v60:=Tryz.zeroValue192
 i60:=by kernel_rfl
 t61:=Tryz.underlying296
 a61:=Tryz.isAgg296
 z61:=Tryz.sizeOf296
 t65:=Tryz.underlying318
 a65:=Tryz.isAgg318
 z65:=Tryz.sizeOf318
 v65:=Tryz.zeroValue318
 i65:=by kernel_rfl
 t66:=Tryz.underlying319
 a66:=Tryz.isAgg319
 z66:=Tryz.sizeOf319
 v66:=Tryz.zeroValue319
 i66:=by kernel_rfl
 t67:=Tryz.underlying109
 a67:=Tryz.isAgg109
 z67:=Tryz.sizeOf109
 v67:=Tryz.zeroValue109
 i67:=by kernel_rfl
 g0:=by kernel_rfl
 m0:=by kernel_rfl
 g1:=by kernel_rfl
 m1:=by kernel_rfl
 g2:=by kernel_rfl
 m2:=by kernel_rfl
 g3:=by kernel_rfl
 m3:=by kernel_rfl
 g4:=by kernel_rfl
 m4:=by kernel_rfl }
def Tryz.IE:a0c:=⟨λ|283=>242|n=>n,λ|3=>3|4=>4|9=>9|n=>n,λn=>n⟩
theorem Tryz.VN:Go.Proofs.Lays.n283 Tryz.prog Tryz.IE:={
 mixed:=by kernel_rfl
 f283:=Tryz.func242.trans (congrArg some (by kernel_rfl))
 t3:=Tryz.underlying3
 a3:=Tryz.isAgg3
 z3:=Tryz.sizeOf3
 v3:=Tryz.zeroValue3
 t4:=Tryz.underlying4
 a4:=Tryz.isAgg4
 z4:=Tryz.sizeOf4
 v4:=Tryz.zeroValue4
 t9:=Tryz.underlying9
 a9:=Tryz.isAgg9
 z9:=Tryz.sizeOf9
 v9:=Tryz.zeroValue9 }
def Tryz.FL:a0c:=⟨λ|129=>260|284=>243|317=>259|318=>261|n=>n,λ|0=>0|3=>3|4=>4|5=>5|9=>9|46=>228|53=>147|212=>295|n=>n,λ|17=>2|n=>n⟩
theorem Tryz.Ta:Go.Proofs.LaysM.n284 Tryz.prog Tryz.FL:={
 mixed:=by kernel_rfl
 f129:=Tryz.func260.trans (congrArg some (by kernel_rfl))
 f284:=Tryz.func243.trans (congrArg some (by kernel_rfl))
 f317:=Tryz.func259.trans (congrArg some (by kernel_rfl))
 f318:=Tryz.func261.trans (congrArg some (by kernel_rfl))
 t0:=Tryz.underlying0
 a0:=Tryz.isAgg0
 z0:=Tryz.sizeOf0
 v0:=Tryz.zeroValue0
 t3:=Tryz.underlying3
 a3:=Tryz.isAgg3
 z3:=Tryz.sizeOf3
 v3:=Tryz.zeroValue3
 t4:=Tryz.underlying4
 a4:=Tryz.isAgg4
 z4:=Tryz.sizeOf4
 v4:=Tryz.zeroValue4
 t5:=Tryz.underlying5
 a5:=Tryz.isAgg5
 z5:=Tryz.sizeOf5
 v5:=Tryz.zeroValue5
 t9:=Tryz.underlying9
 a9:=Tryz.isAgg9
 z9:=Tryz.sizeOf9
 v9:=Tryz.zeroValue9
 t46:=Tryz.underlying228
 a46:=Tryz.isAgg228
 z46:=Tryz.sizeOf228
 v46:=Tryz.zeroValue228
 t53:=Tryz.underlying147
 a53:=Tryz.isAgg147
 z53:=Tryz.sizeOf147
 v53:=Tryz.zeroValue147
 t212:=Tryz.underlying295
 a212:=Tryz.isAgg295
 z212:=Tryz.sizeOf295
 v212:=Tryz.zeroValue295
 g17:=by kernel_rfl
 i0:=by kernel_rfl
 i3:=by kernel_rfl
 i4:=by kernel_rfl
 i5:=by kernel_rfl
 i9:=by kernel_rfl
 i46:=by kernel_rfl
 i53:=by kernel_rfl
 i212:=by kernel_rfl
 m17:=by kernel_rfl }
def Tryz.IG:a0c:=⟨λ|285=>244|n=>n,λ|0=>0|3=>3|4=>4|5=>5|9=>9|37=>99|51=>192|53=>147|n=>n,λn=>n⟩
theorem Tryz.VO:Go.Proofs.Lays.n285 Tryz.prog Tryz.IG:={
 mixed:=by kernel_rfl
 f285:=Tryz.func244.trans (congrArg some (by kernel_rfl))
 t0:=Tryz.underlying0
 a0:=Tryz.isAgg0
 z0:=Tryz.sizeOf0
 v0:=Tryz.zeroValue0
 t3:=Tryz.underlying3
 a3:=Tryz.isAgg3
 z3:=Tryz.sizeOf3
 v3:=Tryz.zeroValue3
 t4:=Tryz.underlying4
 a4:=Tryz.isAgg4
 z4:=Tryz.sizeOf4
 v4:=Tryz.zeroValue4
 t5:=Tryz.underlying5
 a5:=Tryz.isAgg5
 z5:=Tryz.sizeOf5
 v5:=Tryz.zeroValue5
 t9:=Tryz.underlying9
 a9:=Tryz.isAgg9
 z9:=Tryz.sizeOf9
 v9:=Tryz.zeroValue9
 t37:=Tryz.underlying99
 a37:=Tryz.isAgg99
 z37:=Tryz.sizeOf99
 v37:=Tryz.zeroValue99
 t51:=Tryz.underlying192
 a51:=Tryz.isAgg192
 z51:=Tryz.sizeOf192
 v51:=Tryz.zeroValue192
 t53:=Tryz.underlying147
 a53:=Tryz.isAgg147
 z53:=Tryz.sizeOf147
 v53:=Tryz.zeroValue147 }
end
/- The library's functions that write and read numbers, cut off a sign, repeat a string: contracts at this program. -/
section
open Go.RowKit Go.Sort Go.Lib
def zX (w:World):Prop:=Lib.TabIs Tryz.prog w ((Tryz.progGlobals[2]?.map (·.name)).getD default) .u64 Lib.pow10Tab
theorem zX.below {w w':World} (h:zX w) (hb:Below w.heap.size w w'):zX w':=Lib.tabBelow_of_tabIs h w' hb
theorem OY (i:Nat) (h:i<100) (w:World):
  Calls Tryz.prog 242 #[.int .i64 (i:Int)] w λe w'=>e= .returned (.string ⟨(decDigits i).toArray⟩)/\ w'=w:=Any.internal_strconv_small Tryz.VN i h w
theorem CO (u:Nat) (h1:1<=u) (h2:u<18446744073709551616) (w:World) (ht:zX w):
  Calls Tryz.prog 243 #[.int .u64 (u:Int)] w λe w'=>e= .returned (.int .i64 ((nDigits u:Nat):Int))/\ w'=w:=Any.internal_strconv_numDigits Tryz.Ta u h1 h2 w ht
theorem KU (blk off cap u:Nat) (d:Array UInt8) (w:World) (hH:Holds (λ(b:UInt8)=>a0d .u8 (b.toNat:Int)) w blk off d) (hu:u<10^d.size) (hu64:u<18446744073709551616) (hsz:d.size<4611686018427387904):
  Calls Tryz.prog 244 #[a0e (some ⟨blk,off,none⟩) d.size cap,.int .u64 (u:Int)] w λe w'=>
   e= .returned (.tuple #[])/\∃(n v':Nat) (dk:Array UInt8),w'=(putRow (λ(b:UInt8)=>a0d .u8 (b.toNat:Int)) w blk off dk).drewN n/\ FmtInv d.size u 0 v' dk:=Any.internal_strconv_formatBase10 Tryz.VO blk off cap u d w hH hu hu64 hsz
theorem OZ (u:Nat) (hs:u<100) (w:World):
  Calls Tryz.prog 222 #[.int .u64 (u:Int),.int .i64 10] w (cu (.string ⟨(decDigits u).toArray⟩) w):=by
 have h1:((u:Nat):Int)<100:=by omega
 go_enter Tryz.func222,Tryz.ntmps222;go_wp2_with (go_at_call 242;refine(OY u hs _).mono ?_;rintro e w' ⟨rfl,rfl⟩);go_ret;exact⟨rfl,Below.refl _ _⟩
theorem VP (u:Nat) (hu:100<=u) (hu64:u<18446744073709551616) (w:World) (htab:zX w):
  Calls Tryz.prog 222 #[.int .u64 (u:Int),.int .i64 10] w (cu (.string ⟨(decDigits u).toArray⟩) w):=by
 have iu:¬((u:Nat):Int)<100:=by omega
 have hu1:1<=u:=by omega
 have hnd20:nDigits u<=20:=by have:=numDigits_eq u hu1 hu64;split at this<;>omega
 have hal:Tryz.prog.arrayLen 278=24:=by simp[Program.arrayLen,Tryz.underlying278]
 have hsl:∀W,(Instr.sliceAt 278 (.pointer (some ⟨w.heap.size,0,none⟩)) none (some (.int .i64 ((nDigits u:Nat):Int))) none).run Tryz.prog W= .ok (a0e (some ⟨w.heap.size,0,none⟩) (nDigits u) 24) W:=λW=>by
  rw[run_sliceAt_array_h W 278 ⟨w.heap.size,0,none⟩ (by simp[Program.arrayLen,Program.elem,Tryz.underlying278]) .i64 ((nDigits u:Nat):Int) (by omega) (by rw[hal];omega)];go_simp
 have hH0:=holds_zero0 w 278 (nDigits u) (by omega);have hfmt:=KU w.heap.size 0 24 u (Array.replicate (nDigits u) 0) (w.alloc (.cells zeros24 278)) hH0 (by rw[a0a];exact lt_pow_nDigits u) hu64 (by rw[a0a];omega);rw[a0a]at hfmt;have HH0:=Lib.hid hH0;have HT:=Lib.hid htab;clear hH0 hal htab;go_enter Tryz.func222,Tryz.ntmps222;go_wp2_with (go_at_call 243;refine(CO u hu1 hu64 _ (Lib.tabIs_alloc HT.out _)).mono ?_;rintro e w' ⟨rfl,rfl⟩);refine hfmt.mono ?_;rintro e w' ⟨rfl,k,v',dk,rfl,hF⟩
 have hcv:(convert 99 9 (a0e (some ⟨w.heap.size,0,none⟩) (nDigits u) 24)).run Tryz.prog ((putRow (λ(b:UInt8)=>a0d .u8 (b.toNat:Int)) (w.alloc (.cells zeros24 278)) w.heap.size 0 dk).drewN k)= .ok (.string ⟨(decDigits u).toArray⟩) ((putRow (λ(b:UInt8)=>a0d .u8 (b.toNat:Int)) (w.alloc (.cells zeros24 278)) w.heap.size 0 dk).drewN k):=by
  have h:=run_convert_bytes_back (P:=Tryz.prog) ((putRow (λ(b:UInt8)=>a0d .u8 (b.toNat:Int)) (w.alloc (.cells zeros24 278)) w.heap.size 0 dk).drewN k) 99 9 5 ⟨w.heap.size,0,none⟩ 24 (decDigits u) Tryz.underlying99 Tryz.underlying5 Tryz.underlying9 (λj hj=>by
   rw[row_is_numeral hF j hj,Lib.add_plain,World.cell?_drewN];exact cell?_putRow (λ(b:UInt8)=>a0d .u8 (b.toNat:Int)) _ w.heap.size 0 _ dk HH0.out (by rw[hF.size,a0a]) j (by rw[hF.size];rw[decDigits_length]at hj;exact hj))
  rw[decDigits_length]at h;exact h
 obtain⟨os,eo⟩:=Lib.fin_at w (.cells zeros24 278) dk k 0;have hnx:Hid (Below w.heap.size w ((putRow (λ(b:UInt8)=>a0d .u8 (b.toNat:Int)) (w.alloc (.cells zeros24 278)) w.heap.size 0 dk).drewN k)):=by rw[eo];exact Lib.below_grow _ w (a0H _) k os
 generalize (putRow (λ(b:UInt8)=>a0d .u8 (b.toNat:Int)) (w.alloc (.cells zeros24 278)) w.heap.size 0 dk).drewN k=W2 at hcv hnx ⊢;clear eo HH0 hF;go_wp2_with fail;go_ret;exact⟨rfl,hnx.out⟩
theorem YX (u:Nat) (hu:u<18446744073709551616) (w:World) (ht:zX w):
  Calls Tryz.prog 222 #[.int .u64 (u:Int),.int .i64 10] w (cu (.string ⟨(decDigits u).toArray⟩) w):=by
 rcases a0Y u 100 with h|h
 ·exact OZ u h w
 ·exact VP u h hu w ht
theorem U2 (u:Nat) (hu:u<18446744073709551616) (w:World) (ht:zX w):
  Calls Tryz.prog 199 #[.int .u64 (u:Int),.int .i64 10] w (cu (.string ⟨(decDigits u).toArray⟩) w):=by
 have HT:=Lib.hid ht;clear ht;go_enter Tryz.func199,Tryz.ntmps199;go_wp2_with fail;refine(YX u hu _ HT.out).mono ?_;rintro e w' ⟨rfl,hB⟩;go_wp2_with fail;go_ret;exact⟨rfl,hB⟩
theorem BA (s p:ByteArray) (w:World):
  Calls Tryz.prog 164 #[.string s,.string p] w λe w'=>e= .returned (.tuple #[.string ⟨(Lib.trimPrefix s.data.toList p.data.toList).toArray⟩,.bool (Lib.hasPrefix s.data.toList p.data.toList)])/\ w'=w:=Any.strings_CutPrefix Tryz.VL s p w
theorem Rt (s:ByteArray) (w:World):
  Calls Tryz.prog 164 #[.string s,.string ⟨#[45]⟩] w λe w'=>e= .returned (.tuple #[.string ⟨(fw s.data.toList).toArray⟩,.bool (hasPrefix s.data.toList [45])])/\ w'=w:=BA s ⟨#[45]⟩ w
theorem NM (s:ByteArray) (hs:s.size<=9) (h0:0<s.size) (ha:dJ s.data.toList=true) (w:World):
  Calls Tryz.prog 249 #[.string s,.int .i64 10,.int .i64 32] w (cu (.tuple #[.int .u64 ((aR s.data.toList:Nat):Int),.nilIface]) w):=by
 have e:s.data.toList.length=s.size:=(Lib.size_eq s).symm;have hp:parseUintB 32 s.data.toList= .ok (aR s.data.toList):=OW ha (λh=>by rw[h]at e;simp at e;omega) (by omega);refine Calls.mono (Any.strconv_ParseUint_10_at32_ok Tryz.SY s (by omega) _ hp w) ?_;rintro e w' ⟨rfl,rfl|rfl⟩
 ·exact⟨rfl,Below.refl _ _⟩
 ·exact⟨rfl,Lib.bytesWorld_below _ _ _⟩
end
/- What the shelf's contracts of strings.Repeat and math/bits.Mul ask of this program. -/
section
open Go.Shelf
def Tryz.II:a0c:=⟨λ|212=>200|263=>223|264=>224|n=>n,λ|46=>228|51=>192|53=>147|146=>219|148=>260|n=>n,λn=>n⟩
theorem Tryz.VQ:Go.Proofs.Lays.n212 Tryz.prog Tryz.II:={
 mixed:=by kernel_rfl
 f212:=Tryz.func200.trans (congrArg some (by kernel_rfl))
 f263:=Tryz.func223.trans (congrArg some (by kernel_rfl))
 f264:=Tryz.func224.trans (congrArg some (by kernel_rfl))
 t46:=Tryz.underlying228
 a46:=Tryz.isAgg228
 z46:=Tryz.sizeOf228
 v46:=Tryz.zeroValue228
 t51:=Tryz.underlying192
 a51:=Tryz.isAgg192
 z51:=Tryz.sizeOf192
 v51:=Tryz.zeroValue192
 t53:=Tryz.underlying147
 a53:=Tryz.isAgg147
 z53:=Tryz.sizeOf147
 v53:=Tryz.zeroValue147
 t146:=Tryz.underlying219
 a146:=Tryz.isAgg219
 z146:=Tryz.sizeOf219
 v146:=Tryz.zeroValue219
 t148:=Tryz.underlying260
 a148:=Tryz.isAgg260
 z148:=Tryz.sizeOf260
 v148:=Tryz.zeroValue260 }
end
/- The contract of bytes.Repeat, of one byte. -/
section
open Lib (hid)
open Go.RowKit
theorem Tryz.FM:(Tryz.prog.info? 5).map (·.size)=some 1:=by kernel_rfl
theorem Tc (n:Nat) (hn:n<18446744073709551616) (w:World):
  Calls Tryz.prog 200 #[.int .u64 1,.int .u64 (n:Int)] w λe w'=>e= .returned (.tuple #[.int .u64 0,.int .u64 (n:Int)])/\ w=w':=by
 have h:=Any.bits_Mul Tryz.VQ 1 n (by omega) hn w;rw[Nat.one_mul,a0I hn,a0J hn]at h;exact h.mono λ_ _ h=>⟨h.1,h.2.symm⟩
def BG (w:World) (g n k:Nat) (c:UInt8):Prop:=
 ∃cur:List Value,w.heap[g]? =some (.cells cur.toArray 5 (0,0))/\ n<=cur.length/\∀j,j<k->cur[j]? =some (.int .u8 (c.toNat:Int))
def VR (w:World) (n:Nat) (c:UInt8) (e:Ending) (w':World):Prop:=
 ∃g,e= .returned (a0e (some ⟨g,0,none⟩) n n)/\ w.heap.size<=g/\ BG w' g n n c/\ Below w.heap.size w w'
theorem yS {cur:List Value} {k m:Nat} {c:UInt8} (h:∀j,j<k->cur[j]? =some (.int .u8 (c.toNat:Int))) (hk:k+m<=cur.length):
  (splice cur k (a0g m (.int .u8 (c.toNat:Int)))).length=cur.length/\∀j,j<k+m->(splice cur k (a0g m (.int .u8 (c.toNat:Int))))[j]? =some (.int .u8 (c.toNat:Int)):=by
 unfold splice;refine⟨by simp;omega,λj hj=>?_⟩;by_cases h1:j<k
 ·rw[a0p (by simp;omega),a0q h1,h j h1]
 ·rw[List.getElem?_append_right (by simp;omega),a0n,a0T (by omega),a0p (by simp;omega),a0r,if_pos (by omega)]
theorem Rp (b o n:Nat) (c:UInt8) (w:World) (hc:w.cell? ⟨b,o,none⟩=some (.int .u8 (c.toNat:Int))) (h0:0<n) (hn:n<=1000000000000):
  Calls Tryz.prog 162 #[a0e (some ⟨b,o,none⟩) 1 1,.int .i64 (n:Int)] w (VR w n c):=by
 have e0:(((n:Nat):Int)==0)=false:=by simp;omega
 have i1:(0:Int)<((n:Nat):Int):=by omega
 have i2:((n:Nat):Int)<=1000000000000:=by omega
 obtain⟨cs,hrun,hle,hmax⟩:=Lib.run_makeNoZero (P:=Tryz.prog) w #[3] 99 5 Tryz.underlying99 n (by omega)
 have hcall:(callFunc 197 #[.int .i64 ((n:Nat):Int)]).run Tryz.prog w= .ok (.value (a0e (some ⟨w.heap.size,0,none⟩) n cs.size)) (w.drew.drew.alloc (.cells cs 5)):=by
  rw[run_callFunc_extern Tryz.func197 (by kernel_rfl) (by kernel_rfl) (by kernel_rfl) (e:=Extern.BytealgMakeNoZero.makeNoZero #[3] #[99]) (by kernel_rfl),hrun];rfl
 clear hrun;have HC:=hid hc;clear hc;go_enter Tryz.func162,Tryz.ntmps162;go_upto_if 42 with(first|(go_at_call 200;refine(Tc n (by omega) _).mono ?_;rintro e w' ⟨rfl,rfl⟩))
 go_cut [8] (λs8 wx=>w=wx/\∃m:Nat,1<=m/\ m<=1000000000000/\ s8= .int .i64 (m:Int))
 case first=>
  go_wp2
  all_goals (go_meet;first|exact⟨rfl,n,by omega,by omega,rfl⟩|exact⟨rfl,8192,by omega,by omega,rfl⟩)
 case rest=>
  obtain⟨rfl,m,hm1,hm2,rfl⟩:=hcut
  have HG:Hid (((w.alloc (.cells cs 5)).drew.drew).heap[w.heap.size]? =some (.cells cs.toList.toArray 5 (0,0))):=by
   show(w.heap.push _)[w.heap.size]? =_;rw[Array.getElem?_push_size,Array.toArray_toList]
  have HB:Hid (Below w.heap.size w ((w.alloc (.cells cs 5)).drew.drew)):=(((Below.refl _ _).alloc (a0H _) _).drew).drew;have hblt:b<w.heap.size:=World.block_lt_of_cell? w _ HC.out
  have HS:Hid (0<(a0g 1 (a0d .u8 (c.toNat:Int))).length->some (⟨w.heap.size,0,none⟩:Addr)=some ⟨w.heap.size,0,none⟩/\∃ad,some (⟨b,o,none⟩:Addr)=some ad/\∀j v,(a0g 1 (a0d .u8 (c.toNat:Int)))[j]? =some v->((w.alloc (.cells cs 5)).drew.drew).cell? (ad.add j)=some v):=by
   intro _;refine⟨rfl,_,rfl,λj v hv=>?_⟩
   match j,hv with
   |0,hv=>
    simp at hv;subst hv;exact(HB.out.cell (p:=⟨b,o,none⟩) hblt).trans HC.out
   |j+1,hv=>simp at hv
  have HL:Hid (n<=cs.toList.length):=by show _;rw[Array.length_toList];exact hle
  have HN:Hid ((a0g 1 (a0d .u8 (c.toNat:Int))).length=Nat.min 1 n):=by show _;rw[a0s];exact(a0T h0).symm
  have HT:=hid (show 0+(a0g 1 (a0d .u8 (c.toNat:Int))).length<=cs.toList.length by rw[a0s];have:=HL.out;omega);have HO:Hid (∀v∈a0g 1 (a0d .u8 (c.toNat:Int)),v.oneCell'=true):=by intro v hv;rw[(a0t.1 hv).2];rfl
  clear hle hmax hblt;go_wp2_with ((with_reducible refine wpList_copy_splice rfl (.tmp 58) (.tmp 59) 99 99 rfl 5 rfl Tryz.FM _ _ _ _ _ _ rfl rfl w.heap.size 0 cs.toList 5 HG.out (a0g 1 (a0d .u8 (c.toNat:Int))) HN.out HS.out HT.out HO.out w.heap.size w HB.out (a0H _) ?_);intro w4 HG4 hb4)
  have HF:Hid (BG w4 w.heap.size n 1 c):=by
   have h1:=yS (cur:=cs.toList) (k:=0) (m:=1) (c:=c) (λj hj=>by omega) (by have:=HL.out;omega);exact⟨_,HG4.out,by rw[h1.1];exact HL.out,λj hj=>h1.2 j (by omega)⟩
  have qP:=hid hb4;clear HG HB HS HL HG4 hb4 hcall HC HN HT HO;go_loopg [10] (n-1) (λg s10 wx=>∃k:Nat,1<=k/\ k<=n/\ s10= .int .i64 (k:Int)/\ Hid (n-k=g)/\ Hid (BG wx w.heap.size n k c)/\ Hid (Below w.heap.size w wx))
  case atStart=>exact⟨1,a0H _,h0,by simp,rfl,HF,qP⟩
  case round=>
   clear HF qP;obtain⟨k,hk1,hk2,rfl,HK,HF,HB⟩:=hrel;by_cases hlt:k<n
   ·obtain⟨q,hq⟩:∃q,q=min k m:=⟨_,rfl⟩;obtain⟨r,hr⟩:∃r,r=min q (n-k):=⟨_,rfl⟩;obtain⟨cur,hcur,hcl,hce⟩:=HF.out;have hq1:1<=q/\ q<=k:=by omega
    have ZW:((q:Nat):Int)<=((n:Nat):Int):=by omega
    have hr1:1<=r/\ k+r<=n/\ r<=q:=by omega
    have hmin:min ((k:Nat):Int) ((m:Nat):Int)=((q:Nat):Int):=by omega
    have hne:¬n=k:=by omega
    have HC4:=hid hcur;have HE:=yS (k:=k) (m:=r) hce (by omega);have Dl:Hid (n<=(splice cur k (a0g r (.int .u8 (c.toNat:Int)))).length):=a0X hcl (Nat.le_of_eq HE.1.symm);have HE2:=hid HE.2;have HN:=hid (show(a0g r (a0d .u8 (c.toNat:Int))).length=Nat.min q (n-k)by rw[a0s];exact hr)
    have HP:Hid (∀j v,(a0g r (a0d .u8 (c.toNat:Int)))[j]? =some v->wr.cell? ((⟨w.heap.size,0,none⟩:Addr).add j)=some v):=by
     intro j v hv;have hj:=(List.getElem?_eq_some_iff.1 hv).1;rw[a0s]at hj;rw[a0r,if_pos hj]at hv;cases hv;rw[Addr.add_lit,a0O,Lib.cell_of_heap hcur,a0u,hce j (by omega)]
    have HT:=hid (show k+(a0g r (a0d .u8 (c.toNat:Int))).length<=cur.length by rw[a0s];omega);have HO:Hid (∀v∈a0g r (a0d .u8 (c.toNat:Int)),v.oneCell'=true):=by intro v hv;rw[(a0t.1 hv).2];rfl
    have HR:=hid hr1;clear hr hq HE hcur hce hcl hr1 HF;go_wp2_with fail;refine wp_region_held_drew (S:=λ_=>True) (by kernel_rfl) trivial (λhH=>?_);refine ai (λw5 hW=>?_);have HC5:Hid (w5.heap[w.heap.size]? =some (.cells cur.toArray 5 (0,0))):=by rw[hW];exact HC4.out
    have og:Hid (Below w.heap.size w w5):=by rw[hW];exact HB.out.drew
    have HP5:Hid (∀j v,(a0g r (a0d .u8 (c.toNat:Int)))[j]? =some v->w5.cell? ((⟨w.heap.size,0,none⟩:Addr).add j)=some v):=by rw[hW];exact HP.out
    clear hW HC4 HB HP;refine aQ 0 hH ?_;try simp only[ax]
    refine aQ 1 hH ?_;try simp only[ax]
    refine aQ 2 hH ?_;try simp only[ax]
    refine aQ 3 hH ?_;try simp only[ax]
    refine aQ 4 hH ?_;try simp only[ax]
    refine aQ 5 hH ?_;try simp only[ax]
    refine aQ 6 hH ?_;try simp only[ax]
    refine ah 7 rfl (by kernel_rfl) (λK hK=>?_);refine step_copy_splice rfl (.tmp 70) (.tmp 73) 99 99 rfl 5 Tryz.underlying99 Tryz.FM _ _ _ _ _ _ rfl rfl w.heap.size k cur 5 HC5.out (a0g r (a0d .u8 (c.toNat:Int))) HN.out (λ_=>⟨rfl,_,rfl,HP5.out⟩) HT.out HO.out w.heap.size w og.out (a0H _) ?_;intro w6 HG6 hb6;refine hK.out _ _ trivial (λh2=>?_);clear hK K hH;have hH:=h2;clear h2
    try simp only[ax]
    have hlr:(a0g r (a0d .u8 (c.toNat:Int))).length=r:=a0s;rw[hlr];have hr2:=HR.out;have ib:((k:Nat):Int)+((r:Nat):Int)<=1000000000000:=by omega
    clear hlr hr2;refine aQ 8 hH ?_;try simp only[ax]
    refine aQ 9 hH ?_;try simp only[ax]
    refine wpAnyH_done (by kernel_rfl) ?_ _
    clear hH;have hr3:=HR.out;have HF6:Hid (BG w6 w.heap.size n (k+r) c):=⟨_,HG6.out,Dl.out,HE2.out⟩;have xD:=hid hb6;clear hr3 hb6;have hwr:IntKind.i64.wrap (((k:Nat):Int)+((r:Nat):Int))=((k+r:Nat):Int):=by rw[IntKind.wrap_i64];omega
    rw[hwr];clear hwr;go_wp2_with fail;go_roundg (n-(k+r))
    case measure=>have:=HR.out;have:=HK.out;omega
    case rel=>exact⟨k+r,by have:=HR.out;omega,HR.out.2.1,by go_num,rfl,HF6,xD⟩
   ·obtain rfl:k=n:=by omega
    go_wp2_with fail;go_ret;exact⟨_,rfl,a0H _,HF.out,HB.out⟩
end
/- Texts in memory: a block of bytes that reads as a text, a copy of a string into it. -/
section
open Go.RowKit Go.Lib
def nH (w:World) (g T:Nat) (l:List UInt8):Prop:=
 l.length=T/\∃cur:List Value,w.heap[g]? =some (.cells cur.toArray 5 (0,0))/\ cur.take T=byteCells l
theorem nH.U3 {w:World} {g n:Nat} {c:UInt8} (h:BG w g n n c):nH w g n (a0g n c):=by
 obtain⟨cur,hc,hl,he⟩:=h;refine⟨a0s,cur,hc,?_⟩;apply List.ext_getElem?;intro j;by_cases hj:j<n
 ·rw[a0q hj,he j hj];simp[byteCells,hj]
 ·rw[a0v (by rw[a0n];omega),a0v (by simp[byteCells];omega)]
theorem nH.row {w:World} {g T:Nat} {l:List UInt8} (h:nH w g T l):∃cur:List Value,w.heap[g]? =some (.cells cur.toArray 5 (0,0))/\ T<=cur.length:=by
 obtain⟨hl,cur,hc,ht⟩:=h;refine⟨cur,hc,?_⟩;have:=congrArg List.length ht;rw[byteCells_length,hl,a0n]at this;omega
theorem nH.cell {w:World} {g T:Nat} {l:List UInt8} (h:nH w g T l) (j:Nat) (hj:j<l.length):w.cell? ⟨g,j,none⟩=some (.int .u8 (l[j].toNat:Int)):=by
 obtain⟨hl,cur,hc,ht⟩:=h;rw[Lib.cell_of_heap hc,a0u,<-a0q (show j<T by omega),ht];simp[byteCells,hj]
theorem take3 (A S D:List Value) (T:Nat) (h:A.length+S.length<=T):(A++(S++D)).take T=A++(S++D.take (T-A.length-S.length)):=by
 rw[a0w,a0w,a0x (show A.length<=T by omega),a0x (show S.length<=T-A.length by omega)]
theorem qR {w:World} {ops:Array Oper} {rest:List Oper} {o:Oper} {a:Act} {Q:Exit->Act->World->Prop} (hgd:o.guard=none) (d s:Operand) (dT sT:TypeId)
  (ho:o.op= .call { callee:= .builtin .copy,args:= #[d,s],argTypes:= #[dT,sT] }) (hu:Tryz.prog.underlying dT=some (.slice 5))
  (g off dLen dCap:Nat) (hd:a.eval d=a0e (some ⟨g,off,none⟩) dLen dCap) (str:List UInt8) (hs:a.eval s= .string ⟨str.toArray⟩)
  (T:Nat) (l:List UInt8) (hT:nH w g T l) (hle:str.length<=dLen) (hfit:off+str.length<=T) (B:Nat) (w0:World) (hb:Below B w0 w) (hBg:B<=g)
  (h:∀w',Hid (nH w' g T (l.take off++(str++l.drop (off+str.length))))->Below B w0 w'->wpList Tryz.prog ops Q rest (a.put o.dst (goInt str.length)) w'):
  wpList Tryz.prog ops Q (o::rest) a w:=by
 have hT0:=hT;obtain⟨hl,cur,hc,ht⟩:=hT;obtain⟨cur',hc',hcl⟩:=hT0.row
 have e:cur'=cur:=by
  rw[hc]at hc';simpa using hc'.symm
 subst e;have hsz:(⟨str.toArray⟩:ByteArray).size=str.length:=by rw[Lib.size_eq]
 have hr:=run_copy_row_string (P:=Tryz.prog) w dT sT o.type 5 g off dLen dCap ⟨str.toArray⟩ cur'.toArray 5 hu Tryz.FM hc (by rw[hsz];exact hle) (by rw[hsz];simp;omega);rw[hsz]at hr;refine wpList_plain hgd λK hK=>?_
 unfold Oper.wp;simp[execOp,ho,resolve,invoke,builtin,hd,hs,hr,Result.andThen];refine hK _ _ (h _ ?_ (below_setRow hb hBg _));have hT1:T<=cur'.length:=hcl;refine⟨?_,_,setRow_heap w g _ _ 5 _ hc,?_⟩
 ·rw[a0y,a0y,a0n,List.length_drop];omega
 ·have e1:a0z off cur'=byteCells (l.take off):=by
   unfold byteCells at ht ⊢;rw[List.map_take,<-ht,List.take_take,a0T (by omega)]
  have e2:a0z (T-off-str.length) (a0A (off+str.length) cur')=byteCells (l.drop (off+str.length)):=by
   unfold byteCells at ht ⊢;rw[List.map_drop,<-ht,List.drop_take]
   congr 1
   omega
  have e3:(a0z off cur').length=off:=by rw[a0n];omega
  have e4:(byteCells str).length=str.length:=byteCells_length _;have e5:=take3 (a0z off cur') (byteCells str) (a0A (off+str.length) cur') T (by omega);rw[e3,e4]at e5;rw[byteCells_append,byteCells_append,<-e1,<-e2];exact e5
end
/- Plain facts: a text while its pieces are laid in. -/
section
open Go.Lib
def AA (m:Bool) (N L:Nat):List UInt8:=(if m&&decide (0<piece N L)then[45]else[])++decDigits (piece N L)
def cont (A:List UInt8) (N L k:Nat):List UInt8:=A++(a0g (9*(L-k)) 48++kK (9*k) N)
theorem NG (A:List UInt8) (N L:Nat):A++a0A (A.length) (a0g (A.length+L*9) 48)=cont A N L 0:=by
 unfold cont;rw[List.drop_replicate,a0M,kK,List.append_nil,Nat.sub_zero,Nat.add_sub_cancel_left,a0G]
theorem wI (N k:Nat):1<=(decDigits (piece N k)).length/\ (decDigits (piece N k)).length<=9:=by
 rw[decDigits_length];exact⟨nDigits_pos _,qE 8 _ (by have:=rW N k;simpa using this)⟩
theorem NH (A:List UInt8) (N L k o:Nat) (h:k<L) (ho:o+(decDigits (piece N k)).length+9*k=A.length+L*9):
  (cont A N L k).take o++(decDigits (piece N k)++(cont A N L k).drop (o+(decDigits (piece N k)).length))=cont A N L (k+1):=by
 have hd:=wI N k;have hp:=SS 9 (piece N k) (by rw[<-decDigits_length];exact hd.2);rw[<-decDigits_length]at hp;obtain⟨ds,hds⟩:∃ds,ds=decDigits (piece N k):=⟨_,rfl⟩;rw[<-hds]at ho hd hp ⊢
 have e1:kK (9*(k+1)) N=kK 9 (piece N k)++kK (9*k) N:=by
  rw[show 9*(k+1)=9+9*k by omega,SN,<-SQ 9,U8];rfl
 obtain⟨r,hr⟩:∃r,9*(L-k)=r+ds.length:=⟨9*(L-k)-ds.length,by omega⟩
 have e2:cont A N L k=(A++a0g r 48)++(a0g ds.length 48++kK (9*k) N):=by
  unfold cont;rw[hr,<-a0B];simp only[a0f]
 have e3:(A++a0g r (48:UInt8)).length=o:=by simp;omega
 have e4:a0z o (cont A N L k)=A++a0g r 48:=by rw[e2,<-e3,List.take_left]
 have e5:a0A (o+ds.length) (cont A N L k)=kK (9*k) N:=by
  rw[e2,<-List.drop_drop,<-e3,a0C]
  conv=>lhs;arg 1;rw[<-a0s (n:=ds.length) (a:=(48:UInt8))]
  rw[a0C]
 rw[e4,e5];unfold cont;obtain⟨r',hr'⟩:∃r',r=r'+(9-ds.length):=⟨r-(9-ds.length),by omega⟩;rw[e1,hp,show 9*(L-(k+1))=r' by omega,hr',<-a0B];simp only[a0f]
theorem NI {m:Bool} {N L:Nat} (h1:N/10^(9*(L+1))=0) (h2:1<L+1->0<N/10^(9*(L+1-1))):cont (AA m N L) N L L=itoa (dK m N):=by
 have hp:piece N L=N/10^(9*L):=by
  unfold piece;rw[<-tO]at h1;refine a0J ?_;rcases a0Y (N/10^(9*L)) 1000000000 with h|h
  ·exact h
  ·have:=Nat.div_pos h (by omega);omega
 have h0:0<N/10^(9*L)↔0<N:=by
  rcases a0V L with h|h
  ·subst h;simp
  ·have h3:=h2 (by omega);rw[a0Z]at h3;exact⟨λ_=>a0W h3 (Nat.div_le_self _ _),λ_=>h3⟩
 have ht:decDigits (N/10^(9*L))++kK (9*L) N=decDigits N:=by
  have h4:=OT N L (by
   rcases a0V L with h|h
   ·exact .inl h
   ·right
    have h3:=h2 (by omega);rw[a0Z]at h3;exact(Nat.div_pos_iff.1 h3).2)
  unfold SV at h4;rw[a0L,a0M]at h4;simpa using h4
 unfold cont AA;rw[a0L,a0M,hp,a0f];show _++(_++kK (9*L) N)=_;rw[ht];have h5:decide (0<N/10^(9*L))=decide (0<N):=by rw[decide_eq_decide];exact h0
 rw[h5,<-tX];by_cases hz:dK m N<0
 ·rw[D5 hz,gW,decide_eq_true hz];rfl
 ·rw[pE (by omega),gW,decide_eq_false hz];rfl
end
end Go.Proofs.YtmenbpmciblnlaaGreatDoor

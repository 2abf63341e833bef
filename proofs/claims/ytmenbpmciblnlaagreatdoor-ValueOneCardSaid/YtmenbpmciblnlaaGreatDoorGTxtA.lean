/- TxtPlain, TxtNum, TxtShelf, TxtLib, TxtRep, TxtBytes, TxtMem, TxtCont -/
import Derived.Lib.ItoaNum
import Derived.Lib.ParseIntB
import Derived.Lib.Strings
import Derived.Test.YtmenbpmciblnlaaGreatDoorGWInt
import Derived.Laws.Concat
import Derived.Shelf.Small.Wraps
import Derived.Shelf.Pu.ParseUintPublic10
import Derived.Shelf.Strconv.Itoa2
import Derived.Shelf.Strconv.Itoa1
import Derived.Shelf.LaysM
import Derived.Lib.AppendIntMem
import Derived.Lib.ItoaMem
import Derived.Shelf.Strings.Repeat
import Derived.Lib.MakeNoZero
import Derived.Deep.Cut
import Derived.Deep.DeepCutAuto
import Derived.Deep.LoopGhost
import Derived.Deep.RegionLaw
import Derived.Lib.BufferWrite
set_option maxHeartbeats 40000000
set_option maxRecDepth 100000
/- Plain facts on decimal texts: the digits of a number, pieces of nine of them, what a text stands for. -/
namespace Go.Proofs.YtmenbpmciblnlaaGreatDoor
open Go.Lib
def jT:Nat->Nat->List UInt8
 |0,_=>[]
 |k+1,v=>jT k (v/10)++[UInt8.ofNat (48+v%10)]
theorem OE (a:Nat) (b:Nat):∀v,jT (a+b) v=jT a (v/10^b)++jT b v:=by
 induction b with
 |zero=>intro v;simp[jT]
 |succ b ih=>
  intro v;rw[<-Nat.add_assoc,jT,ih,jT,<-List.append_assoc,Nat.div_div_eq_div_mul,Nat.pow_succ,Nat.mul_comm 10]
theorem OG (k:Nat):∀v,jT k (v%10^k)=jT k v:=by
 induction k with
 |zero=>intro v;rfl
 |succ k ih=>
  intro v;rw[jT,jT,Nat.pow_succ,Nat.mod_mul_left_div_self,ih,Nat.mod_mul_left_mod]
theorem Lc (k:Nat):jT k 0=List.replicate k 48:=by
 induction k with
 |zero=>rfl
 |succ k ih=>rw[jT,Nat.zero_div,ih,List.replicate_succ'];rfl
theorem oZ (k:Nat):∀v,v<10^(k+1)->nDigits v<=k+1:=by
 induction k with
 |zero=>intro v h;rw[nDigits_small (by omega)];exact Nat.le_refl _
 |succ k ih=>
  intro v h;by_cases h1:v<10
  ·rw[nDigits_small h1];omega
  ·rw[nDigits_big h1];have h2:=ih (v/10) (by rw[Nat.pow_succ]at h;omega);omega
theorem OH (k:Nat):∀v,nDigits v<=k->jT k v=List.replicate (k-nDigits v) 48++decDigits v:=by
 induction k with
 |zero=>intro v h;have:=nDigits_pos v;omega
 |succ k ih=>
  intro v h;rw[jT];by_cases h1:v<10
  ·rw[nDigits_small h1,decDigits_one h1,Nat.div_eq_of_lt h1,Lc,Nat.mod_eq_of_lt h1];rfl
  ·rw[nDigits_big h1]at h ⊢;rw[ih _ (by omega),decDigits.eq_def v,dif_neg h1,List.append_assoc,Nat.add_sub_add_right]
theorem xE (b:Nat):∀n,10^b<=n->decDigits n=decDigits (n/10^b)++jT b n:=by
 induction b with
 |zero=>intro n _;simp[jT]
 |succ b ih=>
  intro n h;have hp:0<10^b:=Nat.pow_pos (by omega);rw[Nat.pow_succ]at h;have h1:¬n<10:=by omega
  rw[decDigits.eq_def n,dif_neg h1,ih (n/10) (by omega),jT,List.append_assoc,Nat.div_div_eq_div_mul,Nat.pow_succ,Nat.mul_comm 10]
def piece (n j:Nat):Nat:=n/10^(9*j)%1000000000
theorem qj (n j:Nat):piece n j<1000000000:=Nat.mod_lt _ (by omega)
def Mg (n K:Nat):List Nat:=(List.range K).map (piece n)
theorem GL (n K:Nat):(Mg n K).length=K:=by simp[Mg]
theorem Ni (n K:Nat):Mg n (K+1)=Mg n K++[piece n K]:=by simp[Mg,List.range_succ]
theorem Ep (n K j:Nat) (h:j<K):(Mg n K).getD j 0=piece n j:=by simp[Mg,List.getD,h]
theorem Ux (n K:Nat):∀x∈Mg n K,x<4294967296:=by
 intro x hx;obtain⟨j,_,rfl⟩:=List.mem_map.1 hx;have:=qj n j;omega
theorem QX:(10:Nat)^9=1000000000:=by decide
theorem q9 (n k:Nat):n/10^(9*k)/1000000000=n/10^(9*(k+1)):=by
 rw[Nat.div_div_eq_div_mul,<-QX,<-Nat.pow_add]
 congr 2
def OI (n L k:Nat):List UInt8:=decDigits (n/10^(9*L))++(List.replicate (9*(L-k)) 48++jT (9*k) n)
theorem Ld (n L:Nat) (h:L=0∨10^(9*L)<=n):OI n L L=decDigits n:=by
 unfold OI;rw[Nat.sub_self,Nat.mul_zero];rcases h with rfl|h
 ·simp[jT]
 ·rw[xE (9*L) n h];rfl
def aP (l:List UInt8):Nat:=l.foldl (fun a c=>a*10+(c.toNat-48)) 0
def eB (c:UInt8):Bool:=decide (48<=c.toNat)&&decide (c.toNat<=57)
def dw (l:List UInt8):Bool:=l.all eB
theorem fO {c:UInt8}:eB c=true↔48<=c.toNat/\ c.toNat<=57:=by simp[eB]
theorem eO {c:UInt8} {l:List UInt8}:dw (c::l)=(eB c&&dw l):=by simp[dw]
theorem ni {a b:List UInt8}:dw (a++b)=(dw a&&dw b):=by simp[dw]
theorem lJ {l:List UInt8} (h:dw l=true):∀c∈l,eB c=true:=List.all_eq_true.1 h
theorem iU {l:List UInt8} (h:dw l=true) (k:Nat):dw (l.take k)=true:=List.all_eq_true.2 fun c hc=>lJ h c (List.mem_of_mem_take hc)
theorem pX {l:List UInt8} (h:dw l=true) (k:Nat):dw (l.drop k)=true:=List.all_eq_true.2 fun c hc=>lJ h c (List.mem_of_mem_drop hc)
theorem Lf (l:List UInt8):∀a,l.foldl (fun a c=>a*10+(c.toNat-48)) a=a*10^l.length+aP l:=by
 unfold aP;induction l with
 |nil=>intro a;simp
 |cons c l ih=>
  intro a;rw[List.foldl_cons,List.foldl_cons,ih,ih (0*10+_),List.length_cons,Nat.pow_succ,Nat.zero_mul,Nat.zero_add,Nat.add_mul,Nat.mul_assoc,Nat.mul_comm 10,Nat.add_assoc]
theorem Hw:aP []=0:=rfl
theorem kC (a b:List UInt8):aP (a++b)=aP a*10^b.length+aP b:=by
 rw[aP.eq_def (a++b),List.foldl_append,Lf b];rfl
theorem mq (c:UInt8):aP [c]=c.toNat-48:=by simp[aP]
theorem wU (a:List UInt8) (c:UInt8):aP (a++[c])=aP a*10+(c.toNat-48):=by
 rw[kC,mq];rfl
theorem iY (c:UInt8) (l:List UInt8):aP (c::l)=(c.toNat-48)*10^l.length+aP l:=by
 rw[<-mq,<-kC];rfl
theorem q8 {l:List UInt8} (h:dw l=true):aP l<10^l.length:=by
 induction l with
 |nil=>simp[aP]
 |cons c l ih=>
  rw[eO,Bool.and_eq_true]at h;have h1:=fO.1 h.1;have h2:=ih h.2;have h3:(c.toNat-48)*10^l.length<=9*10^l.length:=Nat.mul_le_mul_right _ (by omega);rw[iY,List.length_cons,Nat.pow_succ];omega
theorem ofNat_toNat {d:Nat} (h:d<10):(UInt8.ofNat (48+d)).toNat=48+d:=by
 rw[UInt8.toNat_ofNat'];exact Nat.mod_eq_of_lt (by omega)
theorem EY {d:Nat} (h:d<10):eB (UInt8.ofNat (48+d))=true:=by
 rw[fO,ofNat_toNat h];omega
theorem EZ {c:UInt8} (h:eB c=true):UInt8.ofNat (48+(c.toNat-48))=c:=by
 have h1:=fO.1 h;rw[show 48+(c.toNat-48)=c.toNat by omega];simp
theorem qV (n:Nat):dw (decDigits n)=true:=by
 induction n using Nat.strongRecOn with
 | _ n ih=>
  by_cases h:n<10
  ·rw[decDigits_one h,eO,EY h];rfl
  ·rw[decDigits.eq_def n,dif_neg h,ni,ih (n/10) (by omega),eO,EY (by omega)];rfl
theorem Jf (n:Nat):aP (decDigits n)=n:=by
 induction n using Nat.strongRecOn with
 | _ n ih=>
  by_cases h:n<10
  ·rw[decDigits_one h,mq,ofNat_toNat h];omega
  ·rw[decDigits.eq_def n,dif_neg h,wU,ih (n/10) (by omega),ofNat_toNat (by omega)];omega
theorem Gd (n:Nat):decDigits n≠[]:=by
 intro h;have h1:=decDigits_length n;rw[h]at h1;have:=nDigits_pos n;simp at h1;omega
theorem MS (n:Nat) (h0:0<n):(decDigits n).head? ≠some 48:=by
 induction n using Nat.strongRecOn with
 | _ n ih=>
  by_cases h:n<10
  ·rw[decDigits_one h];intro e;simp only[List.head?_cons,Option.some.injEq]at e;have h1:=ofNat_toNat h;rw[e]at h1;have h2:(48:UInt8).toNat=48:=rfl;omega
  ·rw[decDigits.eq_def n,dif_neg h];have h1:=ih (n/10) (by omega) (by omega);cases hd:decDigits (n/10)with
   |nil=>exact absurd hd (Gd _)
   |cons c r=>rw[hd]at h1;simpa using h1
theorem sj (k:Nat):∀l:List UInt8,l.length=k+1->dw l=true->(l.head? ≠some 48∨l.length=1)->decDigits (aP l)=l:=by
 induction k with
 |zero=>
  intro l hl ha _
  match l,hl with
  |[c],_=>
   rw[eO,Bool.and_eq_true]at ha;have h1:=fO.1 ha.1;rw[mq,decDigits_one (by omega),EZ ha.1]
 |succ k ih=>
  intro l hl ha hh;obtain⟨r,c,rfl⟩:∃r c,l=r++[c]:=⟨l.dropLast,l.getLast (by intro e;rw[e]at hl;simp at hl),(List.dropLast_concat_getLast _).symm⟩;have hr:r.length=k+1:=by simpa using hl
  rw[ni,Bool.and_eq_true]at ha;have hc:eB c=true:=by have:=ha.2;rw[eO,Bool.and_eq_true]at this;exact this.1
  have h1:=fO.1 hc
  match r,hr with
  |d::r,hr=>
   have hd:(d::r).head? ≠some 48:=by
    rcases hh with hh|hh
    ·simpa using hh
    ·simp at hh
   have h2:=ih (d::r) hr ha.1 (.inl hd)
   have h3:0<aP (d::r):=by
    rw[iY];have h4:eB d=true:=by have:=ha.1;rw[eO,Bool.and_eq_true]at this;exact this.1
    have h5:=fO.1 h4;have h6:d.toNat≠48:=fun e=>hd (by rw[List.head?_cons];congr 1;exact UInt8.toNat_inj.1 e)
    have:0<(d.toNat-48)*10^r.length:=Nat.mul_pos (by omega) (Nat.pow_pos (by omega));omega
   rw[wU,decDigits.eq_def,dif_neg (by omega),show(aP (d::r)*10+(c.toNat-48))/10=aP (d::r)by omega,h2,show(aP (d::r)*10+(c.toNat-48))%10=c.toNat-48 by omega,EZ hc]
theorem Lg (M:Nat):∀(l:List UInt8) (acc:Nat),dw l=true->acc*10^l.length+aP l<=M->acc<10^9->(∀k,k<=l.length->acc*10^k+aP (l.take k)<10^10)->parseUintM M acc l= .ok (acc*10^l.length+aP l):=by
 intro l;induction l with
 |nil=>intro acc _ _ _ _;simp[parseUintM,aP]
 |cons c l ih=>
  intro acc ha hM hlt hk;rw[eO,Bool.and_eq_true]at ha;have h1:=fO.1 ha.1;have hk1:=hk 1 (by simp);simp only[List.take_succ_cons,List.take_zero,mq,Nat.pow_one]at hk1;have hp:1<=10^l.length:=Nat.one_le_pow _ _ (by omega)
  have e:acc*10^(c::l).length+aP (c::l)=(acc*10+(c.toNat-48))*10^l.length+aP l:=by
   rw[iY,List.length_cons,Nat.pow_succ,Nat.add_mul,Nat.mul_assoc,Nat.mul_comm 10,Nat.add_assoc]
  rw[e]at hM ⊢;have h2:acc*10+(c.toNat-48)<=(acc*10+(c.toNat-48))*10^l.length:=Nat.le_mul_of_pos_right _ hp;unfold parseUintM;rw[if_pos h1,if_neg (by omega),if_neg (by omega)];by_cases hl:l=[]
  ·subst hl;simp[parseUintM,aP]
  ·refine ih _ ha.2 hM ?_ (fun k hk'=>?_)
   ·have h3:=hk 2 (by have:=List.length_pos_iff.2 hl;simp;omega);have h4:acc*10^2=acc*100:=rfl
    have h5:aP ((c::l).take 2)≥(c.toNat-48)*10:=by
     cases l with
     |nil=>exact absurd rfl hl
     |cons d l=>simp only[List.take_succ_cons,List.take_zero];rw[iY];simp
    omega
   ·have h3:=hk (k+1) (by simp;omega);rw[List.take_succ_cons,iY,List.length_take,Nat.min_eq_left hk',Nat.pow_succ]at h3;rw[Nat.add_mul,Nat.mul_assoc,Nat.mul_comm 10,Nat.add_assoc];exact h3
theorem Lh {l:List UInt8} (ha:dw l=true) (hl:l≠[]) (h9:l.length<=9):parseUintB 32 l= .ok (aP l):=by
 have hv:=q8 ha;have hp:10^l.length<=10^9:=Nat.pow_le_pow_right (by omega) h9;rw[QX]at hp;unfold parseUintB;rw[if_neg hl]
 have h:=Lg (2^32-1) l 0 ha (by rw[Nat.zero_mul,Nat.zero_add];omega) (by omega) (fun k hk=>by
  have h1:=q8 (iU ha k);have h2:10^(l.take k).length<=10^9:=Nat.pow_le_pow_right (by omega) (by rw[List.length_take];omega);rw[Nat.zero_mul,Nat.zero_add];omega)
 rw[Nat.zero_mul,Nat.zero_add]at h;exact h
def fq (l:List UInt8):List UInt8:=trimPrefix l [45]
def GJ (l:List UInt8):Bool:=decide (fq l≠[])&&dw (fq l)&&(decide ((fq l).head? ≠some 48)||decide (l=[48]))
theorem qi {l:List UInt8}:GJ l=true↔fq l≠[]/\ dw (fq l)=true/\ ((fq l).head? ≠some 48∨l=[48]):=by
 simp only[GJ,Bool.and_eq_true,Bool.or_eq_true,decide_eq_true_iff,and_assoc]
theorem GU (l:List UInt8):hasPrefix (45::l) [45]=true/\ fq (45::l)=l:=by
 simp[fq,trimPrefix,hasPrefix,List.isPrefixOf]
theorem Es (l:List UInt8):(∃r,l=45::r)∨(hasPrefix l [45]=false/\ fq l=l):=by
 cases l with
 |nil=>exact .inr ⟨rfl,rfl⟩
 |cons c r=>
  by_cases h:c=45
  ·exact .inl ⟨r,by rw[h]⟩
  ·have h1:hasPrefix (c::r) [45]=false:=by
    simp only[hasPrefix,List.isPrefixOf,Bool.and_true];rw[beq_eq_false_iff_ne];exact fun e=>h e.symm
   exact .inr ⟨h1,by unfold fq trimPrefix;rw[h1];rfl⟩
end Go.Proofs.YtmenbpmciblnlaaGreatDoor
/- Plain facts on the texts of whole numbers: of which number a text is, and back. -/
namespace Go.Proofs.YtmenbpmciblnlaaGreatDoor
open Go.Lib
def GK (l:List UInt8):Int:=dM (hasPrefix l [45]) (aP (fq l))
theorem BB {z:Int} (h:z<0):itoa z=45::decDigits z.natAbs:=by unfold itoa;rw[if_pos h]
theorem nN {z:Int} (h:0<=z):itoa z=decDigits z.natAbs:=by
 unfold itoa;rw[if_neg (by omega),show z.toNat=z.natAbs by omega]
theorem E8 {l:List UInt8} (h:GJ l=true):decDigits (aP (fq l))=fq l:=by
 obtain⟨h1,h2,h3⟩:=qi.1 h;refine sj ((fq l).length-1) _ (by have:=List.length_pos_iff.2 h1;omega) h2 ?_;rcases h3 with h3|h3
 ·exact .inl h3
 ·subst h3;exact .inr rfl
theorem OJ {l:List UInt8} (h:GJ l=true) (hm:hasPrefix l [45]=true):0<aP (fq l):=by
 have h0:=E8 h;obtain⟨h1,h2,h3⟩:=qi.1 h;rcases Nat.eq_zero_or_pos (aP (fq l))with h4|h4
 ·rw[h4,decDigits_one (by omega)]at h0;rcases h3 with h3|h3
  ·rw[<-h0]at h3;exact absurd rfl h3
  ·subst h3;exact absurd hm (by decide)
 ·exact h4
theorem Ko {l:List UInt8} (h:GJ l=true):hasPrefix l [45]=decide (GK l<0):=by
 unfold GK;rw[rO];cases hm:hasPrefix l [45]with
 |false=>rfl
 |true=>have:=OJ h hm;simp[this]
theorem Np (l:List UInt8):(GK l).natAbs=aP (fq l):=gM _ _
theorem Li {z:Int} {k:Nat} (h:Bd z k):nDigits z.natAbs<=10*k+1:=by
 refine oZ (10*k) _ ?_;unfold Bd at h;refine Nat.lt_of_lt_of_le h ?_;rw[Nat.pow_succ,Nat.pow_mul];exact Nat.le_trans (Nat.pow_le_pow_left (show 4294967296<=10^10 by decide) k) (Nat.le_mul_of_pos_right _ (by omega))
theorem M4 {z:Int} {k:Nat} (h:Bd z k):(itoa z).length<=10*k+2:=by
 have h1:=Li h;by_cases hz:z<0
 ·rw[BB hz,List.length_cons,decDigits_length];omega
 ·rw[nN (by omega),decDigits_length];omega
theorem kQ {P:Program} (W:World) (x y:List UInt8) (h:x.length+y.length<=9223372036854775807):(Op.stringOp .add ⟨x.toArray⟩ ⟨y.toArray⟩).run P W= .ok (.string ⟨(x++y).toArray⟩) W:=by
 rw[run_string_add_sum W _ _ (by simpa[ByteArray.size]using h),ByteArray.mk_append_mk]
end Go.Proofs.YtmenbpmciblnlaaGreatDoor
/- What the shelf's contracts of strings.CutPrefix, strconv.ParseUint and of internal/strconv's digits ask of this program. -/
namespace Go.Proofs.YtmenbpmciblnlaaGreatDoor
open Go.Shelf
def Tryz.E9:Go.Shelf.Ren:=⟨fun|103=>164|206=>203|210=>202|n=>n,fun|3=>3|4=>4|9=>9|24=>211|n=>n,fun n=>n⟩
theorem Tryz.RH:Go.Proofs.Lays.n103 Tryz.prog Tryz.E9:={
 mixed:=by kernel_rfl
 f103:=Tryz.func164.trans (congrArg some (by kernel_rfl))
 f206:=Tryz.func203.trans (congrArg some (by kernel_rfl))
 f210:=Tryz.func202.trans (congrArg some (by kernel_rfl))
 t3:=Tryz.underlying3
 a3:=Tryz.isAgg3
 z3:=Tryz.sizeOf3
 v3:=Tryz.zeroValue3
 t4:=Tryz.underlying4
 a4:=Tryz.isAgg4
 z4:=Tryz.sizeOf4
 v4:=Tryz.zeroValue4
 t9:=Tryz.underlying9
 a9:=Tryz.isAgg9
 z9:=Tryz.sizeOf9
 v9:=Tryz.zeroValue9
 t24:=Tryz.underlying211
 a24:=Tryz.isAgg211
 z24:=Tryz.sizeOf211
 v24:=Tryz.zeroValue211 }
def Tryz.CX:Go.Shelf.Ren:=⟨fun|14=>249|16=>266|17=>252|19=>280|20=>281|21=>268|22=>269|23=>270|24=>271|25=>282|26=>283|27=>163|28=>201|29=>225|30=>242|31=>243|32=>244|33=>245|34=>259|35=>260|36=>261|37=>262|38=>263|39=>274|40=>275|n=>n,fun|0=>0|2=>2|3=>3|4=>4|5=>5|9=>9|20=>20|21=>21|22=>147|24=>103|25=>287|34=>299|36=>228|37=>99|39=>302|44=>316|47=>157|48=>320|50=>322|52=>278|55=>281|59=>295|60=>192|61=>296|65=>318|66=>319|67=>109|n=>n,fun|0=>5|1=>6|2=>2|3=>7|4=>8|n=>n⟩
theorem Tryz.OL:Go.Proofs.LaysPu.n14 Tryz.prog Tryz.CX:={
 mixed:=by kernel_rfl
 f14:=Tryz.func249.trans (congrArg some (by kernel_rfl))
 f16:=Tryz.func266.trans (congrArg some (by kernel_rfl))
 f17:=Tryz.func252.trans (congrArg some (by kernel_rfl))
 f19:=Tryz.func280.trans (congrArg some (by kernel_rfl))
 f20:=Tryz.func281.trans (congrArg some (by kernel_rfl))
 f21:=Tryz.func268.trans (congrArg some (by kernel_rfl))
 f22:=Tryz.func269.trans (congrArg some (by kernel_rfl))
 f23:=Tryz.func270.trans (congrArg some (by kernel_rfl))
 f24:=Tryz.func271.trans (congrArg some (by kernel_rfl))
 f25:=Tryz.func282.trans (congrArg some (by kernel_rfl))
 f26:=Tryz.func283.trans (congrArg some (by kernel_rfl))
 f27:=Tryz.func163.trans (congrArg some (by kernel_rfl))
 f28:=Tryz.func201.trans (congrArg some (by kernel_rfl))
 f29:=Tryz.func225.trans (congrArg some (by kernel_rfl))
 f30:=Tryz.func242.trans (congrArg some (by kernel_rfl))
 f31:=Tryz.func243.trans (congrArg some (by kernel_rfl))
 f32:=Tryz.func244.trans (congrArg some (by kernel_rfl))
 f33:=Tryz.func245.trans (congrArg some (by kernel_rfl))
 f34:=Tryz.func259.trans (congrArg some (by kernel_rfl))
 f35:=Tryz.func260.trans (congrArg some (by kernel_rfl))
 f36:=Tryz.func261.trans (congrArg some (by kernel_rfl))
 f37:=Tryz.func262.trans (congrArg some (by kernel_rfl))
 f38:=Tryz.func263.trans (congrArg some (by kernel_rfl))
 f39:=Tryz.func274.trans (congrArg some (by kernel_rfl))
 f40:=Tryz.func275.trans (congrArg some (by kernel_rfl))
 t0:=Tryz.underlying0
 a0:=Tryz.isAgg0
 z0:=Tryz.sizeOf0
 v0:=Tryz.zeroValue0
 i0:=by kernel_rfl
 t2:=Tryz.underlying2
 a2:=Tryz.isAgg2
 z2:=Tryz.sizeOf2
 v2:=Tryz.zeroValue2
 i2:=by kernel_rfl
 t3:=Tryz.underlying3
 a3:=Tryz.isAgg3
 z3:=Tryz.sizeOf3
 v3:=Tryz.zeroValue3
 i3:=by kernel_rfl
 t4:=Tryz.underlying4
 a4:=Tryz.isAgg4
 z4:=Tryz.sizeOf4
 v4:=Tryz.zeroValue4
 i4:=by kernel_rfl
 t5:=Tryz.underlying5
 a5:=Tryz.isAgg5
 z5:=Tryz.sizeOf5
 v5:=Tryz.zeroValue5
 i5:=by kernel_rfl
 t9:=Tryz.underlying9
 a9:=Tryz.isAgg9
 z9:=Tryz.sizeOf9
 v9:=Tryz.zeroValue9
 i9:=by kernel_rfl
 t20:=Tryz.underlying20
 a20:=Tryz.isAgg20
 z20:=Tryz.sizeOf20
 v20:=Tryz.zeroValue20
 i20:=by kernel_rfl
 t21:=Tryz.underlying21
 a21:=Tryz.isAgg21
 z21:=Tryz.sizeOf21
 v21:=Tryz.zeroValue21
 i21:=by kernel_rfl
 t22:=Tryz.underlying147
 a22:=Tryz.isAgg147
 z22:=Tryz.sizeOf147
 v22:=Tryz.zeroValue147
 i22:=by kernel_rfl
 t24:=Tryz.underlying103
 a24:=Tryz.isAgg103
 z24:=Tryz.sizeOf103
 v24:=Tryz.zeroValue103
 i24:=by kernel_rfl
 t25:=Tryz.underlying287
 a25:=Tryz.isAgg287
 z25:=Tryz.sizeOf287
 v25:=Tryz.zeroValue287
 i25:=by kernel_rfl
 t34:=Tryz.underlying299
 a34:=Tryz.isAgg299
 z34:=Tryz.sizeOf299
 v34:=Tryz.zeroValue299
 i34:=by kernel_rfl
 c34:=by kernel_rfl
 t36:=Tryz.underlying228
 a36:=Tryz.isAgg228
 z36:=Tryz.sizeOf228
 v36:=Tryz.zeroValue228
 i36:=by kernel_rfl
 t37:=Tryz.underlying99
 a37:=Tryz.isAgg99
 z37:=Tryz.sizeOf99
 v37:=Tryz.zeroValue99
 i37:=by kernel_rfl
 t39:=Tryz.underlying302
 a39:=Tryz.isAgg302
 z39:=Tryz.sizeOf302
 v39:=Tryz.zeroValue302
 i39:=by kernel_rfl
 t44:=Tryz.underlying316
 a44:=Tryz.isAgg316
 z44:=Tryz.sizeOf316
 v44:=Tryz.zeroValue316
 i44:=by kernel_rfl
 t47:=Tryz.underlying157
 a47:=Tryz.isAgg157
 z47:=Tryz.sizeOf157
 v47:=Tryz.zeroValue157
 i47:=by kernel_rfl
 t48:=Tryz.underlying320
 a48:=Tryz.isAgg320
 z48:=Tryz.sizeOf320
 v48:=Tryz.zeroValue320
 i48:=by kernel_rfl
 t50:=Tryz.underlying322
 a50:=Tryz.isAgg322
 z50:=Tryz.sizeOf322
 v50:=Tryz.zeroValue322
 i50:=by kernel_rfl
 t52:=Tryz.underlying278
 a52:=Tryz.isAgg278
 z52:=Tryz.sizeOf278
 v52:=Tryz.zeroValue278
 i52:=by kernel_rfl
 t55:=Tryz.underlying281
 a55:=Tryz.isAgg281
 z55:=Tryz.sizeOf281
 v55:=Tryz.zeroValue281
 i55:=by kernel_rfl
 t59:=Tryz.underlying295
 a59:=Tryz.isAgg295
 z59:=Tryz.sizeOf295
 v59:=Tryz.zeroValue295
 i59:=by kernel_rfl
 t60:=Tryz.underlying192
 a60:=Tryz.isAgg192
 z60:=Tryz.sizeOf192
 v60:=Tryz.zeroValue192
 i60:=by kernel_rfl
 t61:=Tryz.underlying296
 a61:=Tryz.isAgg296
 z61:=Tryz.sizeOf296
 t65:=Tryz.underlying318
 a65:=Tryz.isAgg318
 z65:=Tryz.sizeOf318
 v65:=Tryz.zeroValue318
 i65:=by kernel_rfl
 t66:=Tryz.underlying319
 a66:=Tryz.isAgg319
 z66:=Tryz.sizeOf319
 v66:=Tryz.zeroValue319
 i66:=by kernel_rfl
 t67:=Tryz.underlying109
 a67:=Tryz.isAgg109
 z67:=Tryz.sizeOf109
 v67:=Tryz.zeroValue109
 i67:=by kernel_rfl
 g0:=by kernel_rfl
 m0:=by kernel_rfl
 g1:=by kernel_rfl
 m1:=by kernel_rfl
 g2:=by kernel_rfl
 m2:=by kernel_rfl
 g3:=by kernel_rfl
 m3:=by kernel_rfl
 g4:=by kernel_rfl
 m4:=by kernel_rfl }
def Tryz.Fa:Go.Shelf.Ren:=⟨fun|283=>242|n=>n,fun|3=>3|4=>4|9=>9|n=>n,fun n=>n⟩
theorem Tryz.RI:Go.Proofs.Lays.n283 Tryz.prog Tryz.Fa:={
 mixed:=by kernel_rfl
 f283:=Tryz.func242.trans (congrArg some (by kernel_rfl))
 t3:=Tryz.underlying3
 a3:=Tryz.isAgg3
 z3:=Tryz.sizeOf3
 v3:=Tryz.zeroValue3
 t4:=Tryz.underlying4
 a4:=Tryz.isAgg4
 z4:=Tryz.sizeOf4
 v4:=Tryz.zeroValue4
 t9:=Tryz.underlying9
 a9:=Tryz.isAgg9
 z9:=Tryz.sizeOf9
 v9:=Tryz.zeroValue9 }
def Tryz.CY:Go.Shelf.Ren:=⟨fun|129=>260|284=>243|317=>259|318=>261|n=>n,fun|0=>0|3=>3|4=>4|5=>5|9=>9|46=>228|53=>147|212=>295|n=>n,fun|17=>2|n=>n⟩
theorem Tryz.OM:Go.Proofs.LaysM.n284 Tryz.prog Tryz.CY:={
 mixed:=by kernel_rfl
 f129:=Tryz.func260.trans (congrArg some (by kernel_rfl))
 f284:=Tryz.func243.trans (congrArg some (by kernel_rfl))
 f317:=Tryz.func259.trans (congrArg some (by kernel_rfl))
 f318:=Tryz.func261.trans (congrArg some (by kernel_rfl))
 t0:=Tryz.underlying0
 a0:=Tryz.isAgg0
 z0:=Tryz.sizeOf0
 v0:=Tryz.zeroValue0
 t3:=Tryz.underlying3
 a3:=Tryz.isAgg3
 z3:=Tryz.sizeOf3
 v3:=Tryz.zeroValue3
 t4:=Tryz.underlying4
 a4:=Tryz.isAgg4
 z4:=Tryz.sizeOf4
 v4:=Tryz.zeroValue4
 t5:=Tryz.underlying5
 a5:=Tryz.isAgg5
 z5:=Tryz.sizeOf5
 v5:=Tryz.zeroValue5
 t9:=Tryz.underlying9
 a9:=Tryz.isAgg9
 z9:=Tryz.sizeOf9
 v9:=Tryz.zeroValue9
 t46:=Tryz.underlying228
 a46:=Tryz.isAgg228
 z46:=Tryz.sizeOf228
 v46:=Tryz.zeroValue228
 t53:=Tryz.underlying147
 a53:=Tryz.isAgg147
 z53:=Tryz.sizeOf147
 v53:=Tryz.zeroValue147
 t212:=Tryz.underlying295
 a212:=Tryz.isAgg295
 z212:=Tryz.sizeOf295
 v212:=Tryz.zeroValue295
 g17:=by kernel_rfl
 i0:=by kernel_rfl
 i3:=by kernel_rfl
 i4:=by kernel_rfl
 i5:=by kernel_rfl
 i9:=by kernel_rfl
 i46:=by kernel_rfl
 i53:=by kernel_rfl
 i212:=by kernel_rfl
 m17:=by kernel_rfl }
def Tryz.Fb:Go.Shelf.Ren:=⟨fun|285=>244|n=>n,fun|0=>0|3=>3|4=>4|5=>5|9=>9|37=>99|51=>192|53=>147|n=>n,fun n=>n⟩
theorem Tryz.RJ:Go.Proofs.Lays.n285 Tryz.prog Tryz.Fb:={
 mixed:=by kernel_rfl
 f285:=Tryz.func244.trans (congrArg some (by kernel_rfl))
 t0:=Tryz.underlying0
 a0:=Tryz.isAgg0
 z0:=Tryz.sizeOf0
 v0:=Tryz.zeroValue0
 t3:=Tryz.underlying3
 a3:=Tryz.isAgg3
 z3:=Tryz.sizeOf3
 v3:=Tryz.zeroValue3
 t4:=Tryz.underlying4
 a4:=Tryz.isAgg4
 z4:=Tryz.sizeOf4
 v4:=Tryz.zeroValue4
 t5:=Tryz.underlying5
 a5:=Tryz.isAgg5
 z5:=Tryz.sizeOf5
 v5:=Tryz.zeroValue5
 t9:=Tryz.underlying9
 a9:=Tryz.isAgg9
 z9:=Tryz.sizeOf9
 v9:=Tryz.zeroValue9
 t37:=Tryz.underlying99
 a37:=Tryz.isAgg99
 z37:=Tryz.sizeOf99
 v37:=Tryz.zeroValue99
 t51:=Tryz.underlying192
 a51:=Tryz.isAgg192
 z51:=Tryz.sizeOf192
 v51:=Tryz.zeroValue192
 t53:=Tryz.underlying147
 a53:=Tryz.isAgg147
 z53:=Tryz.sizeOf147
 v53:=Tryz.zeroValue147 }
end Go.Proofs.YtmenbpmciblnlaaGreatDoor
/- The library's functions that write and read numbers, cut off a sign, repeat a string: contracts at this program. -/
namespace Go.Proofs.YtmenbpmciblnlaaGreatDoor
open Go.RowKit Go.Sort Go.Lib
def yh (w:World):Prop:=Lib.TabIs Tryz.prog w ((Tryz.progGlobals[2]?.map (·.name)).getD default) .u64 Lib.pow10Tab
theorem yh.below {w w':World} (h:yh w) (hb:Below w.heap.size w w'):yh w':=Lib.tabBelow_of_tabIs h w' hb
theorem Lj (i:Nat) (h:i<100) (w:World):
  Calls Tryz.prog 242 #[.int .i64 (i:Int)] w fun e w'=>e= .returned (.string ⟨(decDigits i).toArray⟩)/\ w'=w:=Any.internal_strconv_small Tryz.RI i h w
theorem Az (u:Nat) (h1:1<=u) (h2:u<18446744073709551616) (w:World) (ht:yh w):
  Calls Tryz.prog 243 #[.int .u64 (u:Int)] w fun e w'=>e= .returned (.int .i64 ((nDigits u:Nat):Int))/\ w'=w:=Any.internal_strconv_numDigits Tryz.OM u h1 h2 w ht
theorem Ie (blk off cap u:Nat) (d:Array UInt8) (w:World) (hH:Holds (fun(b:UInt8)=>Value.int .u8 (b.toNat:Int)) w blk off d) (hu:u<10^d.size) (hu64:u<18446744073709551616) (hsz:d.size<4611686018427387904):
  Calls Tryz.prog 244 #[.slice (some ⟨blk,off,none⟩) d.size cap,.int .u64 (u:Int)] w fun e w'=>
   e= .returned (.tuple #[])/\∃(n v':Nat) (dk:Array UInt8),w'=(putRow (fun(b:UInt8)=>Value.int .u8 (b.toNat:Int)) w blk off dk).drewN n/\ FmtInv d.size u 0 v' dk:=Any.internal_strconv_formatBase10 Tryz.RJ blk off cap u d w hH hu hu64 hsz
theorem Ll (u:Nat) (hs:u<100) (w:World):
  Calls Tryz.prog 222 #[.int .u64 (u:Int),.int .i64 10] w (dI (.string ⟨(decDigits u).toArray⟩) w):=by
 have h1:((u:Nat):Int)<100:=by omega
 go_enter Tryz.func222,Tryz.ntmps222;go_wp2_with (go_at_call 242;refine(Lj u hs _).mono ?_;rintro e w' ⟨rfl,rfl⟩);go_ret;exact⟨rfl,Below.refl _ _⟩
theorem RL (u:Nat) (hu:100<=u) (hu64:u<18446744073709551616) (w:World) (htab:yh w):
  Calls Tryz.prog 222 #[.int .u64 (u:Int),.int .i64 10] w (dI (.string ⟨(decDigits u).toArray⟩) w):=by
 have iu:¬((u:Nat):Int)<100:=by omega
 have hu1:1<=u:=by omega
 have hnd20:nDigits u<=20:=by have:=numDigits_eq u hu1 hu64;split at this<;>omega
 have hal:Tryz.prog.arrayLen 278=24:=by simp[Program.arrayLen,Tryz.underlying278]
 have hsl:∀W,(Instr.sliceAt 278 (.pointer (some ⟨w.heap.size,0,none⟩)) none (some (.int .i64 ((nDigits u:Nat):Int))) none).run Tryz.prog W= .ok (.slice (some ⟨w.heap.size,0,none⟩) (nDigits u) 24) W:=fun W=>by
  rw[run_sliceAt_array_h W 278 ⟨w.heap.size,0,none⟩ (by simp[Program.arrayLen,Program.elem,Tryz.underlying278]) .i64 ((nDigits u:Nat):Int) (by omega) (by rw[hal];omega)];go_simp
 have hH0:=holds_zero0 w 278 (nDigits u) (by omega);have hfmt:=Ie w.heap.size 0 24 u (Array.replicate (nDigits u) 0) (w.alloc (.cells zeros24 278)) hH0 (by rw[Array.size_replicate];exact lt_pow_nDigits u) hu64 (by rw[Array.size_replicate];omega);rw[Array.size_replicate]at hfmt;have HH0:=Lib.hid hH0;have HT:=Lib.hid htab;clear hH0 hal htab;go_enter Tryz.func222,Tryz.ntmps222;go_wp2_with (go_at_call 243;refine(Az u hu1 hu64 _ (Lib.tabIs_alloc HT.out _)).mono ?_;rintro e w' ⟨rfl,rfl⟩);refine hfmt.mono ?_;rintro e w' ⟨rfl,k,v',dk,rfl,hF⟩
 have hcv:(convert 99 9 (.slice (some ⟨w.heap.size,0,none⟩) (nDigits u) 24)).run Tryz.prog ((putRow (fun(b:UInt8)=>Value.int .u8 (b.toNat:Int)) (w.alloc (.cells zeros24 278)) w.heap.size 0 dk).drewN k)= .ok (.string ⟨(decDigits u).toArray⟩) ((putRow (fun(b:UInt8)=>Value.int .u8 (b.toNat:Int)) (w.alloc (.cells zeros24 278)) w.heap.size 0 dk).drewN k):=by
  have h:=run_convert_bytes_back (P:=Tryz.prog) ((putRow (fun(b:UInt8)=>Value.int .u8 (b.toNat:Int)) (w.alloc (.cells zeros24 278)) w.heap.size 0 dk).drewN k) 99 9 5 ⟨w.heap.size,0,none⟩ 24 (decDigits u) Tryz.underlying99 Tryz.underlying5 Tryz.underlying9 (fun j hj=>by
   rw[row_is_numeral hF j hj,Lib.add_plain,World.cell?_drewN];exact cell?_putRow (fun(b:UInt8)=>Value.int .u8 (b.toNat:Int)) _ w.heap.size 0 _ dk HH0.out (by rw[hF.size,Array.size_replicate]) j (by rw[hF.size];rw[decDigits_length]at hj;exact hj))
  rw[decDigits_length]at h;exact h
 obtain⟨os,eo⟩:=Lib.fin_at w (.cells zeros24 278) dk k 0;have hnx:Hid (Below w.heap.size w ((putRow (fun(b:UInt8)=>Value.int .u8 (b.toNat:Int)) (w.alloc (.cells zeros24 278)) w.heap.size 0 dk).drewN k)):=by rw[eo];exact Lib.below_grow _ w (Nat.le_refl _) k os
 generalize (putRow (fun(b:UInt8)=>Value.int .u8 (b.toNat:Int)) (w.alloc (.cells zeros24 278)) w.heap.size 0 dk).drewN k=W2 at hcv hnx ⊢;clear eo HH0 hF;go_wp2_with fail;go_ret;exact⟨rfl,hnx.out⟩
theorem U8 (u:Nat) (hu:u<18446744073709551616) (w:World) (ht:yh w):
  Calls Tryz.prog 222 #[.int .u64 (u:Int),.int .i64 10] w (dI (.string ⟨(decDigits u).toArray⟩) w):=by
 rcases Nat.lt_or_ge u 100 with h|h
 ·exact Ll u h w
 ·exact RL u h hu w ht
theorem QR (u:Nat) (hu:u<18446744073709551616) (w:World) (ht:yh w):
  Calls Tryz.prog 199 #[.int .u64 (u:Int),.int .i64 10] w (dI (.string ⟨(decDigits u).toArray⟩) w):=by
 have HT:=Lib.hid ht;clear ht;go_enter Tryz.func199,Tryz.ntmps199;go_wp2_with fail;refine(U8 u hu _ HT.out).mono ?_;rintro e w' ⟨rfl,hB⟩;go_wp2_with fail;go_ret;exact⟨rfl,hB⟩
theorem zA (s p:ByteArray) (w:World):
  Calls Tryz.prog 164 #[.string s,.string p] w fun e w'=>e= .returned (.tuple #[.string ⟨(Lib.trimPrefix s.data.toList p.data.toList).toArray⟩,.bool (Lib.hasPrefix s.data.toList p.data.toList)])/\ w'=w:=Any.strings_CutPrefix Tryz.RH s p w
theorem Nn (s:ByteArray) (w:World):
  Calls Tryz.prog 164 #[.string s,.string ⟨#[45]⟩] w fun e w'=>e= .returned (.tuple #[.string ⟨(fq s.data.toList).toArray⟩,.bool (hasPrefix s.data.toList [45])])/\ w'=w:=zA s ⟨#[45]⟩ w
theorem Km (s:ByteArray) (hs:s.size<=9) (h0:0<s.size) (ha:dw s.data.toList=true) (w:World):
  Calls Tryz.prog 249 #[.string s,.int .i64 10,.int .i64 32] w (dI (.tuple #[.int .u64 ((aP s.data.toList:Nat):Int),.nilIface]) w):=by
 have e:s.data.toList.length=s.size:=(Lib.size_eq s).symm;have hp:parseUintB 32 s.data.toList= .ok (aP s.data.toList):=Lh ha (fun h=>by rw[h]at e;simp at e;omega) (by omega);refine Calls.mono (Any.strconv_ParseUint_10_at32_ok Tryz.OL s (by omega) _ hp w) ?_;rintro e w' ⟨rfl,rfl|rfl⟩
 ·exact⟨rfl,Below.refl _ _⟩
 ·exact⟨rfl,Lib.bytesWorld_below _ _ _⟩
end Go.Proofs.YtmenbpmciblnlaaGreatDoor
/- What the shelf's contracts of strings.Repeat and math/bits.Mul ask of this program. -/
namespace Go.Proofs.YtmenbpmciblnlaaGreatDoor
open Go.Shelf
def Tryz.Fe:Go.Shelf.Ren:=⟨fun|212=>200|263=>223|264=>224|n=>n,fun|46=>228|51=>192|53=>147|146=>219|148=>260|n=>n,fun n=>n⟩
theorem Tryz.RN:Go.Proofs.Lays.n212 Tryz.prog Tryz.Fe:={
 mixed:=by kernel_rfl
 f212:=Tryz.func200.trans (congrArg some (by kernel_rfl))
 f263:=Tryz.func223.trans (congrArg some (by kernel_rfl))
 f264:=Tryz.func224.trans (congrArg some (by kernel_rfl))
 t46:=Tryz.underlying228
 a46:=Tryz.isAgg228
 z46:=Tryz.sizeOf228
 v46:=Tryz.zeroValue228
 t51:=Tryz.underlying192
 a51:=Tryz.isAgg192
 z51:=Tryz.sizeOf192
 v51:=Tryz.zeroValue192
 t53:=Tryz.underlying147
 a53:=Tryz.isAgg147
 z53:=Tryz.sizeOf147
 v53:=Tryz.zeroValue147
 t146:=Tryz.underlying219
 a146:=Tryz.isAgg219
 z146:=Tryz.sizeOf219
 v146:=Tryz.zeroValue219
 t148:=Tryz.underlying260
 a148:=Tryz.isAgg260
 z148:=Tryz.sizeOf260
 v148:=Tryz.zeroValue260 }
end Go.Proofs.YtmenbpmciblnlaaGreatDoor
/- The contract of bytes.Repeat, of one byte. -/
namespace Go.Proofs.YtmenbpmciblnlaaGreatDoor
open Lib (hid)
open Go.RowKit
theorem Tryz.CZ:(Tryz.prog.info? 5).map (·.size)=some 1:=by kernel_rfl
theorem OO (n:Nat) (hn:n<18446744073709551616) (w:World):
  Calls Tryz.prog 200 #[.int .u64 1,.int .u64 (n:Int)] w fun e w'=>e= .returned (.tuple #[.int .u64 0,.int .u64 (n:Int)])/\ w=w':=by
 have h:=Any.bits_Mul Tryz.RN 1 n (by omega) hn w;rw[Nat.one_mul,Nat.div_eq_of_lt hn,Nat.mod_eq_of_lt hn]at h;exact h.mono fun _ _ h=>⟨h.1,h.2.symm⟩
def zG (w:World) (g n k:Nat) (c:UInt8):Prop:=
 ∃cur:List Value,w.heap[g]? =some (.cells cur.toArray 5 (0,0))/\ n<=cur.length/\∀j,j<k->cur[j]? =some (.int .u8 (c.toNat:Int))
def RO (w:World) (n:Nat) (c:UInt8) (e:Ending) (w':World):Prop:=
 ∃g,e= .returned (.slice (some ⟨g,0,none⟩) n n)/\ w.heap.size<=g/\ zG w' g n n c/\ Below w.heap.size w w'
theorem wV {cur:List Value} {k m:Nat} {c:UInt8} (h:∀j,j<k->cur[j]? =some (.int .u8 (c.toNat:Int))) (hk:k+m<=cur.length):
  (splice cur k (List.replicate m (.int .u8 (c.toNat:Int)))).length=cur.length/\∀j,j<k+m->(splice cur k (List.replicate m (.int .u8 (c.toNat:Int))))[j]? =some (.int .u8 (c.toNat:Int)):=by
 unfold splice;refine⟨by simp;omega,fun j hj=>?_⟩;by_cases h1:j<k
 ·rw[List.getElem?_append_left (by simp;omega),List.getElem?_take_of_lt h1,h j h1]
 ·rw[List.getElem?_append_right (by simp;omega),List.length_take,Nat.min_eq_left (by omega),List.getElem?_append_left (by simp;omega),List.getElem?_replicate,if_pos (by omega)]
theorem Nj (b o n:Nat) (c:UInt8) (w:World) (hc:w.cell? ⟨b,o,none⟩=some (.int .u8 (c.toNat:Int))) (h0:0<n) (hn:n<=1000000000000):
  Calls Tryz.prog 162 #[.slice (some ⟨b,o,none⟩) 1 1,.int .i64 (n:Int)] w (RO w n c):=by
 have e0:(((n:Nat):Int)==0)=false:=by simp;omega
 have i1:(0:Int)<((n:Nat):Int):=by omega
 have i2:((n:Nat):Int)<=1000000000000:=by omega
 obtain⟨cs,hrun,hle,hmax⟩:=Lib.run_makeNoZero (P:=Tryz.prog) w #[3] 99 5 Tryz.underlying99 n (by omega)
 have hcall:(callFunc 197 #[.int .i64 ((n:Nat):Int)]).run Tryz.prog w= .ok (.value (.slice (some ⟨w.heap.size,0,none⟩) n cs.size)) (w.drew.drew.alloc (.cells cs 5)):=by
  rw[run_callFunc_extern Tryz.func197 (by kernel_rfl) (by kernel_rfl) (by kernel_rfl) (e:=Extern.BytealgMakeNoZero.makeNoZero #[3] #[99]) (by kernel_rfl),hrun];rfl
 clear hrun;have HC:=hid hc;clear hc;go_enter Tryz.func162,Tryz.ntmps162;go_upto_if 42 with(first|(go_at_call 200;refine(OO n (by omega) _).mono ?_;rintro e w' ⟨rfl,rfl⟩))
 go_cut [8] (fun s8 wx=>w=wx/\∃m:Nat,1<=m/\ m<=1000000000000/\ s8= .int .i64 (m:Int))
 case first=>
  go_wp2
  all_goals (go_meet;first|exact⟨rfl,n,by omega,by omega,rfl⟩|exact⟨rfl,8192,by omega,by omega,rfl⟩)
 case rest=>
  obtain⟨rfl,m,hm1,hm2,rfl⟩:=hcut
  have HG:Hid (((w.alloc (.cells cs 5)).drew.drew).heap[w.heap.size]? =some (.cells cs.toList.toArray 5 (0,0))):=by
   show(w.heap.push _)[w.heap.size]? =_;rw[Array.getElem?_push_size,Array.toArray_toList]
  have HB:Hid (Below w.heap.size w ((w.alloc (.cells cs 5)).drew.drew)):=(((Below.refl _ _).alloc (Nat.le_refl _) _).drew).drew;have hblt:b<w.heap.size:=World.block_lt_of_cell? w _ HC.out
  have HS:Hid (0<(List.replicate 1 (Value.int .u8 (c.toNat:Int))).length->some (⟨w.heap.size,0,none⟩:Addr)=some ⟨w.heap.size,0,none⟩/\∃ad,some (⟨b,o,none⟩:Addr)=some ad/\∀j v,(List.replicate 1 (Value.int .u8 (c.toNat:Int)))[j]? =some v->((w.alloc (.cells cs 5)).drew.drew).cell? (ad.add j)=some v):=by
   intro _;refine⟨rfl,_,rfl,fun j v hv=>?_⟩
   match j,hv with
   |0,hv=>
    simp at hv;subst hv;exact(HB.out.cell (p:=⟨b,o,none⟩) hblt).trans HC.out
   |j+1,hv=>simp at hv
  have HL:Hid (n<=cs.toList.length):=by show _;rw[Array.length_toList];exact hle
  have HN:Hid ((List.replicate 1 (Value.int .u8 (c.toNat:Int))).length=Nat.min 1 n):=by show _;rw[List.length_replicate];exact(Nat.min_eq_left h0).symm
  have HT:=hid (show 0+(List.replicate 1 (Value.int .u8 (c.toNat:Int))).length<=cs.toList.length by rw[List.length_replicate];have:=HL.out;omega);have HO:Hid (∀v∈List.replicate 1 (Value.int .u8 (c.toNat:Int)),v.oneCell'=true):=by intro v hv;rw[(List.mem_replicate.1 hv).2];rfl
  clear hle hmax hblt;go_wp2_with ((with_reducible refine wpList_copy_splice rfl (.tmp 58) (.tmp 59) 99 99 rfl 5 rfl Tryz.CZ _ _ _ _ _ _ rfl rfl w.heap.size 0 cs.toList 5 HG.out (List.replicate 1 (Value.int .u8 (c.toNat:Int))) HN.out HS.out HT.out HO.out w.heap.size w HB.out (Nat.le_refl _) ?_);intro w4 HG4 hb4)
  have HF:Hid (zG w4 w.heap.size n 1 c):=by
   have h1:=wV (cur:=cs.toList) (k:=0) (m:=1) (c:=c) (fun j hj=>by omega) (by have:=HL.out;omega);exact⟨_,HG4.out,by rw[h1.1];exact HL.out,fun j hj=>h1.2 j (by omega)⟩
  have oJ:=hid hb4;clear HG HB HS HL HG4 hb4 hcall HC HN HT HO;go_loopg [10] (n-1) (fun g s10 wx=>∃k:Nat,1<=k/\ k<=n/\ s10= .int .i64 (k:Int)/\ Hid (n-k=g)/\ Hid (zG wx w.heap.size n k c)/\ Hid (Below w.heap.size w wx))
  case atStart=>exact⟨1,Nat.le_refl _,h0,by simp,rfl,HF,oJ⟩
  case round=>
   clear HF oJ;obtain⟨k,hk1,hk2,rfl,HK,HF,HB⟩:=hrel;by_cases hlt:k<n
   ·obtain⟨q,hq⟩:∃q,q=min k m:=⟨_,rfl⟩;obtain⟨r,hr⟩:∃r,r=min q (n-k):=⟨_,rfl⟩;obtain⟨cur,hcur,hcl,hce⟩:=HF.out;have hq1:1<=q/\ q<=k:=by omega
    have VZ:((q:Nat):Int)<=((n:Nat):Int):=by omega
    have hr1:1<=r/\ k+r<=n/\ r<=q:=by omega
    have hmin:min ((k:Nat):Int) ((m:Nat):Int)=((q:Nat):Int):=by omega
    have hne:¬n=k:=by omega
    have HC4:=hid hcur;have HE:=wV (k:=k) (m:=r) hce (by omega);have AR:Hid (n<=(splice cur k (List.replicate r (.int .u8 (c.toNat:Int)))).length):=Nat.le_trans hcl (Nat.le_of_eq HE.1.symm);have HE2:=hid HE.2;have HN:=hid (show(List.replicate r (Value.int .u8 (c.toNat:Int))).length=Nat.min q (n-k)by rw[List.length_replicate];exact hr)
    have HP:Hid (∀j v,(List.replicate r (Value.int .u8 (c.toNat:Int)))[j]? =some v->wr.cell? ((⟨w.heap.size,0,none⟩:Addr).add j)=some v):=by
     intro j v hv;have hj:=(List.getElem?_eq_some_iff.1 hv).1;rw[List.length_replicate]at hj;rw[List.getElem?_replicate,if_pos hj]at hv;cases hv;rw[Addr.add_lit,Nat.zero_add,Lib.cell_of_heap hcur,List.getElem?_toArray,hce j (by omega)]
    have HT:=hid (show k+(List.replicate r (Value.int .u8 (c.toNat:Int))).length<=cur.length by rw[List.length_replicate];omega);have HO:Hid (∀v∈List.replicate r (Value.int .u8 (c.toNat:Int)),v.oneCell'=true):=by intro v hv;rw[(List.mem_replicate.1 hv).2];rfl
    have HR:=hid hr1;clear hr hq HE hcur hce hcl hr1 HF;go_wp2_with fail;refine wp_region_held_drew (S:=fun _=>True) (by kernel_rfl) trivial (fun hH=>?_);refine ai (fun w5 hW=>?_);have HC5:Hid (w5.heap[w.heap.size]? =some (.cells cur.toArray 5 (0,0))):=by rw[hW];exact HC4.out
    have pJ:Hid (Below w.heap.size w w5):=by rw[hW];exact HB.out.drew
    have HP5:Hid (∀j v,(List.replicate r (Value.int .u8 (c.toNat:Int)))[j]? =some v->w5.cell? ((⟨w.heap.size,0,none⟩:Addr).add j)=some v):=by rw[hW];exact HP.out
    clear hW HC4 HB HP;refine bC 0 hH ?_;try simp only[aI]
    refine bC 1 hH ?_;try simp only[aI]
    refine bC 2 hH ?_;try simp only[aI]
    refine bC 3 hH ?_;try simp only[aI]
    refine bC 4 hH ?_;try simp only[aI]
    refine bC 5 hH ?_;try simp only[aI]
    refine bC 6 hH ?_;try simp only[aI]
    refine ah 7 rfl (by kernel_rfl) (fun K hK=>?_);refine step_copy_splice rfl (.tmp 70) (.tmp 73) 99 99 rfl 5 Tryz.underlying99 Tryz.CZ _ _ _ _ _ _ rfl rfl w.heap.size k cur 5 HC5.out (List.replicate r (Value.int .u8 (c.toNat:Int))) HN.out (fun _=>⟨rfl,_,rfl,HP5.out⟩) HT.out HO.out w.heap.size w pJ.out (Nat.le_refl _) ?_;intro w6 HG6 hb6;refine hK.out _ _ trivial (fun h2=>?_);clear hK K hH;have hH:=h2;clear h2
    try simp only[aI]
    have hlr:(List.replicate r (Value.int .u8 (c.toNat:Int))).length=r:=List.length_replicate;rw[hlr];have hr2:=HR.out;have ib:((k:Nat):Int)+((r:Nat):Int)<=1000000000000:=by omega
    clear hlr hr2;refine bC 8 hH ?_;try simp only[aI]
    refine bC 9 hH ?_;try simp only[aI]
    refine wpAnyH_done (by kernel_rfl) ?_ _
    clear hH;have hr3:=HR.out;have HF6:Hid (zG w6 w.heap.size n (k+r) c):=⟨_,HG6.out,AR.out,HE2.out⟩;have x9:=hid hb6;clear hr3 hb6;have hwr:IntKind.i64.wrap (((k:Nat):Int)+((r:Nat):Int))=((k+r:Nat):Int):=by rw[IntKind.wrap_i64];omega
    rw[hwr];clear hwr;go_wp2_with fail;go_roundg (n-(k+r))
    case measure=>have:=HR.out;have:=HK.out;omega
    case rel=>exact⟨k+r,by have:=HR.out;omega,HR.out.2.1,by go_num,rfl,HF6,x9⟩
   ·obtain rfl:k=n:=by omega
    go_wp2_with fail;go_ret;exact⟨_,rfl,Nat.le_refl _,HF.out,HB.out⟩
end Go.Proofs.YtmenbpmciblnlaaGreatDoor
/- Texts in memory: a block of bytes that reads as a text, a copy of a string into it. -/
namespace Go.Proofs.YtmenbpmciblnlaaGreatDoor
open Go.RowKit Go.Lib
def lT (w:World) (g T:Nat) (l:List UInt8):Prop:=
 l.length=T/\∃cur:List Value,w.heap[g]? =some (.cells cur.toArray 5 (0,0))/\ cur.take T=byteCells l
theorem lT.QS {w:World} {g n:Nat} {c:UInt8} (h:zG w g n n c):lT w g n (List.replicate n c):=by
 obtain⟨cur,hc,hl,he⟩:=h;refine⟨List.length_replicate,cur,hc,?_⟩;apply List.ext_getElem?;intro j;by_cases hj:j<n
 ·rw[List.getElem?_take_of_lt hj,he j hj];simp[byteCells,hj]
 ·rw[List.getElem?_eq_none (by rw[List.length_take];omega),List.getElem?_eq_none (by simp[byteCells];omega)]
theorem lT.row {w:World} {g T:Nat} {l:List UInt8} (h:lT w g T l):∃cur:List Value,w.heap[g]? =some (.cells cur.toArray 5 (0,0))/\ T<=cur.length:=by
 obtain⟨hl,cur,hc,ht⟩:=h;refine⟨cur,hc,?_⟩;have:=congrArg List.length ht;rw[byteCells_length,hl,List.length_take]at this;omega
theorem lT.cell {w:World} {g T:Nat} {l:List UInt8} (h:lT w g T l) (j:Nat) (hj:j<l.length):w.cell? ⟨g,j,none⟩=some (.int .u8 (l[j].toNat:Int)):=by
 obtain⟨hl,cur,hc,ht⟩:=h;rw[Lib.cell_of_heap hc,List.getElem?_toArray,<-List.getElem?_take_of_lt (show j<T by omega),ht];simp[byteCells,hj]
theorem take3 (A S D:List Value) (T:Nat) (h:A.length+S.length<=T):(A++(S++D)).take T=A++(S++D.take (T-A.length-S.length)):=by
 rw[List.take_append,List.take_append,List.take_of_length_le (show A.length<=T by omega),List.take_of_length_le (show S.length<=T-A.length by omega)]
theorem pK {w:World} {ops:Array Oper} {rest:List Oper} {o:Oper} {a:Act} {Q:Exit->Act->World->Prop} (hgd:o.guard=none) (d s:Operand) (dT sT:TypeId)
  (ho:o.op= .call { callee:= .builtin .copy,args:= #[d,s],argTypes:= #[dT,sT] }) (hu:Tryz.prog.underlying dT=some (.slice 5))
  (g off dLen dCap:Nat) (hd:a.eval d= .slice (some ⟨g,off,none⟩) dLen dCap) (str:List UInt8) (hs:a.eval s= .string ⟨str.toArray⟩)
  (T:Nat) (l:List UInt8) (hT:lT w g T l) (hle:str.length<=dLen) (hfit:off+str.length<=T) (B:Nat) (w0:World) (hb:Below B w0 w) (hBg:B<=g)
  (h:∀w',Hid (lT w' g T (l.take off++(str++l.drop (off+str.length))))->Below B w0 w'->wpList Tryz.prog ops Q rest (a.put o.dst (goInt str.length)) w'):
  wpList Tryz.prog ops Q (o::rest) a w:=by
 have hT0:=hT;obtain⟨hl,cur,hc,ht⟩:=hT;obtain⟨cur',hc',hcl⟩:=hT0.row
 have e:cur'=cur:=by
  rw[hc]at hc';simpa using hc'.symm
 subst e;have hsz:(⟨str.toArray⟩:ByteArray).size=str.length:=by rw[Lib.size_eq]
 have hr:=run_copy_row_string (P:=Tryz.prog) w dT sT o.type 5 g off dLen dCap ⟨str.toArray⟩ cur'.toArray 5 hu Tryz.CZ hc (by rw[hsz];exact hle) (by rw[hsz];simp;omega);rw[hsz]at hr;refine wpList_plain hgd fun K hK=>?_
 unfold Oper.wp;simp[execOp,ho,resolve,invoke,builtin,hd,hs,hr,Result.andThen];refine hK _ _ (h _ ?_ (below_setRow hb hBg _));have hT1:T<=cur'.length:=hcl;refine⟨?_,_,setRow_heap w g _ _ 5 _ hc,?_⟩
 ·rw[List.length_append,List.length_append,List.length_take,List.length_drop];omega
 ·have e1:List.take off cur'=byteCells (l.take off):=by
   unfold byteCells at ht ⊢;rw[List.map_take,<-ht,List.take_take,Nat.min_eq_left (by omega)]
  have e2:List.take (T-off-str.length) (List.drop (off+str.length) cur')=byteCells (l.drop (off+str.length)):=by
   unfold byteCells at ht ⊢;rw[List.map_drop,<-ht,List.drop_take]
   congr 1
   omega
  have e3:(List.take off cur').length=off:=by rw[List.length_take];omega
  have e4:(byteCells str).length=str.length:=byteCells_length _;have e5:=take3 (List.take off cur') (byteCells str) (List.drop (off+str.length) cur') T (by omega);rw[e3,e4]at e5;rw[byteCells_append,byteCells_append,<-e1,<-e2];exact e5
end Go.Proofs.YtmenbpmciblnlaaGreatDoor
/- Plain facts: a text while its pieces are laid in. -/
namespace Go.Proofs.YtmenbpmciblnlaaGreatDoor
open Go.Lib
def yR (m:Bool) (N L:Nat):List UInt8:=(if m&&decide (0<piece N L)then[45]else[])++decDigits (piece N L)
def cont (A:List UInt8) (N L k:Nat):List UInt8:=A++(List.replicate (9*(L-k)) 48++jT (9*k) N)
theorem Kh (A:List UInt8) (N L:Nat):A++List.drop (A.length) (List.replicate (A.length+L*9) 48)=cont A N L 0:=by
 unfold cont;rw[List.drop_replicate,Nat.mul_zero,jT,List.append_nil,Nat.sub_zero,Nat.add_sub_cancel_left,Nat.mul_comm]
theorem uH (N k:Nat):1<=(decDigits (piece N k)).length/\ (decDigits (piece N k)).length<=9:=by
 rw[decDigits_length];exact⟨nDigits_pos _,oZ 8 _ (by have:=qj N k;simpa using this)⟩
theorem Ki (A:List UInt8) (N L k o:Nat) (h:k<L) (ho:o+(decDigits (piece N k)).length+9*k=A.length+L*9):
  (cont A N L k).take o++(decDigits (piece N k)++(cont A N L k).drop (o+(decDigits (piece N k)).length))=cont A N L (k+1):=by
 have hd:=uH N k;have hp:=OH 9 (piece N k) (by rw[<-decDigits_length];exact hd.2);rw[<-decDigits_length]at hp;obtain⟨ds,hds⟩:∃ds,ds=decDigits (piece N k):=⟨_,rfl⟩;rw[<-hds]at ho hd hp ⊢
 have e1:jT (9*(k+1)) N=jT 9 (piece N k)++jT (9*k) N:=by
  rw[show 9*(k+1)=9+9*k by omega,OE,<-OG 9,QX];rfl
 obtain⟨r,hr⟩:∃r,9*(L-k)=r+ds.length:=⟨9*(L-k)-ds.length,by omega⟩
 have e2:cont A N L k=(A++List.replicate r 48)++(List.replicate ds.length 48++jT (9*k) N):=by
  unfold cont;rw[hr,<-List.replicate_append_replicate];simp only[List.append_assoc]
 have e3:(A++List.replicate r (48:UInt8)).length=o:=by simp;omega
 have e4:List.take o (cont A N L k)=A++List.replicate r 48:=by rw[e2,<-e3,List.take_left]
 have e5:List.drop (o+ds.length) (cont A N L k)=jT (9*k) N:=by
  rw[e2,<-List.drop_drop,<-e3,List.drop_left]
  conv=>lhs;arg 1;rw[<-List.length_replicate (n:=ds.length) (a:=(48:UInt8))]
  rw[List.drop_left]
 rw[e4,e5];unfold cont;obtain⟨r',hr'⟩:∃r',r=r'+(9-ds.length):=⟨r-(9-ds.length),by omega⟩;rw[e1,hp,show 9*(L-(k+1))=r' by omega,hr',<-List.replicate_append_replicate];simp only[List.append_assoc]
theorem Kj {m:Bool} {N L:Nat} (h1:N/10^(9*(L+1))=0) (h2:1<L+1->0<N/10^(9*(L+1-1))):cont (yR m N L) N L L=itoa (dM m N):=by
 have hp:piece N L=N/10^(9*L):=by
  unfold piece;rw[<-q9]at h1;refine Nat.mod_eq_of_lt ?_;rcases Nat.lt_or_ge (N/10^(9*L)) 1000000000 with h|h
  ·exact h
  ·have:=Nat.div_pos h (by omega);omega
 have h0:0<N/10^(9*L)↔0<N:=by
  rcases Nat.eq_zero_or_pos L with h|h
  ·subst h;simp
  ·have h3:=h2 (by omega);rw[Nat.add_sub_cancel]at h3;exact⟨fun _=>Nat.lt_of_lt_of_le h3 (Nat.div_le_self _ _),fun _=>h3⟩
 have ht:decDigits (N/10^(9*L))++jT (9*L) N=decDigits N:=by
  have h4:=Ld N L (by
   rcases Nat.eq_zero_or_pos L with h|h
   ·exact .inl h
   ·right
    have h3:=h2 (by omega);rw[Nat.add_sub_cancel]at h3;exact(Nat.div_pos_iff.1 h3).2)
  unfold OI at h4;rw[Nat.sub_self,Nat.mul_zero]at h4;simpa using h4
 unfold cont yR;rw[Nat.sub_self,Nat.mul_zero,hp,List.append_assoc];show _++(_++jT (9*L) N)=_;rw[ht];have h5:decide (0<N/10^(9*L))=decide (0<N):=by rw[decide_eq_decide];exact h0
 rw[h5,<-rO];by_cases hz:dM m N<0
 ·rw[BB hz,gM,decide_eq_true hz];rfl
 ·rw[nN (by omega),gM,decide_eq_false hz];rfl
end Go.Proofs.YtmenbpmciblnlaaGreatDoor

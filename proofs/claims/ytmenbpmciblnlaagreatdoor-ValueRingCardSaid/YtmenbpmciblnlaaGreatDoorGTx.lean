import Derived.Test.YtmenbpmciblnlaaGreatDoorGPp
import Derived.Test.YtmenbpmciblnlaaGreatDoorGTxtA
import Derived.Shelf.Strings.SlTrimAscii
import Derived.Shelf.Strings.OnBuilder
import Derived.Shelf.Strconv.Itoa3
import Derived.Shelf.Strconv.AtoiAll
import Derived.Test.YtmenbpmciblnlaaGreatDoorEn
set_option maxHeartbeats 0
set_option maxRecDepth 100000
open Go renaming World->ah5
open Go.Lib renaming decDigits->ah6
open Go.Op renaming stringOp->ah7
open Go.Shelf renaming Ren->ah8
open List renaming contains_iff_mem->ai2,flatten_cons->ai5,intercalate->ai3,map_cons->ai4,mem_cons->ah9,mem_cons_of_mem->ai0,mem_cons_self->ai1
open Option renaming bind_eq_some_iff->ai6
namespace Go.Proofs.YtmenbpmciblnlaaGreatDoor
section
open Go.Lib
def iB (w:Int×Int):List UInt8:=120::(decDigits w.1.toNat++if w.2=1 then[]else 94::decDigits w.2.toNat)
def nY:List (Int×Int)->List UInt8
 |[]=>[]
 |w::r=>42::(iB w++nY r)
def gR (t:ai):List UInt8:=
 match t.2 with
 |[]=>decDigits t.1.natAbs
 |w::r=>(if t.1.natAbs=1 then[]else decDigits t.1.natAbs++[42])++(iB w++nY r)
def wu:List ai->List UInt8
 |[]=>[]
 |t::r=>(if t.1<0 then 45 else 43)::(gR t++wu r)
def rR:List ai->List UInt8
 |[]=>[48]
 |t::r=>(if t.1<0 then[45]else[])++(gR t++wu r)
def ez (c:UInt8) (l:List UInt8):Option (List UInt8):=if l.head? =some c then some l.tail else none
def kG (l:List UInt8):Option (List UInt8×List UInt8):=
 if l.takeWhile eG=[]∨(l.takeWhile eG≠[48]/\ (l.takeWhile eG).head? =some 48)then none else some (l.takeWhile eG,l.dropWhile eG)
def eL (l:List UInt8):Option (Int×List UInt8):=
 (kG l).bind λa=>if aP a.1<9223372036854775808 then some ((aP a.1:Int),a.2)else none
def mC (l:List UInt8):Option ((Int×Int)×List UInt8):=
 (ez 120 l).bind λl1=>(eL l1).bind λa=>
  match ez 94 a.2 with
  |none=>some ((a.1,1),a.2)
  |some l2=>(eL l2).bind λb=>if b.1=1 then none else some ((a.1,b.1),b.2)
def iR:Nat->List UInt8->Option (List (Int×Int)×List UInt8)
 |0,_=>none
 |n+1,l=>
  match ez 42 l with
  |none=>some ([],l)
  |some l1=>(mC l1).bind λa=>(iR n a.2).bind λb=>some (a.1::b.1,b.2)
def jT (n:Nat) (l:List UInt8):Option (List (Int×Int)×List UInt8):=
 (mC l).bind λa=>(iR n a.2).bind λb=>some (a.1::b.1,b.2)
def gH (n:Nat) (l:List UInt8):Option (ai×List UInt8):=
 if l.head? =some 120 then(jT n l).bind λa=>some ((1,a.1),a.2)
 else(kG l).bind λa=>
  match ez 42 a.2 with
  |none=>some (((aP a.1:Int),[]),a.2)
  |some l1=>if a.1=[49]then none else(jT n l1).bind λb=>some (((aP a.1:Int),b.1),b.2)
def il (b:Bool) (t:ai):ai:=if b=true then(-t.1,t.2)else t
def fO (m:Nat):Nat->List UInt8->Option (List ai)
 |0,l=>if l=[]then some []else none
 |n+1,l=>
  if l=[]then some []else
  match ez 45 l with
  |some l1=>(gH m l1).bind λa=>(fO m n a.2).bind λb=>some (il true a.1::b)
  |none=>
   match ez 43 l with
   |some l1=>(gH m l1).bind λa=>(fO m n a.2).bind λb=>some (a.1::b)
   |none=>none
def kH (m n:Nat) (l:List UInt8):Option (List ai):=
 match ez 45 l with
 |some l1=>(gH m l1).bind λa=>(fO m n a.2).bind λb=>some (il true a.1::b)
 |none=>(gH m l).bind λa=>(fO m n a.2).bind λb=>some (a.1::b)
theorem dH {c:UInt8} {l r:List UInt8} (h:ez c l=some r):l=c::r:=by
 unfold ez at h;split at h
 ·rename_i hh;cases l with
  |nil=>simp at hh
  |cons a l=>simp at hh h;rw[hh,h]
 ·cases h
theorem FR {c:UInt8} {l:List UInt8}:ez c l=none↔l.head? ≠some c:=by
 unfold ez;split
 ·rename_i h;simp[h]
 ·rename_i h;simp[h]
theorem yH {l:List UInt8}:cL (l.takeWhile eG)=true:=by
 induction l with
 |nil=>rfl
 |cons a l ih=>
  by_cases h:eG a=true
  ·rw[List.takeWhile_cons_of_pos h,dI,h,ih];rfl
  ·rw[List.takeWhile_cons_of_neg h];rfl
theorem fu {l d r:List UInt8} (h:kG l=some (d,r)):l=d++r/\ decDigits (aP d)=d/\ d≠[]:=by
 unfold kG at h;split at h
 ·cases h
 ·rename_i hh;injection h with h
  injection h with h1 h2
  subst h1 h2;have hn:l.takeWhile eG≠[]:=λe=>hh (.inl e)
  refine⟨List.takeWhile_append_dropWhile.symm,?_,hn⟩;refine qI ((l.takeWhile eG).length-1) _ (by have:=List.length_pos_iff.2 hn;omega) yH ?_;by_cases h0:(l.takeWhile eG).head? =some 48
  ·have:l.takeWhile eG=[48]:=Classical.byContradiction λe=>hh (.inr ⟨e,h0⟩)
   rw[this];exact .inr rfl
  ·exact .inl h0
theorem lQ {l r:List UInt8} {n:Int} (h:eL l=some (n,r)):l=decDigits n.toNat++r/\ 0<=n/\ n<9223372036854775808:=by
 unfold eL at h;obtain⟨a,ha,h⟩:=ai6.1 h;obtain⟨h1,h2,_⟩:=fu ha;split at h
 ·rename_i hh;injection h with h
  injection h with h3 h4
  subst h3 h4;rw[Int.toNat_natCast,h2];exact⟨h1,by omega,by omega⟩
 ·cases h
def Sm (w:Int×Int):Prop:=0<=w.1/\ w.1<9223372036854775808/\ 0<=w.2/\ w.2<9223372036854775808
theorem lF {l r:List UInt8} {w:Int×Int} (h:mC l=some (w,r)):l=iB w++r/\ Sm w:=by
 unfold mC at h;obtain⟨l1,h0,h⟩:=ai6.1 h;obtain⟨a,ha,h⟩:=ai6.1 h;have e0:=dH h0;obtain⟨e1,g1,g2⟩:=lQ ha;split at h
 ·injection h with h
  injection h with h3 h4
  subst h3 h4;refine⟨?_,g1,g2,(by decide:(0:Int)<=1),(by decide:(1:Int)<9223372036854775808)⟩;rw[e0,e1];simp[iB]
 ·rename_i l2 hl;obtain⟨b,hb,h⟩:=ai6.1 h;obtain⟨e2,g3,g4⟩:=lQ hb;split at h
  ·cases h
  ·rename_i hne;injection h with h
   injection h with h3 h4
   subst h3 h4;refine⟨?_,g1,g2,g3,g4⟩;rw[e0,e1,dH hl,e2];simp[iB,hne]
theorem sK:∀(n:Nat) {l r:List UInt8} {ms:List (Int×Int)},iR n l=some (ms,r)->l=nY ms++r/\∀w∈ms,Sm w
 |0,_,_,_,h=>by cases h
 |n+1,l,r,ms,h=>by
  unfold iR at h;split at h
  ·injection h with h
   injection h with h1 h2
   subst h1 h2;exact⟨rfl,λw hw=>by simp at hw⟩
  ·rename_i l1 hl;obtain⟨a,ha,h⟩:=ai6.1 h;obtain⟨b,hb,h⟩:=ai6.1 h;injection h with h
   injection h with h1 h2
   subst h1 h2;obtain⟨e1,g1⟩:=lF ha;obtain⟨e2,g2⟩:=sK n hb;refine⟨?_,λw hw=>?_⟩
   ·rw[dH hl,e1,e2];simp[nY]
   ·rcases ah9.1 hw with hw|hw
    ·rw[hw];exact g1
    ·exact g2 w hw
theorem sL {n:Nat} {l r:List UInt8} {ms:List (Int×Int)} (h:jT n l=some (ms,r)):∃w x,ms=w::x/\ l=iB w++nY x++r/\∀w∈ms,Sm w:=by
 unfold jT at h;obtain⟨a,ha,h⟩:=ai6.1 h;obtain⟨b,hb,h⟩:=ai6.1 h;injection h with h
 injection h with h1 h2
 subst h1 h2;obtain⟨e1,g1⟩:=lF ha;obtain⟨e2,g2⟩:=sK n hb;refine⟨a.1,b.1,rfl,?_,λw hw=>?_⟩
 ·rw[e1,e2,List.append_assoc]
 ·rcases ah9.1 hw with hw|hw
  ·rw[hw];exact g1
  ·exact g2 w hw
theorem pC:decDigits 1=[49]:=decDigits_one (by omega)
theorem ia {n:Nat} {l r:List UInt8} {t:ai} (h:gH n l=some (t,r)):l=gR t++r/\ 0<=t.1/\∀w∈t.2,Sm w:=by
 unfold gH at h;split at h
 ·obtain⟨a,ha,h⟩:=ai6.1 h;injection h with h
  injection h with h1 h2
  subst h1 h2;obtain⟨w,x,e,e1,g⟩:=sL ha;refine⟨?_,(by decide:(0:Int)<=1),g⟩;rw[e1];simp[gR,e]
 ·obtain⟨a,ha,h⟩:=ai6.1 h;obtain⟨e1,e2,e3⟩:=fu ha;split at h
  ·injection h with h
   injection h with h1 h2
   subst h1 h2;refine⟨?_,by simp,λw hw=>by simp at hw⟩;rw[e1];simp[gR,e2]
  ·rename_i l1 hl;split at h
   ·cases h
   ·rename_i hne;obtain⟨b,hb,h⟩:=ai6.1 h;injection h with h
    injection h with h1 h2
    subst h1 h2;obtain⟨w,x,e,e4,g⟩:=sL hb;refine⟨?_,by simp,g⟩;have hv:aP a.1≠1:=λhv=>hne (by rw[<-e2,hv,pC])
    rw[e1,dH hl,e4];simp[gR,e,e2,hv]
theorem zO (t:ai):gR (-t.1,t.2)=gR t:=by unfold gR;simp
theorem DC {t:ai} (h:0<=t.1) (hn:(il true t).1≠0):(il true t).1<0:=by
 simp only[il]at hn ⊢;simp only[if_true]at hn ⊢;omega
theorem kj (m:Nat):∀(n:Nat) {l:List UInt8} {p:List ai},fO m n l=some p->(∀t∈p,t.1≠0)->l=wu p
 |0,l,p,h,_=>by
  unfold fO at h;split at h
  ·rename_i hl;injection h with h;subst h hl;rfl
  ·cases h
 |n+1,l,p,h,hp=>by
  unfold fO at h;split at h
  ·rename_i hl;injection h with h;subst h hl;rfl
  ·split at h
   ·rename_i l1 hl;obtain⟨a,ha,h⟩:=ai6.1 h;obtain⟨b,hb,h⟩:=ai6.1 h;injection h with h
    subst h;obtain⟨e1,g1,_⟩:=ia ha;have e2:=kj m n hb (λt ht=>hp t (ai0 _ ht));have g2:=DC g1 (hp _ (ai1 ..));rw[dH hl,e1,e2];simp only[wu,if_pos g2];simp[il,zO]
   ·split at h
    ·rename_i l1 hl;obtain⟨a,ha,h⟩:=ai6.1 h;obtain⟨b,hb,h⟩:=ai6.1 h;injection h with h
     subst h;obtain⟨e1,g1,_⟩:=ia ha;have e2:=kj m n hb (λt ht=>hp t (ai0 _ ht));rw[dH hl,e1,e2];simp only[wu,if_neg (show¬a.1.1<0 by omega)]
    ·cases h
theorem AP {m n:Nat} {l:List UInt8} {p:List ai} (h:kH m n l=some p) (hp:∀t∈p,t.1≠0):l=rR p:=by
 unfold kH at h;split at h
 ·rename_i l1 hl;obtain⟨a,ha,h⟩:=ai6.1 h;obtain⟨b,hb,h⟩:=ai6.1 h;injection h with h
  subst h;obtain⟨e1,g1,_⟩:=ia ha;have e2:=kj m n hb (λt ht=>hp t (ai0 _ ht));have g2:=DC g1 (hp _ (ai1 ..));rw[dH hl,e1,e2];simp only[rR,if_pos g2];simp[il,zO]
 ·obtain⟨a,ha,h⟩:=ai6.1 h;obtain⟨b,hb,h⟩:=ai6.1 h;injection h with h
  subst h;obtain⟨e1,g1,_⟩:=ia ha;have e2:=kj m n hb (λt ht=>hp t (ai0 _ ht));rw[e1,e2];simp only[rR,if_neg (show¬a.1.1<0 by omega)];simp
theorem RH {n k:Nat} (h:decDigits n=decDigits k):n=k:=by rw[<-IQ n,h,IQ]
end
section
open Go.Shelf
def Tryz.DD:ah8:=⟨λ|119=>277|137=>276|151=>248|152=>265|161=>204|197=>247|217=>285|224=>278|225=>279|227=>227|228=>246|231=>226|233=>228|235=>229|260=>264|266=>286|n=>n,λ|0=>0|3=>3|4=>4|5=>5|9=>9|21=>21|46=>228|105=>284|116=>265|117=>266|119=>306|124=>269|138=>308|139=>309|n=>n,λ|3=>3|4=>4|n=>n⟩
theorem Tryz.RI:Go.Proofs.Lays.n161 Tryz.prog Tryz.DD:={
 mixed:=by kernel_rfl
 f119:=Tryz.func277.trans (congrArg some (by kernel_rfl))
 f137:=Tryz.func276.trans (congrArg some (by kernel_rfl))
 f151:=Tryz.func248.trans (congrArg some (by kernel_rfl))
 f152:=Tryz.func265.trans (congrArg some (by kernel_rfl))
 f161:=Tryz.func204.trans (congrArg some (by kernel_rfl))
 f197:=Tryz.func247.trans (congrArg some (by kernel_rfl))
 f217:=Tryz.func285.trans (congrArg some (by kernel_rfl))
 f224:=Tryz.func278.trans (congrArg some (by kernel_rfl))
 f225:=Tryz.func279.trans (congrArg some (by kernel_rfl))
 f227:=Tryz.func227.trans (congrArg some (by kernel_rfl))
 f228:=Tryz.func246.trans (congrArg some (by kernel_rfl))
 f231:=Tryz.func226.trans (congrArg some (by kernel_rfl))
 f233:=Tryz.func228.trans (congrArg some (by kernel_rfl))
 f235:=Tryz.func229.trans (congrArg some (by kernel_rfl))
 f260:=Tryz.func264.trans (congrArg some (by kernel_rfl))
 f266:=Tryz.func286.trans (congrArg some (by kernel_rfl))
 t0:=Tryz.underlying0
 a0:=Tryz.isAgg0
 z0:=Tryz.sizeOf0
 v0:=Tryz.zeroValue0
 t3:=Tryz.underlying3
 a3:=Tryz.isAgg3
 z3:=Tryz.sizeOf3
 v3:=Tryz.zeroValue3
 t4:=Tryz.underlying4
 a4:=Tryz.isAgg4
 z4:=Tryz.sizeOf4
 v4:=Tryz.zeroValue4
 t5:=Tryz.underlying5
 a5:=Tryz.isAgg5
 z5:=Tryz.sizeOf5
 v5:=Tryz.zeroValue5
 t9:=Tryz.underlying9
 a9:=Tryz.isAgg9
 z9:=Tryz.sizeOf9
 v9:=Tryz.zeroValue9
 t21:=Tryz.underlying21
 a21:=Tryz.isAgg21
 z21:=Tryz.sizeOf21
 v21:=Tryz.zeroValue21
 t46:=Tryz.underlying228
 a46:=Tryz.isAgg228
 z46:=Tryz.sizeOf228
 v46:=Tryz.zeroValue228
 t105:=Tryz.underlying284
 a105:=Tryz.isAgg284
 z105:=Tryz.sizeOf284
 v105:=Tryz.zeroValue284
 t116:=Tryz.underlying265
 a116:=Tryz.isAgg265
 z116:=Tryz.sizeOf265
 t117:=Tryz.underlying266
 a117:=Tryz.isAgg266
 z117:=Tryz.sizeOf266
 v117:=Tryz.zeroValue266
 t119:=Tryz.underlying306
 a119:=Tryz.isAgg306
 z119:=Tryz.sizeOf306
 t124:=Tryz.underlying269
 a124:=Tryz.isAgg269
 z124:=Tryz.sizeOf269
 v124:=Tryz.zeroValue269
 t138:=Tryz.underlying308
 a138:=Tryz.isAgg308
 z138:=Tryz.sizeOf308
 v138:=Tryz.zeroValue308
 t139:=Tryz.underlying309
 a139:=Tryz.isAgg309
 z139:=Tryz.sizeOf309
 v139:=Tryz.zeroValue309
 g3:=by kernel_rfl
 g4:=by kernel_rfl }
def Tryz.Gw:ah8:=⟨λ|99=>165|206=>203|n=>n,λ|3=>3|4=>4|9=>9|n=>n,λn=>n⟩
theorem Tryz.Vd:Go.Proofs.Lays.n99 Tryz.prog Tryz.Gw:={
 mixed:=by kernel_rfl
 f99:=Tryz.func165.trans (congrArg some (by kernel_rfl))
 f206:=Tryz.func203.trans (congrArg some (by kernel_rfl))
 t3:=Tryz.underlying3
 a3:=Tryz.isAgg3
 z3:=Tryz.sizeOf3
 v3:=Tryz.zeroValue3
 t4:=Tryz.underlying4
 a4:=Tryz.isAgg4
 z4:=Tryz.sizeOf4
 v4:=Tryz.zeroValue4
 t9:=Tryz.underlying9
 a9:=Tryz.isAgg9
 z9:=Tryz.sizeOf9
 v9:=Tryz.zeroValue9 }
def Tryz.uG:ah8:=⟨λ|156=>60|165=>107|166=>59|169=>62|240=>106|241=>159|276=>158|277=>197|n=>n,λ|0=>0|3=>3|4=>4|5=>5|9=>9|20=>20|31=>107|37=>99|70=>98|72=>101|75=>103|76=>104|80=>109|127=>157|164=>206|n=>n,λn=>n⟩
theorem Tryz.RJ:Go.Proofs.Lays.n156 Tryz.prog Tryz.uG:={
 mixed:=by kernel_rfl
 f156:=Tryz.func60.trans (congrArg some (by kernel_rfl))
 f165:=Tryz.func107.trans (congrArg some (by kernel_rfl))
 f166:=Tryz.func59.trans (congrArg some (by kernel_rfl))
 f169:=Tryz.func62.trans (congrArg some (by kernel_rfl))
 f240:=Tryz.func106.trans (congrArg some (by kernel_rfl))
 f241:=Tryz.func159.trans (congrArg some (by kernel_rfl))
 f276:=Tryz.func158.trans (congrArg some (by kernel_rfl))
 f277:=Tryz.func197.trans (congrArg some (by kernel_rfl))
 t0:=Tryz.underlying0
 a0:=Tryz.isAgg0
 z0:=Tryz.sizeOf0
 v0:=Tryz.zeroValue0
 t3:=Tryz.underlying3
 a3:=Tryz.isAgg3
 z3:=Tryz.sizeOf3
 v3:=Tryz.zeroValue3
 t4:=Tryz.underlying4
 a4:=Tryz.isAgg4
 z4:=Tryz.sizeOf4
 v4:=Tryz.zeroValue4
 t9:=Tryz.underlying9
 a9:=Tryz.isAgg9
 z9:=Tryz.sizeOf9
 v9:=Tryz.zeroValue9
 t20:=Tryz.underlying20
 a20:=Tryz.isAgg20
 z20:=Tryz.sizeOf20
 v20:=Tryz.zeroValue20
 t31:=Tryz.underlying107
 a31:=Tryz.isAgg107
 z31:=Tryz.sizeOf107
 v31:=Tryz.zeroValue107
 t37:=Tryz.underlying99
 a37:=Tryz.isAgg99
 z37:=Tryz.sizeOf99
 v37:=Tryz.zeroValue99
 t70:=Tryz.underlying98
 a70:=Tryz.isAgg98
 z70:=Tryz.sizeOf98
 v70:=Tryz.zeroValue98
 t72:=Tryz.underlying101
 a72:=Tryz.isAgg101
 z72:=Tryz.sizeOf101
 v72:=Tryz.zeroValue101
 t75:=Tryz.underlying103
 a75:=Tryz.isAgg103
 z75:=Tryz.sizeOf103
 v75:=Tryz.zeroValue103
 t76:=Tryz.underlying104
 a76:=Tryz.isAgg104
 z76:=Tryz.sizeOf104
 v76:=Tryz.zeroValue104
 t127:=Tryz.underlying157
 a127:=Tryz.isAgg157
 z127:=Tryz.sizeOf157
 v127:=Tryz.zeroValue157
 t164:=Tryz.underlying206
 a164:=Tryz.isAgg206
 z164:=Tryz.sizeOf206
 v164:=Tryz.zeroValue206 }
theorem Tryz.yI:Builder.Extra Tryz.prog Tryz.uG:={
 sizeBuilder:=by kernel_rfl
 liesBuilder:=by kernel_rfl
 t5:=Tryz.underlying5
 a5:=Tryz.isAgg5
 z5:=Tryz.sizeOf5
 v5:=Tryz.zeroValue5
 infoByte:=by kernel_rfl
 cellsByte:=by kernel_rfl
 sizeByte:=by kernel_rfl
 neB5:=by decide }
def Tryz.BA:ah8:=⟨λ|129=>260|171=>163|243=>201|246=>225|283=>242|284=>243|285=>244|286=>245|317=>259|318=>261|319=>262|320=>263|337=>274|338=>275|n=>n,λ|0=>0|2=>2|3=>3|4=>4|5=>5|9=>9|20=>20|37=>99|46=>228|51=>192|53=>147|171=>278|173=>281|212=>295|213=>296|232=>318|233=>319|n=>n,λ|17=>2|18=>7|19=>8|n=>n⟩
theorem Tryz.N0:Go.Proofs.LaysM.n171 Tryz.prog Tryz.BA:={
 mixed:=by kernel_rfl
 f129:=Tryz.func260.trans (congrArg some (by kernel_rfl))
 f171:=Tryz.func163.trans (congrArg some (by kernel_rfl))
 f243:=Tryz.func201.trans (congrArg some (by kernel_rfl))
 f246:=Tryz.func225.trans (congrArg some (by kernel_rfl))
 f283:=Tryz.func242.trans (congrArg some (by kernel_rfl))
 f284:=Tryz.func243.trans (congrArg some (by kernel_rfl))
 f285:=Tryz.func244.trans (congrArg some (by kernel_rfl))
 f286:=Tryz.func245.trans (congrArg some (by kernel_rfl))
 f317:=Tryz.func259.trans (congrArg some (by kernel_rfl))
 f318:=Tryz.func261.trans (congrArg some (by kernel_rfl))
 f319:=Tryz.func262.trans (congrArg some (by kernel_rfl))
 f320:=Tryz.func263.trans (congrArg some (by kernel_rfl))
 f337:=Tryz.func274.trans (congrArg some (by kernel_rfl))
 f338:=Tryz.func275.trans (congrArg some (by kernel_rfl))
 t0:=Tryz.underlying0
 a0:=Tryz.isAgg0
 z0:=Tryz.sizeOf0
 v0:=Tryz.zeroValue0
 t2:=Tryz.underlying2
 a2:=Tryz.isAgg2
 z2:=Tryz.sizeOf2
 v2:=Tryz.zeroValue2
 t3:=Tryz.underlying3
 a3:=Tryz.isAgg3
 z3:=Tryz.sizeOf3
 v3:=Tryz.zeroValue3
 t4:=Tryz.underlying4
 a4:=Tryz.isAgg4
 z4:=Tryz.sizeOf4
 v4:=Tryz.zeroValue4
 t5:=Tryz.underlying5
 a5:=Tryz.isAgg5
 z5:=Tryz.sizeOf5
 v5:=Tryz.zeroValue5
 t9:=Tryz.underlying9
 a9:=Tryz.isAgg9
 z9:=Tryz.sizeOf9
 v9:=Tryz.zeroValue9
 t20:=Tryz.underlying20
 a20:=Tryz.isAgg20
 z20:=Tryz.sizeOf20
 v20:=Tryz.zeroValue20
 t37:=Tryz.underlying99
 a37:=Tryz.isAgg99
 z37:=Tryz.sizeOf99
 v37:=Tryz.zeroValue99
 t46:=Tryz.underlying228
 a46:=Tryz.isAgg228
 z46:=Tryz.sizeOf228
 v46:=Tryz.zeroValue228
 t51:=Tryz.underlying192
 a51:=Tryz.isAgg192
 z51:=Tryz.sizeOf192
 v51:=Tryz.zeroValue192
 t53:=Tryz.underlying147
 a53:=Tryz.isAgg147
 z53:=Tryz.sizeOf147
 v53:=Tryz.zeroValue147
 t171:=Tryz.underlying278
 a171:=Tryz.isAgg278
 z171:=Tryz.sizeOf278
 v171:=Tryz.zeroValue278
 t173:=Tryz.underlying281
 a173:=Tryz.isAgg281
 z173:=Tryz.sizeOf281
 v173:=Tryz.zeroValue281
 t212:=Tryz.underlying295
 a212:=Tryz.isAgg295
 z212:=Tryz.sizeOf295
 v212:=Tryz.zeroValue295
 t213:=Tryz.underlying296
 a213:=Tryz.isAgg296
 z213:=Tryz.sizeOf296
 t232:=Tryz.underlying318
 a232:=Tryz.isAgg318
 z232:=Tryz.sizeOf318
 v232:=Tryz.zeroValue318
 t233:=Tryz.underlying319
 a233:=Tryz.isAgg319
 z233:=Tryz.sizeOf319
 v233:=Tryz.zeroValue319
 g17:=by kernel_rfl
 g18:=by kernel_rfl
 g19:=by kernel_rfl
 i0:=by kernel_rfl
 i2:=by kernel_rfl
 i3:=by kernel_rfl
 i4:=by kernel_rfl
 i5:=by kernel_rfl
 i9:=by kernel_rfl
 i20:=by kernel_rfl
 i37:=by kernel_rfl
 i46:=by kernel_rfl
 i51:=by kernel_rfl
 i53:=by kernel_rfl
 i171:=by kernel_rfl
 i173:=by kernel_rfl
 i212:=by kernel_rfl
 i232:=by kernel_rfl
 i233:=by kernel_rfl
 m17:=by kernel_rfl
 m18:=by kernel_rfl
 m19:=by kernel_rfl }
def Tryz.BB:ah8:=⟨λ|129=>260|171=>163|172=>233|205=>283|243=>201|244=>251|245=>252|246=>225|247=>267|279=>268|280=>269|281=>270|282=>271|283=>242|284=>243|285=>244|286=>245|287=>266|316=>282|317=>259|318=>261|319=>262|320=>263|321=>280|322=>281|337=>274|338=>275|n=>n,λ|0=>0|2=>2|3=>3|4=>4|5=>5|9=>9|20=>20|21=>21|37=>99|46=>228|51=>192|53=>147|75=>103|76=>104|80=>109|85=>300|127=>157|143=>320|145=>322|167=>299|168=>302|171=>278|173=>281|175=>287|210=>316|212=>295|213=>296|232=>318|233=>319|n=>n,λ|15=>5|16=>6|17=>2|18=>7|19=>8|n=>n⟩
theorem Tryz.C7:Go.Proofs.LaysC.n172 Tryz.prog Tryz.BB:={
 mixed:=by kernel_rfl
 f129:=Tryz.func260.trans (congrArg some (by kernel_rfl))
 f171:=Tryz.func163.trans (congrArg some (by kernel_rfl))
 f172:=Tryz.func233.trans (congrArg some (by kernel_rfl))
 f205:=Tryz.func283.trans (congrArg some (by kernel_rfl))
 f243:=Tryz.func201.trans (congrArg some (by kernel_rfl))
 f244:=Tryz.func251.trans (congrArg some (by kernel_rfl))
 f245:=Tryz.func252.trans (congrArg some (by kernel_rfl))
 f246:=Tryz.func225.trans (congrArg some (by kernel_rfl))
 f247:=Tryz.func267.trans (congrArg some (by kernel_rfl))
 f279:=Tryz.func268.trans (congrArg some (by kernel_rfl))
 f280:=Tryz.func269.trans (congrArg some (by kernel_rfl))
 f281:=Tryz.func270.trans (congrArg some (by kernel_rfl))
 f282:=Tryz.func271.trans (congrArg some (by kernel_rfl))
 f283:=Tryz.func242.trans (congrArg some (by kernel_rfl))
 f284:=Tryz.func243.trans (congrArg some (by kernel_rfl))
 f285:=Tryz.func244.trans (congrArg some (by kernel_rfl))
 f286:=Tryz.func245.trans (congrArg some (by kernel_rfl))
 f287:=Tryz.func266.trans (congrArg some (by kernel_rfl))
 f316:=Tryz.func282.trans (congrArg some (by kernel_rfl))
 f317:=Tryz.func259.trans (congrArg some (by kernel_rfl))
 f318:=Tryz.func261.trans (congrArg some (by kernel_rfl))
 f319:=Tryz.func262.trans (congrArg some (by kernel_rfl))
 f320:=Tryz.func263.trans (congrArg some (by kernel_rfl))
 f321:=Tryz.func280.trans (congrArg some (by kernel_rfl))
 f322:=Tryz.func281.trans (congrArg some (by kernel_rfl))
 f337:=Tryz.func274.trans (congrArg some (by kernel_rfl))
 f338:=Tryz.func275.trans (congrArg some (by kernel_rfl))
 t0:=Tryz.underlying0
 a0:=Tryz.isAgg0
 z0:=Tryz.sizeOf0
 v0:=Tryz.zeroValue0
 t2:=Tryz.underlying2
 a2:=Tryz.isAgg2
 z2:=Tryz.sizeOf2
 v2:=Tryz.zeroValue2
 t3:=Tryz.underlying3
 a3:=Tryz.isAgg3
 z3:=Tryz.sizeOf3
 v3:=Tryz.zeroValue3
 t4:=Tryz.underlying4
 a4:=Tryz.isAgg4
 z4:=Tryz.sizeOf4
 v4:=Tryz.zeroValue4
 t5:=Tryz.underlying5
 a5:=Tryz.isAgg5
 z5:=Tryz.sizeOf5
 v5:=Tryz.zeroValue5
 t9:=Tryz.underlying9
 a9:=Tryz.isAgg9
 z9:=Tryz.sizeOf9
 v9:=Tryz.zeroValue9
 t20:=Tryz.underlying20
 a20:=Tryz.isAgg20
 z20:=Tryz.sizeOf20
 v20:=Tryz.zeroValue20
 t21:=Tryz.underlying21
 a21:=Tryz.isAgg21
 z21:=Tryz.sizeOf21
 v21:=Tryz.zeroValue21
 t37:=Tryz.underlying99
 a37:=Tryz.isAgg99
 z37:=Tryz.sizeOf99
 v37:=Tryz.zeroValue99
 t46:=Tryz.underlying228
 a46:=Tryz.isAgg228
 z46:=Tryz.sizeOf228
 v46:=Tryz.zeroValue228
 t51:=Tryz.underlying192
 a51:=Tryz.isAgg192
 z51:=Tryz.sizeOf192
 v51:=Tryz.zeroValue192
 t53:=Tryz.underlying147
 a53:=Tryz.isAgg147
 z53:=Tryz.sizeOf147
 v53:=Tryz.zeroValue147
 t75:=Tryz.underlying103
 a75:=Tryz.isAgg103
 z75:=Tryz.sizeOf103
 v75:=Tryz.zeroValue103
 t76:=Tryz.underlying104
 a76:=Tryz.isAgg104
 z76:=Tryz.sizeOf104
 v76:=Tryz.zeroValue104
 t85:=Tryz.underlying300
 a85:=Tryz.isAgg300
 z85:=Tryz.sizeOf300
 v85:=Tryz.zeroValue300
 t127:=Tryz.underlying157
 a127:=Tryz.isAgg157
 z127:=Tryz.sizeOf157
 v127:=Tryz.zeroValue157
 t143:=Tryz.underlying320
 a143:=Tryz.isAgg320
 z143:=Tryz.sizeOf320
 v143:=Tryz.zeroValue320
 t145:=Tryz.underlying322
 a145:=Tryz.isAgg322
 z145:=Tryz.sizeOf322
 v145:=Tryz.zeroValue322
 t167:=Tryz.underlying299
 a167:=Tryz.isAgg299
 z167:=Tryz.sizeOf299
 v167:=Tryz.zeroValue299
 t168:=Tryz.underlying302
 a168:=Tryz.isAgg302
 z168:=Tryz.sizeOf302
 v168:=Tryz.zeroValue302
 t171:=Tryz.underlying278
 a171:=Tryz.isAgg278
 z171:=Tryz.sizeOf278
 v171:=Tryz.zeroValue278
 t173:=Tryz.underlying281
 a173:=Tryz.isAgg281
 z173:=Tryz.sizeOf281
 v173:=Tryz.zeroValue281
 t175:=Tryz.underlying287
 a175:=Tryz.isAgg287
 z175:=Tryz.sizeOf287
 v175:=Tryz.zeroValue287
 t210:=Tryz.underlying316
 a210:=Tryz.isAgg316
 z210:=Tryz.sizeOf316
 v210:=Tryz.zeroValue316
 t212:=Tryz.underlying295
 a212:=Tryz.isAgg295
 z212:=Tryz.sizeOf295
 v212:=Tryz.zeroValue295
 t213:=Tryz.underlying296
 a213:=Tryz.isAgg296
 z213:=Tryz.sizeOf296
 t232:=Tryz.underlying318
 a232:=Tryz.isAgg318
 z232:=Tryz.sizeOf318
 v232:=Tryz.zeroValue318
 t233:=Tryz.underlying319
 a233:=Tryz.isAgg319
 z233:=Tryz.sizeOf319
 v233:=Tryz.zeroValue319
 g15:=by kernel_rfl
 g16:=by kernel_rfl
 g17:=by kernel_rfl
 g18:=by kernel_rfl
 g19:=by kernel_rfl
 t80:=Tryz.underlying109
 a80:=Tryz.isAgg109
 z80:=Tryz.sizeOf109
 v80:=Tryz.zeroValue109
 i0:=by kernel_rfl
 i2:=by kernel_rfl
 i3:=by kernel_rfl
 i4:=by kernel_rfl
 i5:=by kernel_rfl
 i9:=by kernel_rfl
 i20:=by kernel_rfl
 i21:=by kernel_rfl
 i37:=by kernel_rfl
 i46:=by kernel_rfl
 i51:=by kernel_rfl
 i53:=by kernel_rfl
 i75:=by kernel_rfl
 i76:=by kernel_rfl
 i80:=by kernel_rfl
 i85:=by kernel_rfl
 i127:=by kernel_rfl
 i143:=by kernel_rfl
 i145:=by kernel_rfl
 i167:=by kernel_rfl
 i168:=by kernel_rfl
 i171:=by kernel_rfl
 i173:=by kernel_rfl
 i175:=by kernel_rfl
 i210:=by kernel_rfl
 i212:=by kernel_rfl
 i232:=by kernel_rfl
 i233:=by kernel_rfl
 m15:=by kernel_rfl
 m16:=by kernel_rfl
 m17:=by kernel_rfl
 m18:=by kernel_rfl
 m19:=by kernel_rfl
 c0:=by kernel_rfl
 c2:=by kernel_rfl
 c3:=by kernel_rfl
 c4:=by kernel_rfl
 c5:=by kernel_rfl
 c9:=by kernel_rfl
 c20:=by kernel_rfl
 c21:=by kernel_rfl
 c37:=by kernel_rfl
 c46:=by kernel_rfl
 c51:=by kernel_rfl
 c53:=by kernel_rfl
 c75:=by kernel_rfl
 c76:=by kernel_rfl
 c80:=by kernel_rfl
 c85:=by kernel_rfl
 c127:=by kernel_rfl
 c143:=by kernel_rfl
 c145:=by kernel_rfl
 c167:=by kernel_rfl
 c168:=by kernel_rfl
 c171:=by kernel_rfl
 c173:=by kernel_rfl
 c175:=by kernel_rfl
 c210:=by kernel_rfl
 c212:=by kernel_rfl
 c213:=by kernel_rfl
 c232:=by kernel_rfl
 c233:=by kernel_rfl }
end
section
open Go.Lib
def ten:List UInt8:=[48,49,50,51,52,53,54,55,56,57]
theorem N1 (c:UInt8):ten.contains c=eG c:=by
 rw[Bool.eq_iff_iff,eO,ai2];unfold ten;simp only[ah9,List.not_mem_nil,or_false,<-UInt8.toNat_inj,UInt8.reduceToNat];omega
theorem N2 (l:List UInt8):trimLeftS l ten=l.dropWhile eG:=by
 unfold trimLeftS
 congr 1
 funext c
 exact N1 c
theorem sM:∀(l:List UInt8) (acc:Nat),cL l=true->acc<18446744073709551616->
  parseUint10 acc l=if acc*10^l.length+aP l<18446744073709551616 then .ok (acc*10^l.length+aP l)else .range
 |[],acc,_,h=>by
  have e:acc*10^([]:List UInt8).length+aP []=acc:=by simp[Gy]
  rw[e,if_pos h];rfl
 |c::r,acc,hd,h=>by
  rw[dI,Bool.and_eq_true]at hd;have hc:=eO.1 hd.1
  have e:acc*10^(c::r).length+aP (c::r)=(acc*10+(c.toNat-48))*10^r.length+aP r:=by
   rw[gW,List.length_cons,Nat.pow_succ];grind
  have hp:1<=10^r.length:=Nat.one_le_pow _ _ (by omega);have hle:acc*10+(c.toNat-48)<=(acc*10+(c.toNat-48))*10^r.length:=Nat.le_mul_of_pos_right _ (by omega);rw[e];simp only[parseUint10];rw[if_pos hc];by_cases h1:1844674407370955162<=acc
  ·rw[if_pos h1,if_neg (by omega)]
  ·rw[if_neg h1];by_cases h2:18446744073709551616<=acc*10+(c.toNat-48)
   ·rw[if_pos h2,if_neg (by omega)]
   ·rw[if_neg h2,sM r _ hd.2 (by omega)]
theorem uA {l:List UInt8} (h:cL l=true) (h0:l≠[]):atoiAll l=if aP l<9223372036854775808 then .ok (aP l:Int)else .range:=by
 cases l with
 |nil=>exact absurd rfl h0
 |cons c r=>
  have hc:=h;rw[dI,Bool.and_eq_true]at hc;have hc:=eO.1 hc.1;unfold atoiAll;simp only;rw[if_neg (by omega)];unfold parseMag;rw[if_neg (by simp),sM _ 0 h (by omega),Nat.zero_mul,Nat.zero_add];by_cases h1:aP (c::r)<9223372036854775808
  ·rw[if_pos (show aP (c::r)<18446744073709551616 by omega),if_pos h1];simp only;rw[if_neg (by omega),if_neg (by omega),if_neg (by omega)]
  ·rw[if_neg h1];by_cases h2:aP (c::r)<18446744073709551616
   ·rw[if_pos h2];simp only;rw[if_pos (by omega)]
   ·rw[if_neg h2]
def tC (t:ai):List (List UInt8):=(if decDigits t.1.natAbs≠[49]∨t.2=[]then[decDigits t.1.natAbs]else[])++t.2.map iB
theorem rB:∀(ms:List (Int×Int)) (x:List UInt8),[42].intercalate (x::ms.map iB)=x++nY ms
 |[],x=>by simp[ai3,nY]
 |w::r,x=>by
  have ih:=rB r (iB w);simp only[ai3,ai4]at ih ⊢;rw[List.intersperse_cons_cons,ai5,ai5,ih];simp[nY]
theorem xu {n:Nat}:decDigits n=[49]↔n=1:=⟨λh=>RH (h.trans pC.symm),λh=>by rw[h,pC]⟩
theorem CQ (t:ai):[42].intercalate (tC t)=gR t:=by
 obtain⟨c,m⟩:=t;unfold tC;cases m with
 |nil=>simp[ai3,gR]
 |cons w r=>
  by_cases h:c.natAbs=1
  ·rw[if_neg (by simp[xu,h])];simp only[List.nil_append,ai4];rw[rB];simp[gR,h]
  ·rw[if_pos (.inl (by simp[xu,h]))];rw[List.singleton_append,rB];simp[gR,h,nY]
end
section
open Go.RowKit Go.Sort Go.Lib
theorem rZ (s p:ByteArray) (w:ah5):
  Calls Tryz.prog 165 #[.string s,.string p] w (cr (.bool (hasPrefix s.data.toList p.data.toList)) w):=
 (Any.strings_HasPrefix Tryz.Vd s p w).mono λ_ _ h=>⟨h.1,h.2▸Below.refl _ _⟩
theorem M9 (s p:ByteArray) (w:ah5):
  Calls Tryz.prog 164 #[.string s,.string p] w (cr (.tuple #[.string ⟨(trimPrefix s.data.toList p.data.toList).toArray⟩,.bool (hasPrefix s.data.toList p.data.toList)]) w):=
 (xv s p w).mono λ_ _ h=>⟨h.1,h.2▸Below.refl _ _⟩
theorem zl (s:ByteArray) (w:ah5):
  Calls Tryz.prog 204 #[.string s,.string ⟨#[48,49,50,51,52,53,54,55,56,57]⟩] w (cr (.string ⟨(s.data.toList.dropWhile eG).toArray⟩) w):=by
 have h:=Any.strings_TrimLeft_laid Tryz.RI (by kernel_rfl) s ⟨#[48,49,50,51,52,53,54,55,56,57]⟩ w (by decide) (λj b hb=>by
  have hm:b∈ten:=List.mem_of_getElem? hb;have hd:eG b=true:=by rw[<-N1,ai2];exact hm
  have:=eO.1 hd;omega)
 refine h.mono λe w' h=>⟨?_,h.2⟩
 rw[h.1,<-N2];rfl
theorem JC (bk c:Nat) (xs:List ByteArray) (w:ah5) (hcells:∀(j:Nat) x,xs[j]? =some x->w.cell? ⟨bk,j,none⟩=some (.string x)) (hbk:bk<w.heap.size) (hN:xs.length<=1000) (hcap:xs.length<=c)
  (hlen:(([42]:List UInt8).intercalate (xs.map (·.data.toList))).length<=1000000):
  Calls Tryz.prog 60 #[.slice (some ⟨bk,0,none⟩) xs.length c,.string ⟨#[42]⟩] w (cr (.string ⟨(([42]:List UInt8).intercalate (xs.map (·.data.toList))).toArray⟩) w):=
 (Any.strings_Join Tryz.RJ Tryz.yI bk 0 c xs ⟨#[42]⟩ w (λj x h=>by rw[Nat.zero_add];exact hcells j x h) hbk (by omega) hcap (Nat.le_trans hlen (by omega))).mono λ_ _ h=>h
theorem QT (s:ByteArray) (w:ah5) (hs:s.size<=1000000) (h:cL s.data.toList=true) (h0:s.data.toList≠[]) (hn:aP s.data.toList<9223372036854775808):
  Calls Tryz.prog 233 #[.string s] w (cr (.tuple #[.int .i64 (aP s.data.toList:Int),.nilIface]) w):=
 (Any.strconv_Atoi_ok Tryz.C7 s (by omega) _ (by rw[uA h h0,if_pos hn]) w).mono λ_ w' h=>⟨h.1,by
  rcases h.2 with h|⟨t,h⟩
  ·exact h▸Below.refl _ _
  ·exact h▸Lib.bytesWorld_below _ _ _⟩
theorem KE {w : ah5} (h : vS w) : Lib.TabIs Tryz.prog w "internal/strconv.uint64pow10" .u64 Lib.pow10Tab := by
 have e : ((Tryz.progGlobals[2]?.map (·.name)).getD default) = "internal/strconv.uint64pow10" := by kernel_rfl
 unfold vS at h;rwa[e]at h
theorem N3 (n:Int) (h0:0<=n) (h1:n<9223372036854775808) (w:ah5) (ht:vS w):
  Calls Tryz.prog 163 #[.int .i64 n] w (cr (.string ⟨(decDigits n.toNat).toArray⟩) w):=
 (Any.strconv_Itoa Tryz.N0 n (by omega) (by omega) w (KE ht)).mono λe w' h=>by
  obtain⟨he,k,os,hw⟩:=h;refine⟨?_,hw▸Lib.below_grow _ w (Nat.le_refl _) k os⟩;rw[he,mF h0,show n.natAbs=n.toNat by omega]
end
section
open Lib (hid)
open Go.RowKit
theorem BC (n:Int) (h0:0<=n) (h1:n<9223372036854775808) {u:ByteArray} (w:ah5) (ht:vS w) (hu:u=⟨(ah6 n.toNat).toArray⟩):
  Calls Tryz.prog 163 #[.int .i64 n] w (cr (.string u) w):=by subst hu;exact N3 n h0 h1 w ht
theorem mE {n:Int} (h0:0<=n) (h1:n<=10000):(ah6 n.toNat).length<=5:=by
 rw[Lib.decDigits_length];exact nJ 4 _ (by omega)
theorem KF {v:Int} {w:ah5} (ht:vS w) (hv:0<=v/\ v<=200):
  Calls Tryz.prog 109 #[.agg #[.int .i64 v,.int .i64 1]] w (cr (.string ⟨(iB (v,1)).toArray⟩) w):=by
 have HT:=hid ht;obtain⟨u,hu⟩:∃u:ByteArray,u=⟨(ah6 v.toNat).toArray⟩:=⟨_,rfl⟩;obtain⟨t,ht2⟩:∃t:ByteArray,t=⟨(120::ah6 v.toNat).toArray⟩:=⟨_,rfl⟩;have l1:=mE hv.1 (show v<=10000 by omega);have YY:∀W:ah5,(ah7 .add ⟨#[120]⟩ u).run Tryz.prog W= .ok (.string t) W:=λW=>by rw[hu,ht2];exact pU W [120] _ (by simp;omega)
 have HU:=hid hu;have V0:Hid (0<=v/\ v<9223372036854775808):=⟨hv.1,by omega⟩;have HZ:Hid (t=⟨(iB (v,1)).toArray⟩):=by rw[Hid,ht2];simp[iB]
 clear hu ht2 l1 hv ht;go_enter Tryz.func109,Tryz.ntmps109;have S0:=hid (Sx.start (w:=w) (N:=[]) trivial);have S1:=hid (S0.o.var w.heap.size [.int .i64 v,.int .i64 1] 72 (by simp));clear S0;go_upto_region 1 with(fail)
 refine aj (λw1 hW=>?_);rw[<-hW]at S1;clear hW;obtain⟨cM,cN⟩:=S1.o.b.c2;go_wp2_with fail;clear cM cN;refine(BC v V0.o.1 V0.o.2 _ (HT.o.below S1.o.h) HU.o).mono ?_;rintro e w2 ⟨rfl,hB⟩;have S2:=hid ((S1.o.step hB));clear S1 hB;obtain⟨cM,cN⟩:=S2.o.b.c2;go_wp2_with fail;go_ret;exact⟨by rw[<-HZ.o];rfl,S2.o.h⟩
theorem Gz {v e:Int} {w:ah5} (ht:vS w) (hv:0<=v/\ v<=200) (he:0<=e/\ e<=10000) (h1:e≠1):
  Calls Tryz.prog 109 #[.agg #[.int .i64 v,.int .i64 e]] w (cr (.string ⟨(iB (v,e)).toArray⟩) w):=by
 have HT:=hid ht;obtain⟨u,hu⟩:∃u:ByteArray,u=⟨(ah6 v.toNat).toArray⟩:=⟨_,rfl⟩;obtain⟨t,ht2⟩:∃t:ByteArray,t=⟨(120::ah6 v.toNat).toArray⟩:=⟨_,rfl⟩;have l1:=mE hv.1 (show v<=10000 by omega);have YY:∀W:ah5,(ah7 .add ⟨#[120]⟩ u).run Tryz.prog W= .ok (.string t) W:=λW=>by rw[hu,ht2];exact pU W [120] _ (by simp;omega)
 have HU:=hid hu;have V0:Hid (0<=v/\ v<9223372036854775808):=⟨hv.1,by omega⟩;obtain⟨z,hz⟩:∃z:ByteArray,z=⟨(ah6 e.toNat).toArray⟩:=⟨_,rfl⟩;obtain⟨y,hy⟩:∃y:ByteArray,y=⟨(120::ah6 v.toNat++[94]).toArray⟩:=⟨_,rfl⟩;obtain⟨x,hx⟩:∃x:ByteArray,x=⟨(120::ah6 v.toNat++[94]++ah6 e.toNat).toArray⟩:=⟨_,rfl⟩;have l2:=mE he.1 he.2;have ae9:∀W:ah5,(ah7 .add t ⟨#[94]⟩).run Tryz.prog W= .ok (.string y) W:=λW=>by rw[ht2,hy];exact pU W _ [94] (by simp;omega)
 have af0:∀W:ah5,(ah7 .add y z).run Tryz.prog W= .ok (.string x) W:=λW=>by rw[hz,hy,hx];exact pU W _ _ (by simp;omega)
 have HZ:Hid (x=⟨(iB (v,e)).toArray⟩):=by rw[Hid,hx];simp[iB,h1]
 have HW:=hid hz;have E0:Hid (0<=e/\ e<9223372036854775808):=⟨he.1,by omega⟩;clear hu ht2 l1 hv ht hz hy hx l2 he;go_enter Tryz.func109,Tryz.ntmps109;have S0:=hid (Sx.start (w:=w) (N:=[]) trivial);have S1:=hid (S0.o.var w.heap.size [.int .i64 v,.int .i64 e] 72 (by simp));clear S0;go_upto_region 1 with(fail)
 refine aj (λw1 hW=>?_);rw[<-hW]at S1;clear hW;obtain⟨cM,cN⟩:=S1.o.b.c2;go_wp2_with fail;clear cM cN;refine(BC v V0.o.1 V0.o.2 _ (HT.o.below S1.o.h) HU.o).mono ?_;rintro e w2 ⟨rfl,hB⟩;have S2:=hid ((S1.o.step hB));clear S1 hB;obtain⟨cM,cN⟩:=S2.o.b.c2;go_wp2_with fail;clear cM cN;refine(BC e E0.o.1 E0.o.2 _ (HT.o.below S2.o.h) HW.o).mono ?_;rintro e w3 ⟨rfl,hB⟩;have S3:=hid ((S2.o.step hB));clear S2 hB;go_wp2_with fail;go_ret;exact⟨by rw[<-HZ.o];rfl,S3.o.h⟩
theorem Fl {v e:Int} {w:ah5} (ht:vS w) (hv:0<=v/\ v<=200) (he:0<=e/\ e<=10000):
  Calls Tryz.prog 109 #[.agg #[.int .i64 v,.int .i64 e]] w (cr (.string ⟨(iB (v,e)).toArray⟩) w):=by
 by_cases h:e=1
 ·subst h;exact KF ht hv
 ·exact Gz ht hv he h
end
end Go.Proofs.YtmenbpmciblnlaaGreatDoor

/- VTx, VTxShelf, VTxP, VTxLib, VTxPow -/
import Derived.Test.YtmenbpmciblnlaaGreatDoorGPp
import Derived.Test.YtmenbpmciblnlaaGreatDoorGTxtA
import Derived.Shelf.Strings.SlTrimAscii
import Derived.Shelf.Strings.OnBuilder
import Derived.Shelf.Strconv.Itoa3
import Derived.Shelf.Strconv.AtoiAll
import Derived.Test.YtmenbpmciblnlaaGreatDoorEn
set_option maxHeartbeats 0
set_option maxRecDepth 100000
open Go.Lib renaming decDigits->a0a
open Go.Shelf renaming Ren->a0b
open List renaming contains_iff_mem->a0f,flatten_cons->a0i,intercalate->a0g,map_cons->a0h,mem_cons->a0c,mem_cons_of_mem->a0d,mem_cons_self->a0e
open Option renaming bind_eq_some_iff->a0j
/- The texts of polynomials, in plain words: the text, a reader that gives up, and that each undoes the other. -/
namespace Go.Proofs.YtmenbpmciblnlaaGreatDoor
section
open Go.Lib
def jY (w:Int×Int):List UInt8:=120::(decDigits w.1.toNat++if w.2=1 then[]else 94::decDigits w.2.toNat)
def qQ:List (Int×Int)->List UInt8
 |[]=>[]
 |w::r=>42::(jY w++qQ r)
def jv (t:Term):List UInt8:=
 match t.2 with
 |[]=>decDigits t.1.natAbs
 |w::r=>(if t.1.natAbs=1 then[]else decDigits t.1.natAbs++[42])++(jY w++qQ r)
def Ak:List Term->List UInt8
 |[]=>[]
 |t::r=>(if t.1<0 then 45 else 43)::(jv t++Ak r)
def vO:List Term->List UInt8
 |[]=>[48]
 |t::r=>(if t.1<0 then[45]else[])++(jv t++Ak r)
def takeB (c:UInt8) (l:List UInt8):Option (List UInt8):=if l.head? =some c then some l.tail else none
def mZ (l:List UInt8):Option (List UInt8×List UInt8):=
 if l.takeWhile fJ=[]∨(l.takeWhile fJ≠[48]/\ (l.takeWhile fJ).head? =some 48)then none else some (l.takeWhile fJ,l.dropWhile fJ)
def gm (l:List UInt8):Option (Int×List UInt8):=
 (mZ l).bind λa=>if aR a.1<9223372036854775808 then some ((aR a.1:Int),a.2)else none
def pu (l:List UInt8):Option ((Int×Int)×List UInt8):=
 (takeB 120 l).bind λl1=>(gm l1).bind λa=>
  match takeB 94 a.2 with
  |none=>some ((a.1,1),a.2)
  |some l2=>(gm l2).bind λb=>if b.1=1 then none else some ((a.1,b.1),b.2)
def kF:Nat->List UInt8->Option (List (Int×Int)×List UInt8)
 |0,_=>none
 |n+1,l=>
  match takeB 42 l with
  |none=>some ([],l)
  |some l1=>(pu l1).bind λa=>(kF n a.2).bind λb=>some (a.1::b.1,b.2)
def l7 (n:Nat) (l:List UInt8):Option (List (Int×Int)×List UInt8):=
 (pu l).bind λa=>(kF n a.2).bind λb=>some (a.1::b.1,b.2)
def jf (n:Nat) (l:List UInt8):Option (Term×List UInt8):=
 if l.head? =some 120 then(l7 n l).bind λa=>some ((1,a.1),a.2)
 else(mZ l).bind λa=>
  match takeB 42 a.2 with
  |none=>some (((aR a.1:Int),[]),a.2)
  |some l1=>if a.1=[49]then none else(l7 n l1).bind λb=>some (((aR a.1:Int),b.1),b.2)
def jI (b:Bool) (t:Term):Term:=if b=true then(-t.1,t.2)else t
def iI (m:Nat):Nat->List UInt8->Option (List Term)
 |0,l=>if l=[]then some []else none
 |n+1,l=>
  if l=[]then some []else
  match takeB 45 l with
  |some l1=>(jf m l1).bind λa=>(iI m n a.2).bind λb=>some (jI true a.1::b)
  |none=>
   match takeB 43 l with
   |some l1=>(jf m l1).bind λa=>(iI m n a.2).bind λb=>some (a.1::b)
   |none=>none
def ni (m n:Nat) (l:List UInt8):Option (List Term):=
 match takeB 45 l with
 |some l1=>(jf m l1).bind λa=>(iI m n a.2).bind λb=>some (jI true a.1::b)
 |none=>(jf m l).bind λa=>(iI m n a.2).bind λb=>some (a.1::b)
theorem eY {c:UInt8} {l r:List UInt8} (h:takeB c l=some r):l=c::r:=by
 unfold takeB at h;split at h
 ·rename_i hh;cases l with
  |nil=>simp at hh
  |cons a l=>simp at hh h;rw[hh,h]
 ·cases h
theorem J5 {c:UInt8} {l:List UInt8}:takeB c l=none↔l.head? ≠some c:=by
 unfold takeB;split
 ·rename_i h;simp[h]
 ·rename_i h;simp[h]
theorem CJ {l:List UInt8}:dJ (l.takeWhile fJ)=true:=by
 induction l with
 |nil=>rfl
 |cons a l ih=>
  by_cases h:fJ a=true
  ·rw[List.takeWhile_cons_of_pos h,eZ,h,ih];rfl
  ·rw[List.takeWhile_cons_of_neg h];rfl
theorem gU {l d r:List UInt8} (h:mZ l=some (d,r)):l=d++r/\ decDigits (aR d)=d/\ d≠[]:=by
 unfold mZ at h;split at h
 ·cases h
 ·rename_i hh;injection h with h
  injection h with h1 h2
  subst h1 h2;have hn:l.takeWhile fJ≠[]:=λe=>hh (.inl e)
  refine⟨List.takeWhile_append_dropWhile.symm,?_,hn⟩;refine uG ((l.takeWhile fJ).length-1) _ (by have:=List.length_pos_iff.2 hn;omega) CJ ?_;by_cases h0:(l.takeWhile fJ).head? =some 48
  ·have:l.takeWhile fJ=[48]:=Classical.byContradiction λe=>hh (.inr ⟨e,h0⟩)
   rw[this];exact .inr rfl
  ·exact .inl h0
theorem oK {l r:List UInt8} {n:Int} (h:gm l=some (n,r)):l=decDigits n.toNat++r/\ 0<=n/\ n<9223372036854775808:=by
 unfold gm at h;obtain⟨a,ha,h⟩:=a0j.1 h;obtain⟨h1,h2,_⟩:=gU ha;split at h
 ·rename_i hh;injection h with h
  injection h with h3 h4
  subst h3 h4;rw[Int.toNat_natCast,h2];exact⟨h1,by omega,by omega⟩
 ·cases h
def Sm (w:Int×Int):Prop:=0<=w.1/\ w.1<9223372036854775808/\ 0<=w.2/\ w.2<9223372036854775808
theorem oh {l r:List UInt8} {w:Int×Int} (h:pu l=some (w,r)):l=jY w++r/\ Sm w:=by
 unfold pu at h;obtain⟨l1,h0,h⟩:=a0j.1 h;obtain⟨a,ha,h⟩:=a0j.1 h;have e0:=eY h0;obtain⟨e1,g1,g2⟩:=oK ha;split at h
 ·injection h with h
  injection h with h3 h4
  subst h3 h4;refine⟨?_,g1,g2,(by decide:(0:Int)<=1),(by decide:(1:Int)<9223372036854775808)⟩;rw[e0,e1];simp[jY]
 ·rename_i l2 hl;obtain⟨b,hb,h⟩:=a0j.1 h;obtain⟨e2,g3,g4⟩:=oK hb;split at h
  ·cases h
  ·rename_i hne;injection h with h
   injection h with h3 h4
   subst h3 h4;refine⟨?_,g1,g2,g3,g4⟩;rw[e0,e1,eY hl,e2];simp[jY,hne]
theorem wQ:∀(n:Nat) {l r:List UInt8} {ms:List (Int×Int)},kF n l=some (ms,r)->l=qQ ms++r/\∀w∈ms,Sm w
 |0,_,_,_,h=>by cases h
 |n+1,l,r,ms,h=>by
  unfold kF at h;split at h
  ·injection h with h
   injection h with h1 h2
   subst h1 h2;exact⟨rfl,λw hw=>by simp at hw⟩
  ·rename_i l1 hl;obtain⟨a,ha,h⟩:=a0j.1 h;obtain⟨b,hb,h⟩:=a0j.1 h;injection h with h
   injection h with h1 h2
   subst h1 h2;obtain⟨e1,g1⟩:=oh ha;obtain⟨e2,g2⟩:=wQ n hb;refine⟨?_,λw hw=>?_⟩
   ·rw[eY hl,e1,e2];simp[qQ]
   ·rcases a0c.1 hw with hw|hw
    ·rw[hw];exact g1
    ·exact g2 w hw
theorem wR {n:Nat} {l r:List UInt8} {ms:List (Int×Int)} (h:l7 n l=some (ms,r)):∃w x,ms=w::x/\ l=jY w++qQ x++r/\∀w∈ms,Sm w:=by
 unfold l7 at h;obtain⟨a,ha,h⟩:=a0j.1 h;obtain⟨b,hb,h⟩:=a0j.1 h;injection h with h
 injection h with h1 h2
 subst h1 h2;obtain⟨e1,g1⟩:=oh ha;obtain⟨e2,g2⟩:=wQ n hb;refine⟨a.1,b.1,rfl,?_,λw hw=>?_⟩
 ·rw[e1,e2,List.append_assoc]
 ·rcases a0c.1 hw with hw|hw
  ·rw[hw];exact g1
  ·exact g2 w hw
theorem su:decDigits 1=[49]:=decDigits_one (by omega)
theorem jE {n:Nat} {l r:List UInt8} {t:Term} (h:jf n l=some (t,r)):l=jv t++r/\ 0<=t.1/\∀w∈t.2,Sm w:=by
 unfold jf at h;split at h
 ·obtain⟨a,ha,h⟩:=a0j.1 h;injection h with h
  injection h with h1 h2
  subst h1 h2;obtain⟨w,x,e,e1,g⟩:=wR ha;refine⟨?_,(by decide:(0:Int)<=1),g⟩;rw[e1];simp[jv,e]
 ·obtain⟨a,ha,h⟩:=a0j.1 h;obtain⟨e1,e2,e3⟩:=gU ha;split at h
  ·injection h with h
   injection h with h1 h2
   subst h1 h2;refine⟨?_,by simp,λw hw=>by simp at hw⟩;rw[e1];simp[jv,e2]
  ·rename_i l1 hl;split at h
   ·cases h
   ·rename_i hne;obtain⟨b,hb,h⟩:=a0j.1 h;injection h with h
    injection h with h1 h2
    subst h1 h2;obtain⟨w,x,e,e4,g⟩:=wR hb;refine⟨?_,by simp,g⟩;have hv:aR a.1≠1:=λhv=>hne (by rw[<-e2,hv,su])
    rw[e1,eY hl,e4];simp[jv,e,e2,hv]
theorem DY (t:Term):jv (-t.1,t.2)=jv t:=by unfold jv;simp
theorem Io {t:Term} (h:0<=t.1) (hn:(jI true t).1≠0):(jI true t).1<0:=by
 simp only[jI]at hn ⊢;simp only[if_true]at hn ⊢;omega
theorem mH (m:Nat):∀(n:Nat) {l:List UInt8} {p:List Term},iI m n l=some p->(∀t∈p,t.1≠0)->l=Ak p
 |0,l,p,h,_=>by
  unfold iI at h;split at h
  ·rename_i hl;injection h with h;subst h hl;rfl
  ·cases h
 |n+1,l,p,h,hp=>by
  unfold iI at h;split at h
  ·rename_i hl;injection h with h;subst h hl;rfl
  ·split at h
   ·rename_i l1 hl;obtain⟨a,ha,h⟩:=a0j.1 h;obtain⟨b,hb,h⟩:=a0j.1 h;injection h with h
    subst h;obtain⟨e1,g1,_⟩:=jE ha;have e2:=mH m n hb (λt ht=>hp t (a0d _ ht));have g2:=Io g1 (hp _ (a0e ..));rw[eY hl,e1,e2];simp only[Ak,if_pos g2];simp[jI,DY]
   ·split at h
    ·rename_i l1 hl;obtain⟨a,ha,h⟩:=a0j.1 h;obtain⟨b,hb,h⟩:=a0j.1 h;injection h with h
     subst h;obtain⟨e1,g1,_⟩:=jE ha;have e2:=mH m n hb (λt ht=>hp t (a0d _ ht));rw[eY hl,e1,e2];simp only[Ak,if_neg (show¬a.1.1<0 by omega)]
    ·cases h
theorem Ew {m n:Nat} {l:List UInt8} {p:List Term} (h:ni m n l=some p) (hp:∀t∈p,t.1≠0):l=vO p:=by
 unfold ni at h;split at h
 ·rename_i l1 hl;obtain⟨a,ha,h⟩:=a0j.1 h;obtain⟨b,hb,h⟩:=a0j.1 h;injection h with h
  subst h;obtain⟨e1,g1,_⟩:=jE ha;have e2:=mH m n hb (λt ht=>hp t (a0d _ ht));have g2:=Io g1 (hp _ (a0e ..));rw[eY hl,e1,e2];simp only[vO,if_pos g2];simp[jI,DY]
 ·obtain⟨a,ha,h⟩:=a0j.1 h;obtain⟨b,hb,h⟩:=a0j.1 h;injection h with h
  subst h;obtain⟨e1,g1,_⟩:=jE ha;have e2:=mH m n hb (λt ht=>hp t (a0d _ ht));rw[e1,e2];simp only[vO,if_neg (show¬a.1.1<0 by omega)];simp
def Sd (r:List UInt8):Prop:=∀c,r.head? =some c->c=42∨c=43∨c=45
def VD (r:List UInt8):Prop:=∀c,r.head? =some c->c=43∨c=45
theorem VD.p {r:List UInt8} (h:VD r):Sd r:=λc hc=> .inr (h c hc)
def ae8 (r:List UInt8):Prop:=∀c,r.head? =some c->fJ c=false
theorem Sd.no {r:List UInt8} (h:Sd r):ae8 r:=λc hc=>by
 rcases h c hc with h|h|h<;>subst h<;>decide
theorem Sd.ne {r:List UInt8} (h:Sd r):r.head? ≠some 94:=λhc=>by
 rcases h _ hc with h|h|h<;>revert h<;>decide
theorem VD.ne {r:List UInt8} (h:VD r):r.head? ≠some 42:=λhc=>by
 rcases h _ hc with h|h<;>revert h<;>decide
theorem VE {n k:Nat} (h:decDigits n=decDigits k):n=k:=by rw[<-Me n,h,Me]
end
/- What the shelf's contracts of strings.TrimLeft, HasPrefix, Join, of strconv's Itoa and Atoi ask of this program. -/
section
open Go.Shelf
def Tryz.Ip:a0b:=⟨λ|119=>277|137=>276|151=>248|152=>265|161=>204|197=>247|217=>285|224=>278|225=>279|227=>227|228=>246|231=>226|233=>228|235=>229|260=>264|266=>286|n=>n,λ|0=>0|3=>3|4=>4|5=>5|9=>9|21=>21|46=>228|105=>284|116=>265|117=>266|119=>306|124=>269|138=>308|139=>309|n=>n,λ|3=>3|4=>4|n=>n⟩
theorem Tryz.VF:Go.Proofs.Lays.n161 Tryz.prog Tryz.Ip:={
 mixed:=by kernel_rfl
 f119:=Tryz.func277.trans (congrArg some (by kernel_rfl))
 f137:=Tryz.func276.trans (congrArg some (by kernel_rfl))
 f151:=Tryz.func248.trans (congrArg some (by kernel_rfl))
 f152:=Tryz.func265.trans (congrArg some (by kernel_rfl))
 f161:=Tryz.func204.trans (congrArg some (by kernel_rfl))
 f197:=Tryz.func247.trans (congrArg some (by kernel_rfl))
 f217:=Tryz.func285.trans (congrArg some (by kernel_rfl))
 f224:=Tryz.func278.trans (congrArg some (by kernel_rfl))
 f225:=Tryz.func279.trans (congrArg some (by kernel_rfl))
 f227:=Tryz.func227.trans (congrArg some (by kernel_rfl))
 f228:=Tryz.func246.trans (congrArg some (by kernel_rfl))
 f231:=Tryz.func226.trans (congrArg some (by kernel_rfl))
 f233:=Tryz.func228.trans (congrArg some (by kernel_rfl))
 f235:=Tryz.func229.trans (congrArg some (by kernel_rfl))
 f260:=Tryz.func264.trans (congrArg some (by kernel_rfl))
 f266:=Tryz.func286.trans (congrArg some (by kernel_rfl))
 t0:=Tryz.underlying0
 a0:=Tryz.isAgg0
 z0:=Tryz.sizeOf0
 v0:=Tryz.zeroValue0
 t3:=Tryz.underlying3
 a3:=Tryz.isAgg3
 z3:=Tryz.sizeOf3
 v3:=Tryz.zeroValue3
 t4:=Tryz.underlying4
 a4:=Tryz.isAgg4
 z4:=Tryz.sizeOf4
 v4:=Tryz.zeroValue4
 t5:=Tryz.underlying5
 a5:=Tryz.isAgg5
 z5:=Tryz.sizeOf5
 v5:=Tryz.zeroValue5
 t9:=Tryz.underlying9
 a9:=Tryz.isAgg9
 z9:=Tryz.sizeOf9
 v9:=Tryz.zeroValue9
 t21:=Tryz.underlying21
 a21:=Tryz.isAgg21
 z21:=Tryz.sizeOf21
 v21:=Tryz.zeroValue21
 t46:=Tryz.underlying228
 a46:=Tryz.isAgg228
 z46:=Tryz.sizeOf228
 v46:=Tryz.zeroValue228
 t105:=Tryz.underlying284
 a105:=Tryz.isAgg284
 z105:=Tryz.sizeOf284
 v105:=Tryz.zeroValue284
 t116:=Tryz.underlying265
 a116:=Tryz.isAgg265
 z116:=Tryz.sizeOf265
 t117:=Tryz.underlying266
 a117:=Tryz.isAgg266
 z117:=Tryz.sizeOf266
 v117:=Tryz.zeroValue266
 t119:=Tryz.underlying306
 a119:=Tryz.isAgg306
 z119:=Tryz.sizeOf306
 t124:=Tryz.underlying269
 a124:=Tryz.isAgg269
 z124:=Tryz.sizeOf269
 v124:=Tryz.zeroValue269
 t138:=Tryz.underlying308
 a138:=Tryz.isAgg308
 z138:=Tryz.sizeOf308
 v138:=Tryz.zeroValue308
 t139:=Tryz.underlying309
 a139:=Tryz.isAgg309
 z139:=Tryz.sizeOf309
 v139:=Tryz.zeroValue309
 g3:=by kernel_rfl
 g4:=by kernel_rfl }
def Tryz.KI:a0b:=⟨λ|99=>165|206=>203|n=>n,λ|3=>3|4=>4|9=>9|n=>n,λn=>n⟩
theorem Tryz.YQ:Go.Proofs.Lays.n99 Tryz.prog Tryz.KI:={
 mixed:=by kernel_rfl
 f99:=Tryz.func165.trans (congrArg some (by kernel_rfl))
 f206:=Tryz.func203.trans (congrArg some (by kernel_rfl))
 t3:=Tryz.underlying3
 a3:=Tryz.isAgg3
 z3:=Tryz.sizeOf3
 v3:=Tryz.zeroValue3
 t4:=Tryz.underlying4
 a4:=Tryz.isAgg4
 z4:=Tryz.sizeOf4
 v4:=Tryz.zeroValue4
 t9:=Tryz.underlying9
 a9:=Tryz.isAgg9
 z9:=Tryz.sizeOf9
 v9:=Tryz.zeroValue9 }
def Tryz.yP:a0b:=⟨λ|156=>60|165=>107|166=>59|169=>62|240=>106|241=>159|276=>158|277=>197|n=>n,λ|0=>0|3=>3|4=>4|5=>5|9=>9|20=>20|31=>107|37=>99|70=>98|72=>101|75=>103|76=>104|80=>109|127=>157|164=>206|n=>n,λn=>n⟩
theorem Tryz.VG:Go.Proofs.Lays.n156 Tryz.prog Tryz.yP:={
 mixed:=by kernel_rfl
 f156:=Tryz.func60.trans (congrArg some (by kernel_rfl))
 f165:=Tryz.func107.trans (congrArg some (by kernel_rfl))
 f166:=Tryz.func59.trans (congrArg some (by kernel_rfl))
 f169:=Tryz.func62.trans (congrArg some (by kernel_rfl))
 f240:=Tryz.func106.trans (congrArg some (by kernel_rfl))
 f241:=Tryz.func159.trans (congrArg some (by kernel_rfl))
 f276:=Tryz.func158.trans (congrArg some (by kernel_rfl))
 f277:=Tryz.func197.trans (congrArg some (by kernel_rfl))
 t0:=Tryz.underlying0
 a0:=Tryz.isAgg0
 z0:=Tryz.sizeOf0
 v0:=Tryz.zeroValue0
 t3:=Tryz.underlying3
 a3:=Tryz.isAgg3
 z3:=Tryz.sizeOf3
 v3:=Tryz.zeroValue3
 t4:=Tryz.underlying4
 a4:=Tryz.isAgg4
 z4:=Tryz.sizeOf4
 v4:=Tryz.zeroValue4
 t9:=Tryz.underlying9
 a9:=Tryz.isAgg9
 z9:=Tryz.sizeOf9
 v9:=Tryz.zeroValue9
 t20:=Tryz.underlying20
 a20:=Tryz.isAgg20
 z20:=Tryz.sizeOf20
 v20:=Tryz.zeroValue20
 t31:=Tryz.underlying107
 a31:=Tryz.isAgg107
 z31:=Tryz.sizeOf107
 v31:=Tryz.zeroValue107
 t37:=Tryz.underlying99
 a37:=Tryz.isAgg99
 z37:=Tryz.sizeOf99
 v37:=Tryz.zeroValue99
 t70:=Tryz.underlying98
 a70:=Tryz.isAgg98
 z70:=Tryz.sizeOf98
 v70:=Tryz.zeroValue98
 t72:=Tryz.underlying101
 a72:=Tryz.isAgg101
 z72:=Tryz.sizeOf101
 v72:=Tryz.zeroValue101
 t75:=Tryz.underlying103
 a75:=Tryz.isAgg103
 z75:=Tryz.sizeOf103
 v75:=Tryz.zeroValue103
 t76:=Tryz.underlying104
 a76:=Tryz.isAgg104
 z76:=Tryz.sizeOf104
 v76:=Tryz.zeroValue104
 t127:=Tryz.underlying157
 a127:=Tryz.isAgg157
 z127:=Tryz.sizeOf157
 v127:=Tryz.zeroValue157
 t164:=Tryz.underlying206
 a164:=Tryz.isAgg206
 z164:=Tryz.sizeOf206
 v164:=Tryz.zeroValue206 }
theorem Tryz.CK:Builder.Extra Tryz.prog Tryz.yP:={
 sizeBuilder:=by kernel_rfl
 liesBuilder:=by kernel_rfl
 t5:=Tryz.underlying5
 a5:=Tryz.isAgg5
 z5:=Tryz.sizeOf5
 v5:=Tryz.zeroValue5
 infoByte:=by kernel_rfl
 cellsByte:=by kernel_rfl
 sizeByte:=by kernel_rfl
 neB5:=by decide }
def Tryz.FB:a0b:=⟨λ|129=>260|171=>163|243=>201|246=>225|283=>242|284=>243|285=>244|286=>245|317=>259|318=>261|319=>262|320=>263|337=>274|338=>275|n=>n,λ|0=>0|2=>2|3=>3|4=>4|5=>5|9=>9|20=>20|37=>99|46=>228|51=>192|53=>147|171=>278|173=>281|212=>295|213=>296|232=>318|233=>319|n=>n,λ|17=>2|18=>7|19=>8|n=>n⟩
theorem Tryz.Sg:Go.Proofs.LaysM.n171 Tryz.prog Tryz.FB:={
 mixed:=by kernel_rfl
 f129:=Tryz.func260.trans (congrArg some (by kernel_rfl))
 f171:=Tryz.func163.trans (congrArg some (by kernel_rfl))
 f243:=Tryz.func201.trans (congrArg some (by kernel_rfl))
 f246:=Tryz.func225.trans (congrArg some (by kernel_rfl))
 f283:=Tryz.func242.trans (congrArg some (by kernel_rfl))
 f284:=Tryz.func243.trans (congrArg some (by kernel_rfl))
 f285:=Tryz.func244.trans (congrArg some (by kernel_rfl))
 f286:=Tryz.func245.trans (congrArg some (by kernel_rfl))
 f317:=Tryz.func259.trans (congrArg some (by kernel_rfl))
 f318:=Tryz.func261.trans (congrArg some (by kernel_rfl))
 f319:=Tryz.func262.trans (congrArg some (by kernel_rfl))
 f320:=Tryz.func263.trans (congrArg some (by kernel_rfl))
 f337:=Tryz.func274.trans (congrArg some (by kernel_rfl))
 f338:=Tryz.func275.trans (congrArg some (by kernel_rfl))
 t0:=Tryz.underlying0
 a0:=Tryz.isAgg0
 z0:=Tryz.sizeOf0
 v0:=Tryz.zeroValue0
 t2:=Tryz.underlying2
 a2:=Tryz.isAgg2
 z2:=Tryz.sizeOf2
 v2:=Tryz.zeroValue2
 t3:=Tryz.underlying3
 a3:=Tryz.isAgg3
 z3:=Tryz.sizeOf3
 v3:=Tryz.zeroValue3
 t4:=Tryz.underlying4
 a4:=Tryz.isAgg4
 z4:=Tryz.sizeOf4
 v4:=Tryz.zeroValue4
 t5:=Tryz.underlying5
 a5:=Tryz.isAgg5
 z5:=Tryz.sizeOf5
 v5:=Tryz.zeroValue5
 t9:=Tryz.underlying9
 a9:=Tryz.isAgg9
 z9:=Tryz.sizeOf9
 v9:=Tryz.zeroValue9
 t20:=Tryz.underlying20
 a20:=Tryz.isAgg20
 z20:=Tryz.sizeOf20
 v20:=Tryz.zeroValue20
 t37:=Tryz.underlying99
 a37:=Tryz.isAgg99
 z37:=Tryz.sizeOf99
 v37:=Tryz.zeroValue99
 t46:=Tryz.underlying228
 a46:=Tryz.isAgg228
 z46:=Tryz.sizeOf228
 v46:=Tryz.zeroValue228
 t51:=Tryz.underlying192
 a51:=Tryz.isAgg192
 z51:=Tryz.sizeOf192
 v51:=Tryz.zeroValue192
 t53:=Tryz.underlying147
 a53:=Tryz.isAgg147
 z53:=Tryz.sizeOf147
 v53:=Tryz.zeroValue147
 t171:=Tryz.underlying278
 a171:=Tryz.isAgg278
 z171:=Tryz.sizeOf278
 v171:=Tryz.zeroValue278
 t173:=Tryz.underlying281
 a173:=Tryz.isAgg281
 z173:=Tryz.sizeOf281
 v173:=Tryz.zeroValue281
 t212:=Tryz.underlying295
 a212:=Tryz.isAgg295
 z212:=Tryz.sizeOf295
 v212:=Tryz.zeroValue295
 t213:=Tryz.underlying296
 a213:=Tryz.isAgg296
 z213:=Tryz.sizeOf296
 t232:=Tryz.underlying318
 a232:=Tryz.isAgg318
 z232:=Tryz.sizeOf318
 v232:=Tryz.zeroValue318
 t233:=Tryz.underlying319
 a233:=Tryz.isAgg319
 z233:=Tryz.sizeOf319
 v233:=Tryz.zeroValue319
 g17:=by kernel_rfl
 g18:=by kernel_rfl
 g19:=by kernel_rfl
 i0:=by kernel_rfl
 i2:=by kernel_rfl
 i3:=by kernel_rfl
 i4:=by kernel_rfl
 i5:=by kernel_rfl
 i9:=by kernel_rfl
 i20:=by kernel_rfl
 i37:=by kernel_rfl
 i46:=by kernel_rfl
 i51:=by kernel_rfl
 i53:=by kernel_rfl
 i171:=by kernel_rfl
 i173:=by kernel_rfl
 i212:=by kernel_rfl
 i232:=by kernel_rfl
 i233:=by kernel_rfl
 m17:=by kernel_rfl
 m18:=by kernel_rfl
 m19:=by kernel_rfl }
def Tryz.FC:a0b:=⟨λ|129=>260|171=>163|172=>233|205=>283|243=>201|244=>251|245=>252|246=>225|247=>267|279=>268|280=>269|281=>270|282=>271|283=>242|284=>243|285=>244|286=>245|287=>266|316=>282|317=>259|318=>261|319=>262|320=>263|321=>280|322=>281|337=>274|338=>275|n=>n,λ|0=>0|2=>2|3=>3|4=>4|5=>5|9=>9|20=>20|21=>21|37=>99|46=>228|51=>192|53=>147|75=>103|76=>104|80=>109|85=>300|127=>157|143=>320|145=>322|167=>299|168=>302|171=>278|173=>281|175=>287|210=>316|212=>295|213=>296|232=>318|233=>319|n=>n,λ|15=>5|16=>6|17=>2|18=>7|19=>8|n=>n⟩
theorem Tryz.Ho:Go.Proofs.LaysC.n172 Tryz.prog Tryz.FC:={
 mixed:=by kernel_rfl
 f129:=Tryz.func260.trans (congrArg some (by kernel_rfl))
 f171:=Tryz.func163.trans (congrArg some (by kernel_rfl))
 f172:=Tryz.func233.trans (congrArg some (by kernel_rfl))
 f205:=Tryz.func283.trans (congrArg some (by kernel_rfl))
 f243:=Tryz.func201.trans (congrArg some (by kernel_rfl))
 f244:=Tryz.func251.trans (congrArg some (by kernel_rfl))
 f245:=Tryz.func252.trans (congrArg some (by kernel_rfl))
 f246:=Tryz.func225.trans (congrArg some (by kernel_rfl))
 f247:=Tryz.func267.trans (congrArg some (by kernel_rfl))
 f279:=Tryz.func268.trans (congrArg some (by kernel_rfl))
 f280:=Tryz.func269.trans (congrArg some (by kernel_rfl))
 f281:=Tryz.func270.trans (congrArg some (by kernel_rfl))
 f282:=Tryz.func271.trans (congrArg some (by kernel_rfl))
 f283:=Tryz.func242.trans (congrArg some (by kernel_rfl))
 f284:=Tryz.func243.trans (congrArg some (by kernel_rfl))
 f285:=Tryz.func244.trans (congrArg some (by kernel_rfl))
 f286:=Tryz.func245.trans (congrArg some (by kernel_rfl))
 f287:=Tryz.func266.trans (congrArg some (by kernel_rfl))
 f316:=Tryz.func282.trans (congrArg some (by kernel_rfl))
 f317:=Tryz.func259.trans (congrArg some (by kernel_rfl))
 f318:=Tryz.func261.trans (congrArg some (by kernel_rfl))
 f319:=Tryz.func262.trans (congrArg some (by kernel_rfl))
 f320:=Tryz.func263.trans (congrArg some (by kernel_rfl))
 f321:=Tryz.func280.trans (congrArg some (by kernel_rfl))
 f322:=Tryz.func281.trans (congrArg some (by kernel_rfl))
 f337:=Tryz.func274.trans (congrArg some (by kernel_rfl))
 f338:=Tryz.func275.trans (congrArg some (by kernel_rfl))
 t0:=Tryz.underlying0
 a0:=Tryz.isAgg0
 z0:=Tryz.sizeOf0
 v0:=Tryz.zeroValue0
 t2:=Tryz.underlying2
 a2:=Tryz.isAgg2
 z2:=Tryz.sizeOf2
 v2:=Tryz.zeroValue2
 t3:=Tryz.underlying3
 a3:=Tryz.isAgg3
 z3:=Tryz.sizeOf3
 v3:=Tryz.zeroValue3
 t4:=Tryz.underlying4
 a4:=Tryz.isAgg4
 z4:=Tryz.sizeOf4
 v4:=Tryz.zeroValue4
 t5:=Tryz.underlying5
 a5:=Tryz.isAgg5
 z5:=Tryz.sizeOf5
 v5:=Tryz.zeroValue5
 t9:=Tryz.underlying9
 a9:=Tryz.isAgg9
 z9:=Tryz.sizeOf9
 v9:=Tryz.zeroValue9
 t20:=Tryz.underlying20
 a20:=Tryz.isAgg20
 z20:=Tryz.sizeOf20
 v20:=Tryz.zeroValue20
 t21:=Tryz.underlying21
 a21:=Tryz.isAgg21
 z21:=Tryz.sizeOf21
 v21:=Tryz.zeroValue21
 t37:=Tryz.underlying99
 a37:=Tryz.isAgg99
 z37:=Tryz.sizeOf99
 v37:=Tryz.zeroValue99
 t46:=Tryz.underlying228
 a46:=Tryz.isAgg228
 z46:=Tryz.sizeOf228
 v46:=Tryz.zeroValue228
 t51:=Tryz.underlying192
 a51:=Tryz.isAgg192
 z51:=Tryz.sizeOf192
 v51:=Tryz.zeroValue192
 t53:=Tryz.underlying147
 a53:=Tryz.isAgg147
 z53:=Tryz.sizeOf147
 v53:=Tryz.zeroValue147
 t75:=Tryz.underlying103
 a75:=Tryz.isAgg103
 z75:=Tryz.sizeOf103
 v75:=Tryz.zeroValue103
 t76:=Tryz.underlying104
 a76:=Tryz.isAgg104
 z76:=Tryz.sizeOf104
 v76:=Tryz.zeroValue104
 t85:=Tryz.underlying300
 a85:=Tryz.isAgg300
 z85:=Tryz.sizeOf300
 v85:=Tryz.zeroValue300
 t127:=Tryz.underlying157
 a127:=Tryz.isAgg157
 z127:=Tryz.sizeOf157
 v127:=Tryz.zeroValue157
 t143:=Tryz.underlying320
 a143:=Tryz.isAgg320
 z143:=Tryz.sizeOf320
 v143:=Tryz.zeroValue320
 t145:=Tryz.underlying322
 a145:=Tryz.isAgg322
 z145:=Tryz.sizeOf322
 v145:=Tryz.zeroValue322
 t167:=Tryz.underlying299
 a167:=Tryz.isAgg299
 z167:=Tryz.sizeOf299
 v167:=Tryz.zeroValue299
 t168:=Tryz.underlying302
 a168:=Tryz.isAgg302
 z168:=Tryz.sizeOf302
 v168:=Tryz.zeroValue302
 t171:=Tryz.underlying278
 a171:=Tryz.isAgg278
 z171:=Tryz.sizeOf278
 v171:=Tryz.zeroValue278
 t173:=Tryz.underlying281
 a173:=Tryz.isAgg281
 z173:=Tryz.sizeOf281
 v173:=Tryz.zeroValue281
 t175:=Tryz.underlying287
 a175:=Tryz.isAgg287
 z175:=Tryz.sizeOf287
 v175:=Tryz.zeroValue287
 t210:=Tryz.underlying316
 a210:=Tryz.isAgg316
 z210:=Tryz.sizeOf316
 v210:=Tryz.zeroValue316
 t212:=Tryz.underlying295
 a212:=Tryz.isAgg295
 z212:=Tryz.sizeOf295
 v212:=Tryz.zeroValue295
 t213:=Tryz.underlying296
 a213:=Tryz.isAgg296
 z213:=Tryz.sizeOf296
 t232:=Tryz.underlying318
 a232:=Tryz.isAgg318
 z232:=Tryz.sizeOf318
 v232:=Tryz.zeroValue318
 t233:=Tryz.underlying319
 a233:=Tryz.isAgg319
 z233:=Tryz.sizeOf319
 v233:=Tryz.zeroValue319
 g15:=by kernel_rfl
 g16:=by kernel_rfl
 g17:=by kernel_rfl
 g18:=by kernel_rfl
 g19:=by kernel_rfl
 t80:=Tryz.underlying109
 a80:=Tryz.isAgg109
 z80:=Tryz.sizeOf109
 v80:=Tryz.zeroValue109
 i0:=by kernel_rfl
 i2:=by kernel_rfl
 i3:=by kernel_rfl
 i4:=by kernel_rfl
 i5:=by kernel_rfl
 i9:=by kernel_rfl
 i20:=by kernel_rfl
 i21:=by kernel_rfl
 i37:=by kernel_rfl
 i46:=by kernel_rfl
 i51:=by kernel_rfl
 i53:=by kernel_rfl
 i75:=by kernel_rfl
 i76:=by kernel_rfl
 i80:=by kernel_rfl
 i85:=by kernel_rfl
 i127:=by kernel_rfl
 i143:=by kernel_rfl
 i145:=by kernel_rfl
 i167:=by kernel_rfl
 i168:=by kernel_rfl
 i171:=by kernel_rfl
 i173:=by kernel_rfl
 i175:=by kernel_rfl
 i210:=by kernel_rfl
 i212:=by kernel_rfl
 i232:=by kernel_rfl
 i233:=by kernel_rfl
 m15:=by kernel_rfl
 m16:=by kernel_rfl
 m17:=by kernel_rfl
 m18:=by kernel_rfl
 m19:=by kernel_rfl
 c0:=by kernel_rfl
 c2:=by kernel_rfl
 c3:=by kernel_rfl
 c4:=by kernel_rfl
 c5:=by kernel_rfl
 c9:=by kernel_rfl
 c20:=by kernel_rfl
 c21:=by kernel_rfl
 c37:=by kernel_rfl
 c46:=by kernel_rfl
 c51:=by kernel_rfl
 c53:=by kernel_rfl
 c75:=by kernel_rfl
 c76:=by kernel_rfl
 c80:=by kernel_rfl
 c85:=by kernel_rfl
 c127:=by kernel_rfl
 c143:=by kernel_rfl
 c145:=by kernel_rfl
 c167:=by kernel_rfl
 c168:=by kernel_rfl
 c171:=by kernel_rfl
 c173:=by kernel_rfl
 c175:=by kernel_rfl
 c210:=by kernel_rfl
 c212:=by kernel_rfl
 c213:=by kernel_rfl
 c232:=by kernel_rfl
 c233:=by kernel_rfl }
end
/- The texts of polynomials and the library's functions, in plain words: what is left behind digits, the number that digits tell, factors joined. -/
section
open Go.Lib
def ten:List UInt8:=[48,49,50,51,52,53,54,55,56,57]
theorem Si (c:UInt8):ten.contains c=fJ c:=by
 rw[Bool.eq_iff_iff,gB,a0f];unfold ten;simp only[a0c,List.not_mem_nil,or_false,<-UInt8.toNat_inj,UInt8.reduceToNat];omega
theorem Sj (l:List UInt8):trimLeftS l ten=l.dropWhile fJ:=by
 unfold trimLeftS
 congr 1
 funext c
 exact Si c
theorem wS:∀(l:List UInt8) (acc:Nat),dJ l=true->acc<18446744073709551616->
  parseUint10 acc l=if acc*10^l.length+aR l<18446744073709551616 then .ok (acc*10^l.length+aR l)else .range
 |[],acc,_,h=>by
  have e:acc*10^([]:List UInt8).length+aR []=acc:=by simp[KJ]
  rw[e,if_pos h];rfl
 |c::r,acc,hd,h=>by
  rw[eZ,Bool.and_eq_true]at hd;have hc:=gB.1 hd.1
  have e:acc*10^(c::r).length+aR (c::r)=(acc*10+(c.toNat-48))*10^r.length+aR r:=by
   rw[jw,List.length_cons,Nat.pow_succ];grind
  have hp:1<=10^r.length:=Nat.one_le_pow _ _ (by omega);have hle:acc*10+(c.toNat-48)<=(acc*10+(c.toNat-48))*10^r.length:=Nat.le_mul_of_pos_right _ (by omega);rw[e];simp only[parseUint10];rw[if_pos hc];by_cases h1:1844674407370955162<=acc
  ·rw[if_pos h1,if_neg (by omega)]
  ·rw[if_neg h1];by_cases h2:18446744073709551616<=acc*10+(c.toNat-48)
   ·rw[if_pos h2,if_neg (by omega)]
   ·rw[if_neg h2,wS r _ hd.2 (by omega)]
theorem yK {l:List UInt8} (h:dJ l=true) (h0:l≠[]):atoiAll l=if aR l<9223372036854775808 then .ok (aR l:Int)else .range:=by
 cases l with
 |nil=>exact absurd rfl h0
 |cons c r=>
  have hc:=h;rw[eZ,Bool.and_eq_true]at hc;have hc:=gB.1 hc.1;unfold atoiAll;simp only;rw[if_neg (by omega)];unfold parseMag;rw[if_neg (by simp),wS _ 0 h (by omega),Nat.zero_mul,Nat.zero_add];by_cases h1:aR (c::r)<9223372036854775808
  ·rw[if_pos (show aR (c::r)<18446744073709551616 by omega),if_pos h1];simp only;rw[if_neg (by omega),if_neg (by omega),if_neg (by omega)]
  ·rw[if_neg h1];by_cases h2:aR (c::r)<18446744073709551616
   ·rw[if_pos h2];simp only;rw[if_pos (by omega)]
   ·rw[if_neg h2]
def xH (t:Term):List (List UInt8):=(if decDigits t.1.natAbs≠[49]∨t.2=[]then[decDigits t.1.natAbs]else[])++t.2.map jY
theorem vD:∀(ms:List (Int×Int)) (x:List UInt8),[42].intercalate (x::ms.map jY)=x++qQ ms
 |[],x=>by simp[a0g,qQ]
 |w::r,x=>by
  have ih:=vD r (jY w);simp only[a0g,a0h]at ih ⊢;rw[List.intersperse_cons_cons,a0i,a0i,ih];simp[qQ]
theorem Bz {n:Nat}:decDigits n=[49]↔n=1:=⟨λh=>VE (h.trans su.symm),λh=>by rw[h,su]⟩
theorem GH (t:Term):[42].intercalate (xH t)=jv t:=by
 obtain⟨c,m⟩:=t;unfold xH;cases m with
 |nil=>simp[a0g,jv]
 |cons w r=>
  by_cases h:c.natAbs=1
  ·rw[if_neg (by simp[Bz,h])];simp only[List.nil_append,a0h];rw[vD];simp[jv,h]
  ·rw[if_pos (.inl (by simp[Bz,h]))];rw[List.singleton_append,vD];simp[jv,h,qQ]
end
/- The library's functions on texts that layer 10 calls: contracts at this program. -/
section
open Go.RowKit Go.Sort Go.Lib
theorem vY (s p:ByteArray) (w:World):
  Calls Tryz.prog 165 #[.string s,.string p] w (cu (.bool (hasPrefix s.data.toList p.data.toList)) w):=
 (Any.strings_HasPrefix Tryz.YQ s p w).mono λ_ _ h=>⟨h.1,h.2▸Below.refl _ _⟩
theorem Rj (s p:ByteArray) (w:World):
  Calls Tryz.prog 164 #[.string s,.string p] w (cu (.tuple #[.string ⟨(trimPrefix s.data.toList p.data.toList).toArray⟩,.bool (hasPrefix s.data.toList p.data.toList)]) w):=
 (BA s p w).mono λ_ _ h=>⟨h.1,h.2▸Below.refl _ _⟩
theorem Dv (s:ByteArray) (w:World):
  Calls Tryz.prog 204 #[.string s,.string ⟨#[48,49,50,51,52,53,54,55,56,57]⟩] w (cu (.string ⟨(s.data.toList.dropWhile fJ).toArray⟩) w):=by
 have h:=Any.strings_TrimLeft_laid Tryz.VF (by kernel_rfl) s ⟨#[48,49,50,51,52,53,54,55,56,57]⟩ w (by decide) (λj b hb=>by
  have hm:b∈ten:=List.mem_of_getElem? hb;have hd:fJ b=true:=by rw[<-Si,a0f];exact hm
  have:=gB.1 hd;omega)
 refine h.mono λe w' h=>⟨?_,h.2⟩
 rw[h.1,<-Sj];rfl
theorem Nf (bk c:Nat) (xs:List ByteArray) (w:World) (hcells:∀(j:Nat) x,xs[j]? =some x->w.cell? ⟨bk,j,none⟩=some (.string x)) (hbk:bk<w.heap.size) (hN:xs.length<=1000) (hcap:xs.length<=c)
  (hlen:(([42]:List UInt8).intercalate (xs.map (·.data.toList))).length<=1000000):
  Calls Tryz.prog 60 #[.slice (some ⟨bk,0,none⟩) xs.length c,.string ⟨#[42]⟩] w (cu (.string ⟨(([42]:List UInt8).intercalate (xs.map (·.data.toList))).toArray⟩) w):=
 (Any.strings_Join Tryz.VG Tryz.CK bk 0 c xs ⟨#[42]⟩ w (λj x h=>by rw[Nat.zero_add];exact hcells j x h) hbk (by omega) hcap (Nat.le_trans hlen (by omega))).mono λ_ _ h=>h
theorem UY (s:ByteArray) (w:World) (hs:s.size<=1000000) (h:dJ s.data.toList=true) (h0:s.data.toList≠[]) (hn:aR s.data.toList<9223372036854775808):
  Calls Tryz.prog 233 #[.string s] w (cu (.tuple #[.int .i64 (aR s.data.toList:Int),.nilIface]) w):=
 (Any.strconv_Atoi_ok Tryz.Ho s (by omega) _ (by rw[yK h h0,if_pos hn]) w).mono λ_ w' h=>⟨h.1,by
  rcases h.2 with h|⟨t,h⟩
  ·exact h▸Below.refl _ _
  ·exact h▸Lib.bytesWorld_below _ _ _⟩
theorem Ox {w : World} (h : zX w) : Lib.TabIs Tryz.prog w "internal/strconv.uint64pow10" .u64 Lib.pow10Tab := by
 have e : ((Tryz.progGlobals[2]?.map (·.name)).getD default) = "internal/strconv.uint64pow10" := by kernel_rfl
 unfold zX at h;rwa[e]at h
theorem Sk (n:Int) (h0:0<=n) (h1:n<9223372036854775808) (w:World) (ht:zX w):
  Calls Tryz.prog 163 #[.int .i64 n] w (cu (.string ⟨(decDigits n.toNat).toArray⟩) w):=
 (Any.strconv_Itoa Tryz.Sg n (by omega) (by omega) w (Ox ht)).mono λe w' h=>by
  obtain⟨he,k,os,hw⟩:=h;refine⟨?_,hw▸Lib.below_grow _ w (Nat.le_refl _) k os⟩;rw[he,pE h0,show n.natAbs=n.toNat by omega]
end
/- The contract of value.powerText. -/
section
open Lib (hid)
open Go.RowKit
theorem FD (n:Int) (h0:0<=n) (h1:n<9223372036854775808) {u:ByteArray} (w:World) (ht:zX w) (hu:u=⟨(a0a n.toNat).toArray⟩):
  Calls Tryz.prog 163 #[.int .i64 n] w (cu (.string u) w):=by subst hu;exact Sk n h0 h1 w ht
theorem pz {n:Int} (h0:0<=n) (h1:n<=10000):(a0a n.toNat).length<=5:=by
 rw[Lib.decDigits_length];exact qE 4 _ (by omega)
theorem Oy {v:Int} {w:World} (ht:zX w) (hv:0<=v/\ v<=200):
  Calls Tryz.prog 109 #[.agg #[.int .i64 v,.int .i64 1]] w (cu (.string ⟨(jY (v,1)).toArray⟩) w):=by
 have HT:=hid ht;obtain⟨u,hu⟩:∃u:ByteArray,u=⟨(a0a v.toNat).toArray⟩:=⟨_,rfl⟩;obtain⟨t,ht2⟩:∃t:ByteArray,t=⟨(120::a0a v.toNat).toArray⟩:=⟨_,rfl⟩;have l1:=pz hv.1 (show v<=10000 by omega);have ae9:∀W:World,(Op.stringOp .add ⟨#[120]⟩ u).run Tryz.prog W= .ok (.string t) W:=λW=>by rw[hu,ht2];exact tC W [120] _ (by simp;omega)
 have HU:=hid hu;have V0:Hid (0<=v/\ v<9223372036854775808):=⟨hv.1,by omega⟩;have HZ:Hid (t=⟨(jY (v,1)).toArray⟩):=by rw[Hid,ht2];simp[jY]
 clear hu ht2 l1 hv ht;go_enter Tryz.func109,Tryz.ntmps109;have S0:=hid (Sx.start (w:=w) (N:=[]) trivial);have S1:=hid (S0.out.var (w.heap.size) [.int .i64 v,.int .i64 1] 72 (by simp));clear S0;go_upto_region 1 with(fail)
 refine aj (λw1 hW=>?_);rw[<-hW]at S1;clear hW;obtain⟨cZ,dh⟩:=S1.out.b.c2;go_wp2_with fail;clear cZ dh;refine(FD v (V0.out.1) (V0.out.2) _ (HT.out.below S1.out.h) (HU.out)).mono ?_;rintro e w2 ⟨rfl,hB⟩;have S2:=hid ((S1.out.step hB));clear S1 hB;obtain⟨cZ,dh⟩:=S2.out.b.c2;go_wp2_with fail;go_ret;exact⟨by rw[<-HZ.out];rfl,S2.out.h⟩
theorem KL {v e:Int} {w:World} (ht:zX w) (hv:0<=v/\ v<=200) (he:0<=e/\ e<=10000) (h1:e≠1):
  Calls Tryz.prog 109 #[.agg #[.int .i64 v,.int .i64 e]] w (cu (.string ⟨(jY (v,e)).toArray⟩) w):=by
 have HT:=hid ht;obtain⟨u,hu⟩:∃u:ByteArray,u=⟨(a0a v.toNat).toArray⟩:=⟨_,rfl⟩;obtain⟨t,ht2⟩:∃t:ByteArray,t=⟨(120::a0a v.toNat).toArray⟩:=⟨_,rfl⟩;have l1:=pz hv.1 (show v<=10000 by omega);have ae9:∀W:World,(Op.stringOp .add ⟨#[120]⟩ u).run Tryz.prog W= .ok (.string t) W:=λW=>by rw[hu,ht2];exact tC W [120] _ (by simp;omega)
 have HU:=hid hu;have V0:Hid (0<=v/\ v<9223372036854775808):=⟨hv.1,by omega⟩;obtain⟨z,hz⟩:∃z:ByteArray,z=⟨(a0a e.toNat).toArray⟩:=⟨_,rfl⟩;obtain⟨y,hy⟩:∃y:ByteArray,y=⟨(120::a0a v.toNat++[94]).toArray⟩:=⟨_,rfl⟩;obtain⟨x,hx⟩:∃x:ByteArray,x=⟨(120::a0a v.toNat++[94]++a0a e.toNat).toArray⟩:=⟨_,rfl⟩;have l2:=pz he.1 he.2;have ak8:∀W:World,(Op.stringOp .add t ⟨#[94]⟩).run Tryz.prog W= .ok (.string y) W:=λW=>by rw[ht2,hy];exact tC W _ [94] (by simp;omega)
 have ak9:∀W:World,(Op.stringOp .add y z).run Tryz.prog W= .ok (.string x) W:=λW=>by rw[hz,hy,hx];exact tC W _ _ (by simp;omega)
 have HZ:Hid (x=⟨(jY (v,e)).toArray⟩):=by rw[Hid,hx];simp[jY,h1]
 have HW:=hid hz;have E0:Hid (0<=e/\ e<9223372036854775808):=⟨he.1,by omega⟩;clear hu ht2 l1 hv ht hz hy hx l2 he;go_enter Tryz.func109,Tryz.ntmps109;have S0:=hid (Sx.start (w:=w) (N:=[]) trivial);have S1:=hid (S0.out.var (w.heap.size) [.int .i64 v,.int .i64 e] 72 (by simp));clear S0;go_upto_region 1 with(fail)
 refine aj (λw1 hW=>?_);rw[<-hW]at S1;clear hW;obtain⟨cZ,dh⟩:=S1.out.b.c2;go_wp2_with fail;clear cZ dh;refine(FD v (V0.out.1) (V0.out.2) _ (HT.out.below S1.out.h) (HU.out)).mono ?_;rintro e w2 ⟨rfl,hB⟩;have S2:=hid ((S1.out.step hB));clear S1 hB;obtain⟨cZ,dh⟩:=S2.out.b.c2;go_wp2_with fail;clear cZ dh;refine(FD e (E0.out.1) (E0.out.2) _ (HT.out.below S2.out.h) (HW.out)).mono ?_;rintro e w3 ⟨rfl,hB⟩;have S3:=hid ((S2.out.step hB));clear S2 hB;go_wp2_with fail;go_ret;exact⟨by rw[<-HZ.out];rfl,S3.out.h⟩
theorem JO {v e:Int} {w:World} (ht:zX w) (hv:0<=v/\ v<=200) (he:0<=e/\ e<=10000):
  Calls Tryz.prog 109 #[.agg #[.int .i64 v,.int .i64 e]] w (cu (.string ⟨(jY (v,e)).toArray⟩) w):=by
 by_cases h:e=1
 ·subst h;exact Oy ht hv
 ·exact KL ht hv he h
end
end Go.Proofs.YtmenbpmciblnlaaGreatDoor

import Derived.Shelf.Strings.BuilderK
import Derived.Test.YtmenbpmciblnlaaGreatDoorGP6
import Derived.Test.YtmenbpmciblnlaaGreatDoorGTxt
import Derived.Test.YtmenbpmciblnlaaGreatDoorGRd1
import Derived.Test.YtmenbpmciblnlaaGreatDoorGP5
set_option maxHeartbeats 0
set_option maxRecDepth 100000
open And renaming intro->ah5
open Go renaming Value->ah7,World->ah6
open Go.Lib renaming BuilderAtF->ah9,OthersKept->ai0,byteCells->ah8,decDigits->ai1
open Go.RowKit renaming Below->ai2
open Go.Value renaming bool->ai6,cells->ai4,oneCell'->ai3,slice->ai5
open List renaming append_assoc->ai8,append_nil->aj1,eq_nil_of_length_eq_zero->aj0,getD->aj4,length_append->ai9,length_cons->ai7,length_map->aj5,length_take->aj6,map_append->aj3,take_of_length_le->aj7,take_succ_eq_append_getElem->aj2
open Nat renaming le_refl->aj9,zero_le->aj8
namespace Go.Proofs.YtmenbpmciblnlaaGreatDoor
section
open Go.Shelf
def Tryz.uv:Go.Shelf.Ren:=⟨λ|166=>59|240=>106|276=>158|n=>n,λ|0=>0|3=>3|4=>4|5=>5|9=>9|20=>20|37=>99|70=>98|72=>101|75=>103|80=>109|164=>206|n=>n,λn=>n⟩
theorem Tryz.QC:Go.Proofs.Lays.n166 Tryz.prog Tryz.uv:={
 mixed:=by kernel_rfl
 f166:=Tryz.func59.trans (congrArg some (by kernel_rfl))
 f240:=Tryz.func106.trans (congrArg some (by kernel_rfl))
 f276:=Tryz.func158.trans (congrArg some (by kernel_rfl))
 t0:=Tryz.underlying0
 a0:=Tryz.isAgg0
 z0:=Tryz.sizeOf0
 v0:=Tryz.zeroValue0
 t3:=Tryz.underlying3
 a3:=Tryz.isAgg3
 z3:=Tryz.sizeOf3
 v3:=Tryz.zeroValue3
 t4:=Tryz.underlying4
 a4:=Tryz.isAgg4
 z4:=Tryz.sizeOf4
 v4:=Tryz.zeroValue4
 t9:=Tryz.underlying9
 a9:=Tryz.isAgg9
 z9:=Tryz.sizeOf9
 v9:=Tryz.zeroValue9
 t20:=Tryz.underlying20
 a20:=Tryz.isAgg20
 z20:=Tryz.sizeOf20
 v20:=Tryz.zeroValue20
 t37:=Tryz.underlying99
 a37:=Tryz.isAgg99
 z37:=Tryz.sizeOf99
 v37:=Tryz.zeroValue99
 t70:=Tryz.underlying98
 a70:=Tryz.isAgg98
 z70:=Tryz.sizeOf98
 v70:=Tryz.zeroValue98
 t72:=Tryz.underlying101
 a72:=Tryz.isAgg101
 z72:=Tryz.sizeOf101
 v72:=Tryz.zeroValue101
 t75:=Tryz.underlying103
 a75:=Tryz.isAgg103
 z75:=Tryz.sizeOf103
 v75:=Tryz.zeroValue103
 t164:=Tryz.underlying206
 a164:=Tryz.isAgg206
 z164:=Tryz.sizeOf206
 v164:=Tryz.zeroValue206 }
theorem Tryz.yv:Builder.Extra Tryz.prog Tryz.uv:={
 sizeBuilder:=by kernel_rfl
 liesBuilder:=by kernel_rfl
 t5:=Tryz.underlying5
 a5:=Tryz.isAgg5
 z5:=Tryz.sizeOf5
 v5:=Tryz.zeroValue5
 infoByte:=by kernel_rfl
 cellsByte:=by kernel_rfl
 sizeByte:=by kernel_rfl
 neB5:=by decide }
def Tryz.uw:Go.Shelf.Ren:=⟨λ|169=>62|n=>n,λ|0=>0|3=>3|5=>5|9=>9|37=>99|70=>98|72=>101|127=>157|n=>n,λn=>n⟩
theorem Tryz.QD:Go.Proofs.Lays.n169 Tryz.prog Tryz.uw:={
 mixed:=by kernel_rfl
 f169:=Tryz.func62.trans (congrArg some (by kernel_rfl))
 t0:=Tryz.underlying0
 a0:=Tryz.isAgg0
 z0:=Tryz.sizeOf0
 v0:=Tryz.zeroValue0
 t3:=Tryz.underlying3
 a3:=Tryz.isAgg3
 z3:=Tryz.sizeOf3
 v3:=Tryz.zeroValue3
 t9:=Tryz.underlying9
 a9:=Tryz.isAgg9
 z9:=Tryz.sizeOf9
 v9:=Tryz.zeroValue9
 t37:=Tryz.underlying99
 a37:=Tryz.isAgg99
 z37:=Tryz.sizeOf99
 v37:=Tryz.zeroValue99
 t70:=Tryz.underlying98
 a70:=Tryz.isAgg98
 z70:=Tryz.sizeOf98
 v70:=Tryz.zeroValue98
 t72:=Tryz.underlying101
 a72:=Tryz.isAgg101
 z72:=Tryz.sizeOf101
 v72:=Tryz.zeroValue101
 t127:=Tryz.underlying157
 a127:=Tryz.isAgg157
 z127:=Tryz.sizeOf157
 v127:=Tryz.zeroValue157 }
theorem Tryz.yw:Builder.Extra Tryz.prog Tryz.uw:={
 sizeBuilder:=by kernel_rfl
 liesBuilder:=by kernel_rfl
 t5:=Tryz.underlying5
 a5:=Tryz.isAgg5
 z5:=Tryz.sizeOf5
 v5:=Tryz.zeroValue5
 infoByte:=by kernel_rfl
 cellsByte:=by kernel_rfl
 sizeByte:=by kernel_rfl
 neB5:=by decide }
end
section
open Go.RowKit Go.Lib
def kI (i:Nat) (t:ai):List UInt8:=(if t.1<0 then[45]else if 0<i then[43]else[])++gR t
def xY:Nat->List ai->List UInt8
 | _,[]=>[]
 |i,t::r=>kI i t++xY (i+1) r
theorem CO (t:ai):∀(p:List ai) (i:Nat),xY i (p++[t])=xY i p++kI (i+p.length) t
 |[],i=>by simp[xY]
 |s::r,i=>by
  simp only[List.cons_append,xY,ai7];rw[CO t r (i+1),ai8,show i+1+r.length=i+(r.length+1)by omega]
theorem CP:∀(p:List ai) (i:Nat),0<i->xY i p=wu p
 |[],_,_=>rfl
 |t::r,i,h=>by
  simp only[xY,wu,kI];rw[CP r (i+1) (by omega),if_pos h];split<;>simp
theorem MN {p:List ai} (h:p≠[]):xY 0 p=rR p:=by
 cases p with
 |nil=>exact absurd rfl h
 |cons t r=>
  simp only[xY,rR,kI];rw[CP r 1 (by omega)];simp
theorem ze {X:Nat}:∀(ms:List (Int×Int)),(∀x∈ms,(iB x).length<=X)->(nY ms).length<=ms.length*(X+1)
 |[],_=>by simp[nY]
 |w::r,h=>by
  have h1:=h w (by simp);have h2:=ze r λx hx=>h x (by simp[hx])
  simp only[nY,ai7,ai9];rw[Nat.add_mul];omega
theorem MO {v e:Int} (hv:0<=v/\ v<=10000) (he:0<=e/\ e<=10000):(iB (v,e)).length<=12:=by
 have h1:=mE hv.1 hv.2;have h2:=mE he.1 he.2;unfold iB;simp only[ai7,ai9];split
 ·simp;omega
 ·simp;omega
end
section
open Go.RowKit
def Bl (B b:Nat) (l:List UInt8) (w:ah6):Prop:=Lib.IsBuilderF 101 5 B b (ah8 l) w
theorem Bl.cS {w:ah6} {B:Nat} (hB:B<=w.heap.size):Bl B w.heap.size [] (w.alloc (.cells #[.pointer none,ai5 none 0 0] 101)):=by
 refine .inl ⟨hB,ai5 none 0 0,?_,World.ownsRowF_nil _ _ _ _,λe=>by cases e⟩;show(w.heap.push _)[w.heap.size]? =_;rw[Array.getElem?_push_size]
theorem Bl.below {B b:Nat} {l:List UInt8} {w w':ah6} (h:Bl B b l w) (hb:ai2 w.heap.size w w'):Bl B b l w':=by
 have key:∀p,ah9 101 5 B b p (ah8 l) w->ah9 101 5 B b p (ah8 l) w':=λp h=>by
  obtain⟨hB,v,hbk,hown,hne⟩:=h;exact⟨hB,v,(hb.block b (lt_of_block hbk)).trans hbk,hown.kept (cu none hb) (by cases h:v.ownBlock with|none=>exact .inl rfl|some k=>exact .inr (λe=>by cases e)),hne⟩
 exact h.imp (key _) (key _)
theorem wy {B b:Nat} {l r:List UInt8} {w:ah6} (h:Bl B b l w) (hl:l.length+r.length<=140737488355328) (hB:B<=w.heap.size):
  Calls Tryz.prog 59 #[.pointer (some ⟨b,0,none⟩),.string ⟨r.toArray⟩] w λe w'=>e= .returned (.tuple #[.int .i64 r.length,.nilIface])/\ Bl B b (l++r) w'/\ ai2 B w w'/\ ai0 5 (some b) w w':=
 (Any.Builder_WriteString_k Tryz.QC Tryz.yv B b (ah8 l) ⟨r.toArray⟩ w h (by rw[Lib.byteCells_length];exact hl) hB).mono λe w' ⟨h1,h2,h3,h4⟩=>⟨h1,.inr (by rw[Lib.byteCells_append];exact h2),h3,h4⟩
theorem MP {B b:Nat} {l:List UInt8} {w:ah6} (h:Bl B b l w) (hB:B<=w.heap.size):
  Calls Tryz.prog 62 #[.pointer (some ⟨b,0,none⟩)] w λe w'=>e= .returned (.string ⟨l.toArray⟩)/\ ai2 B w w':=
 (Any.Builder_String_any_k Tryz.QD Tryz.yw B b l w h hB).mono λ_ _ ⟨h1,_,h3,_⟩=>⟨h1,h3⟩
end
section
open Lib (hid)
open Go.RowKit
def Fk (l:List UInt8):ah7:= .string ⟨l.toArray⟩
theorem Tryz.MQ:(Tryz.prog.info? 9).map (λi=>(i.zero,i.size,i.bytes))=some (some (.string ⟨#[]⟩),1,16):=by kernel_rfl
def Fs (B:Nat) (w:ah6) (s:ah7) (fs:List (List UInt8)):Prop:=∃ro rc,s=ai5 ro fs.length rc/\ gM B 9 1 w ro fs.length rc (fs.map λl=>[Fk l])
theorem Fs.below {B:Nat} {w w':ah6} {s:ah7} {fs:List (List UInt8)} (h:Fs B w s fs) (hb:ai2 w.heap.size w w'):Fs B w' s fs:=by
 obtain⟨ro,rc,h1,h2⟩:=h;exact⟨ro,rc,h1,h2.below hb⟩
theorem AR [Ol] {K:Nat} {m:Bool} {ao:Z'} {n ae:Nat} {bo:Z'} {l cb:Nat} {c:Int} {ms:List (Int×Int)} {w:ah6} (hC:Cn w m ao n ae c) (hb:Bd c K) (hM:Ml w bo l cb ms) (ht:vS w) (hm:∀x∈ms,(0<=x.1/\ x.1<=200)/\ 0<=x.2/\ x.2<=10000) (hl:l<=1000) (hK:K<=100000):
  Calls Tryz.prog 61 #[.agg #[ai6 m,ai5 ao n ae,ai5 bo l cb]] w (λe w'=>∃s,e= .returned s/\ Fs w.heap.size w' s (tC (c,ms))/\ ai2 w.heap.size w w'):=by
 obtain⟨i0,hi,hz0,hz1,hz2⟩:=info_parts Tryz.MQ;have hN:Hid (∀V,ai2 w.heap.size w V->Nx V false ao n ae (c.natAbs:Int)):=λV hV=>⟨⟨_,hC.sl.below hV,by show((au (aq c.natAbs):Nat):Int)=_;rw[av]⟩,by have h1:=hC.sl.len;have h2:=hb.len;omega⟩
 have HM:Hid (∀V,ai2 w.heap.size w V->Ml V bo l cb ms):=λV hV=>hM.below hV
 have HT:Hid (∀V,ai2 w.heap.size w V->vS V):=λV hV=>ht.below hV
 have EL:Hid (ms.length=l):=hM.len;have Mh:=hid hm;clear hC hb hM ht hm;go_enter Tryz.func61,Tryz.ntmps61;obtain⟨b1,hb1⟩:∃b,b=w.heap.size:=⟨_,rfl⟩;go_upto_region 1 with(fail)
 refine aj (λW0 hW=>?_);have a1:aS W0 b1 [ai6 m,ai5 ao n ae,ai5 bo l cb] 70/\ ai2 w.heap.size w W0:=by rw[hW,hb1];exact gp w _ 70
 rw[<-hb1];have HA:=hid a1;obtain⟨x0,x1,x2⟩:=aS.c3 a1.1;clear hW hb1 a1;go_wp2_with fail;refine(MR (hN.o W0 HA.o.2) (HT.o W0 HA.o.2)).mono ?_;rintro e w2 ⟨rfl,hB⟩;obtain⟨u,hu⟩:∃u:ByteArray,u=⟨(Lib.itoa (c.natAbs:Int)).toArray⟩:=⟨_,rfl⟩;rw[<-hu]
 have HU:Hid (u.data.toList=ai1 c.natAbs):=by
  rw[Hid,hu,mF (by omega)];simp
 have HA2:Hid (aS w2 b1 [ai6 m,ai5 ao n ae,ai5 bo l cb] 70/\ ai2 w.heap.size w w2):=⟨HA.o.1.below hB,Below.ar HA.o.2 hB⟩;clear hu hB HA x0 x1 x2;obtain⟨x0,x1,x2⟩:=aS.c3 HA2.o.1
 have HUE:Hid (Value.string u=Fk (ai1 c.natAbs)):=by
  unfold Fk;rw[Hid,<-HU.o]
 by_cases h1:ai1 c.natAbs=[49];by_cases h2:ms=[];have hl0:l=0:=by have:=EL.o;rw[h2]at this;simpa using this.symm
 have hq:(u.toList==[49])=true:=jJ (HU.o.trans h1);have hq2:(u.toList !=[49])=false:=by simp[bne,hq]
 have hli:((l:Int)==0)=true:=by rw[hl0];rfl
 obtain⟨pre,hpre⟩:∃pre:List (List UInt8),pre=[ai1 c.natAbs]:=⟨_,rfl⟩;have QE:Hid (tC (c,ms)=pre++ms.map iB/\ pre.length<=1):=⟨by rw[hpre];unfold tC;rw[if_pos (.inr h2)],by rw[hpre];simp⟩;have Uq:=hid hpre;clear h1 h2 hl0 hpre
 focus go_upto_region 5 with(at_builtin;refine dz w2 w rfl (.tmp 20) (.tmp 22) 107 rfl w.heap.size 9 1 16 i0 (.string ⟨#[]⟩) Tryz.underlying107 hi hz0 hz1 hz2 rfl (by omega) none 0 0 [] rfl (gM.nil _ _ _ _) [_] rfl (by simp[ai3]) (by simp[ai4,bB]) (by simp[bB]) _ rfl HA2.o.2 (HA2.o.2).size (by omega) (by omega) ?_;intro o3 PQ w3 hO hB3 hG3;have HW3:Hid (aS w3 b1 [ai6 m,ai5 ao n ae,ai5 bo l cb] 70):=(HA2.o.1.below (af w2 _)).apart hG3 (λe=>by cases e);have HF:Hid (Fs w.heap.size w3 (ai5 o3 1 PQ) pre/\ ai2 w.heap.size w w3):=⟨⟨o3,PQ,by rw[Uq.o];rfl,by rw[Uq.o];show gM _ _ _ _ _ 1 _ [[Fk _]];rw[<-HUE.o];exact hO⟩,hB3⟩;clear hO hB3 hG3 Uq)
 clear hq hq2 hli HA2 x0 x1 x2
 rotate_left
 have hl0:l≠0:=λe=>h2 (aj0 (EL.o.trans e))
 have hq:(u.toList==[49])=true:=jJ (HU.o.trans h1);have hq2:(u.toList !=[49])=false:=by simp[bne,hq]
 have hli:((l:Int)==0)=false:=by simpa using(show¬(l:Int)=0 by omega)
 obtain⟨pre,hpre⟩:∃pre:List (List UInt8),pre=[]:=⟨_,rfl⟩;have QE:Hid (tC (c,ms)=pre++ms.map iB/\ pre.length<=1):=⟨by rw[hpre];unfold tC;rw[if_neg (λh=>h.elim (λh=>h h1) h2)],by rw[hpre];simp⟩;have HF:Hid (Fs w.heap.size w2 (ai5 none 0 0) pre/\ ai2 w.heap.size w w2):=⟨⟨none,0,by rw[hpre];rfl,by rw[hpre];exact gM.nil _ _ _ _⟩,HA2.o.2⟩;have HW3:Hid (aS w2 b1 [ai6 m,ai5 ao n ae,ai5 bo l cb] 70):=HA2.o.1;clear h1 h2 hl0 hpre
 focus go_upto_region 5 with(fail)
 clear hq hq2 hli HA2 x0 x1 x2
 rotate_left
 have hq:(u.toList==[49])=false:=iQ (λh=>h1 (HU.o.symm.trans h));have hq2:(u.toList !=[49])=true:=by simp[bne,hq]
 obtain⟨pre,hpre⟩:∃pre:List (List UInt8),pre=[ai1 c.natAbs]:=⟨_,rfl⟩;have QE:Hid (tC (c,ms)=pre++ms.map iB/\ pre.length<=1):=⟨by rw[hpre];unfold tC;rw[if_pos (.inl h1)],by rw[hpre];simp⟩;have Uq:=hid hpre;clear h1 hpre
 focus go_upto_region 5 with(at_builtin;refine dz w2 w rfl (.tmp 20) (.tmp 22) 107 rfl w.heap.size 9 1 16 i0 (.string ⟨#[]⟩) Tryz.underlying107 hi hz0 hz1 hz2 rfl (by omega) none 0 0 [] rfl (gM.nil _ _ _ _) [_] rfl (by simp[ai3]) (by simp[ai4,bB]) (by simp[bB]) _ rfl HA2.o.2 (HA2.o.2).size (by omega) (by omega) ?_;intro o3 PQ w3 hO hB3 hG3;have HW3:Hid (aS w3 b1 [ai6 m,ai5 ao n ae,ai5 bo l cb] 70):=(HA2.o.1.below (af w2 _)).apart hG3 (λe=>by cases e);have HF:Hid (Fs w.heap.size w3 (ai5 o3 1 PQ) pre/\ ai2 w.heap.size w w3):=⟨⟨o3,PQ,by rw[Uq.o];rfl,by rw[Uq.o];show gM _ _ _ _ _ 1 _ [[Fk _]];rw[<-HUE.o];exact hO⟩,hB3⟩;clear hO hB3 hG3 Uq)
 clear hq hq2 HA2 x0 x1 x2
 rotate_left
 all_goals
  obtain⟨x0,x1,x2⟩:=aS.c3 HW3.o;clear HU HUE;go_wp2_with fail;clear x0 x1 x2;go_loopw [3,27] (λs i wr=>∃k:Nat,i= .int .i64 k/\ k<=l/\ Hid (Fs w.heap.size wr s (pre++(ms.take k).map iB)/\ ai2 w.heap.size w wr)) (λ_ i _=>l-(intOf i).toNat)
  case atStart=>exact⟨0,rfl,aj8 _,by rw[List.take_zero,List.map_nil,aj1];exact HF.o⟩
  case round=>
   clear HF HW3;obtain⟨k,rfl,hk,HS⟩:=hrel;by_cases hkl:k<l
   ·obtain⟨b,off,yx,hbl,hpc⟩:=(HM.o _ HS.o.2).at (by omega);subst yx;obtain⟨p0,p1⟩:=hpc k hkl;obtain⟨⟨v,e⟩,hve⟩:∃y,ms.getD k (0,0)=y:=⟨_,rfl⟩;rw[hve]at p0 p1;have hmk:k<ms.length:=by rw[EL.o];exact hkl
    have hme:(v,e)∈ms:=by rw[<-hve];exact gK _ hmk
    have HV:=hid (Mh.o _ hme);obtain⟨fs,hfs⟩:∃fs,fs=pre++(ms.take k).map iB:=⟨_,rfl⟩
    have hnx:pre++(ms.take (k+1)).map iB=fs++[iB (v,e)]:=by
     rw[hfs,aj2 hmk,aj3,ai8];have:ms[k]=(v,e):=by rw[<-hve];simp[aj4,hmk]
     simp[this]
    have hfl:fs.length<=1001:=by
     have:=QE.o.2;rw[hfs,ai9,aj5,aj6];omega
    rw[<-hfs]at HS;have WB:=hid hnx;have hki:(k:Int)<(l:Int):=by omega
    clear hpc hve hme hfs hnx hmk hbl;obtain⟨b6,hb6⟩:∃b,b=wr.heap.size:=⟨_,rfl⟩;go_upto_region 8 with(fail)
    refine aj (λW4 hW=>?_);have a6:aS W4 b6 [.int .i64 v,.int .i64 e] 72/\ ai2 wr.heap.size wr W4:=by rw[hW,hb6];exact gp wr _ 72
    rw[<-hb6];have jR:Hid (Fs w.heap.size W4 u3 fs/\ ai2 w.heap.size w W4):=⟨HS.o.1.below a6.2,Below.ar HS.o.2 a6.2⟩;obtain⟨y0,y1⟩:=aS.c2 a6.1;clear hW hb6 a6 p0 p1 HS;go_wp2_with fail;refine(Fl (HT.o _ jR.o.2) HV.o.1 HV.o.2).mono ?_;rintro e w5 ⟨rfl,hB⟩;have hb5:=Below.ar jR.o.2 hB;obtain⟨ro,rc,hs,hG⟩:=jR.o.1.below hB;subst hs;clear hB jR y0 y1;go_wp2_with (at_builtin;refine dz w5 w rfl (.tmp 31) (.tmp 34) 107 rfl w.heap.size 9 1 16 i0 (.string ⟨#[]⟩) Tryz.underlying107 hi hz0 hz1 hz2 rfl (by omega) ro fs.length rc (fs.map λl=>[Fk l]) rfl hG [_] rfl (by simp[ai3]) (by simp[ai4,bB]) (by simp[bB]) _ rfl hb5 (hb5).size (by omega) (by omega) ?_;intro o3 PQ w3 hO hB3 hG3;have HF:Hid (Fs w.heap.size w3 (ai5 o3 (fs.length+1) PQ) (fs++[iB (v,e)])/\ ai2 w.heap.size w w3):=⟨⟨o3,PQ,by simp,by rw[ai9,List.length_singleton,aj3];exact hO⟩,hB3⟩;clear hO hB3 hG3 hG hb5);go_roundw
    case rel=>exact⟨k+1,by go_num,by omega,by rw[WB.o];exact HF.o⟩
    case measure=>simp[intOf];omega
   ·obtain rfl:k=l:=by omega
    have HR:Hid (Fs w.heap.size wr u3 (tC (c,ms))/\ ai2 w.heap.size w wr):=by
     rw[QE.o.1];have h:=HS.o;rw[aj7 (by rw[EL.o];exact aj9 _)]at h;exact h
    clear HS;go_wp2_with fail;go_ret;exact⟨_,rfl,HR.o.1,HR.o.2⟩
end
section
open Go.RowKit
theorem JB {t:ai} {K:Nat} (hb:Bd t.1 K) (hm:∀x∈t.2,(0<=x.1/\ x.1<=200)/\ 0<=x.2/\ x.2<=10000) (hl:t.2.length<=200) (hK:K<=1000):(gR t).length<=20000:=by
 have h1:(ai1 t.1.natAbs).length<=10*K+2:=by
  have:=MS (z:=(t.1.natAbs:Int)) (k:=K) (by unfold Bd at*;simpa using hb);rwa[mF (by omega)]at this
 have h2:∀x∈t.2,(iB x).length<=12:=λx hx=>MO ⟨(hm x hx).1.1,by have:=(hm x hx).1.2;omega⟩ (hm x hx).2
 unfold gR;cases hc:t.2 with
 |nil=>simp only;omega
 |cons w r=>
  rw[hc]at h2 hl;have h3:=h2 w (by simp);have h4:=ze r λx hx=>h2 x (by simp[hx])
  simp only[ai7]at hl;have h5:r.length*(12+1)<=199*13:=Nat.mul_le_mul_right _ (by omega);simp only[ai9];split<;>simp<;>omega
theorem Ur (t:ai):0<(tC t).length:=by
 unfold tC;split
 ·simp
 ·rename_i h;have:t.2≠[]:=λe=>h (.inr e)
  rw[List.nil_append,aj5];exact List.length_pos_iff.2 this
theorem Fs.join [Ol] {B:Nat} {w:ah6} {s:ah7} {fs:List (List UInt8)} (h:Fs B w s fs) (h0:0<fs.length) (h1:fs.length<=1000) (hl:(([42]:List UInt8).intercalate fs).length<=1000000):
  Calls Tryz.prog 60 #[s,.string ⟨#[42]⟩] w (cr (.string ⟨(([42]:List UInt8).intercalate fs).toArray⟩) w):=by
 obtain⟨ro,rc,rfl,hG⟩:=h;rcases hG.parts with⟨_,h,_⟩|⟨g,cur,rfl,_,hlt,hle,_⟩
 ·omega
 ·have hgl:=hG.gl
  have e:(fs.map λl=>(⟨l.toArray⟩:ByteArray)).map (·.data.toList)=fs:=by
   rw[List.map_map]
   conv=>rhs;rw[<-List.map_id fs]
   rfl
  have hc:∀(j:Nat) x,(fs.map λl=>(⟨l.toArray⟩:ByteArray))[j]? =some x->w.cell? ⟨g,j,none⟩=some (.string x):=λj x hx=>by
   rw[List.getElem?_map]at hx;cases hj:fs[j]? with
   |none=>rw[hj]at hx;cases hx
   |some l=>
    rw[hj]at hx;cases hx;have hjl:j<fs.length:=(List.getElem?_eq_some_iff.1 hj).1;have:=hgl.cells _ rfl j hjl 0 (by omega);rw[Addr.add_lit]at this;simpa[aj4,hj,Fk]using this
  have:=JC g rc (fs.map λl=>(⟨l.toArray⟩:ByteArray)) w hc hlt (by rw[aj5];exact h1) (by rw[aj5];exact hle) (by rw[e];exact hl);rw[e,aj5]at this;exact this
end
section
open Lib (hid)
open Go.RowKit
theorem yT [Ol] {K:Nat} {ao:Z'} {n ae:Nat} {p:List ai} {w:ah6} (hp:Pc K w ao n ae p) (hf:bD p) (ht:vS w) (hK:K<=1000) (hn:n<=100000):
  Calls Tryz.prog 20 #[ai5 ao n ae] w (λe w'=>e= .returned (.string ⟨(rR p).toArray⟩)/\ ai2 w.heap.size w w'):=by
 have HP:=hid hp;have HF:=hid hf;have rK:Hid (p.length=n):=hp.len;have HT:Hid (∀V,ai2 w.heap.size w V->vS V):=λV hV=>ht.below hV
 clear hp hf ht;go_enter Tryz.func20,Tryz.ntmps20;go_wp2_with fail;refine(kJ HP.o HF.o hK).mono ?_;rintro e w1 ⟨rfl,hB1⟩;by_cases hn0:n=0
 ·have hp0:Hid (p=[]):=aj0 (rK.o.trans hn0);have HB:=hid hB1;subst hn0;clear hB1;go_wp2_with fail;go_ret;exact⟨by rw[hp0.o];rfl,HB.o⟩
 ·have hd:((n:Int)==0)=false:=by simpa using(show¬(n:Int)=0 by omega)
  obtain⟨b3,hb3⟩:∃b,b=w1.heap.size:=⟨_,rfl⟩;go_upto_region 6 with(fail)
  refine aj (λW2 hW=>?_)
  have HS2:Hid (Bl w.heap.size b3 (xY 0 (p.take 0)) W2/\ ai2 w.heap.size w W2/\ (xY 0 (p.take 0)).length<=0*20001):=by
   refine⟨?_,?_,aj9 _⟩
   ·rw[hW,hb3];exact Bl.cS hB1.size
   ·rw[hW];exact hB1.trans ((af w1 _).mono hB1.size)
  rw[<-hb3];have hwb:w.heap.size<=b3:=by rw[hb3];exact hB1.size
  clear hW hb3 hB1 hd;go_wp2_with fail;go_loopw [14] (λi wr=>∃k:Nat,i= .int .i64 k/\ k<=n/\ Hid (Bl w.heap.size b3 (xY 0 (p.take k)) wr/\ ai2 w.heap.size w wr/\ (xY 0 (p.take k)).length<=k*20001)) (λi _=>n-(intOf i).toNat)
  case atStart=>exact⟨0,rfl,aj8 _,HS2.o⟩
  case round=>
   clear HS2;obtain⟨k,rfl,hk,HS⟩:=hrel;by_cases hkn:k<n
   ·obtain⟨b,off,xm,xa,xn,xc,xp,xq,xr,yx,hbl,hc,rL,hBd,lZ⟩:=HP.o.at (k:=k) hkn;subst yx;obtain⟨c0,c1,c2⟩:=hc wr HS.o.2.1;have hkl:k<p.length:=by rw[rK.o];exact hkn
    obtain⟨t,ht⟩:∃t,t=p.getD k (0,[]):=⟨_,rfl⟩;rw[<-ht]at rL hBd lZ;have hpk:p[k]=t:=by rw[ht];simp[aj4,hkl]
    have htp:t∈p:=by rw[ht];exact gK _ hkl
    have LK:=bG HF.o t htp;have hnx:xY 0 (p.take (k+1))=xY 0 (p.take k)++kI k t:=by rw[aj2 hkl,CO,hpk,aj6,Nat.zero_add,Nat.min_eq_left (by omega)]
    have hmm:∀x∈t.2,(0<=x.1/\ x.1<=200)/\ 0<=x.2/\ x.2<=10000:=λx hx=>nC LK (Int.le_refl _) x hx
    have htl:=JB hBd hmm (vu LK) hK;have HX:Hid (∀V,ai2 w.heap.size w V->Cn V xm xa xn xc t.1/\ Ml V xp xq xr t.2):=λV hV=>⟨rL.below hV,lZ.below hV⟩
    have hxm:xm=decide (t.1<0):=rL.neg;have hxq:t.2.length=xq:=lZ.len;have HY:=hid (ah5 hBd (ah5 hmm (ah5 htl (ah5 hnx (ah5 (vu LK) hxq)))));have HXM:=hid hxm;have hki:(k:Int)<(n:Int):=by omega
    clear hxm hc rL hBd lZ hbl ht hpk htp LK hnx hmm htl hkl hxq;obtain⟨b5,hb5⟩:∃b,b=wr.heap.size:=⟨_,rfl⟩;go_upto_region 9 with(fail)
    refine aj (λW1 hW=>?_);have a5:aS W1 b5 [ai6 xm,ai5 xa xn xc,ai5 xp xq xr] 70/\ ai2 wr.heap.size wr W1:=by rw[hW,hb5];exact gp wr _ 70
    rw[<-hb5]
    have ab1:b5≠b3:=by
     have h3:b3<wr.heap.size:=by
      rcases HS.o.1 with h|h
      ·exact ah9.lt h
      ·exact ah9.lt h
     omega
    have nd:Hid (aS W1 b5 [ai6 xm,ai5 xa xn xc,ai5 xp xq xr] 70/\ Bl w.heap.size b3 (xY 0 (p.take k)) W1/\ ai2 w.heap.size w W1/\ (xY 0 (p.take k)).length<=k*20001):=⟨a5.1,HS.o.1.below a5.2,HS.o.2.1.trans (a5.2.mono HS.o.2.1.size),HS.o.2.2⟩;obtain⟨y0,y1,y2⟩:=aS.c3 a5.1;clear hW hb5 a5 c0 c1 c2 HS;have hkeep:∀V:ah6,ai0 5 (some b3) W1 V->aS V b5 [ai6 xm,ai5 xa xn xc,ai5 xp xq xr] 70:=λV hV=>hV b5 _ nd.o.1 (λe=>ab1 (Option.some.inj e)) λc fz e=>by cases e
    have MT:=hid hkeep;clear hkeep;have hk0:k=0∨0<k:=by omega
    by_cases hneg:t.1<0;obtain rfl:xm=true:=by rw[HXM.o];exact decide_eq_true hneg
    have kt:Hid (kI k t=[45]++gR t):=by unfold kI;rw[Hid,if_pos hneg]
    clear hneg hk0
    focus go_upto_region 10 with(fail)
    focus go_wp2_with fail
    refine(wy (r:=[45]) nd.o.2.1 (by have:=nd.o.2.2.2;simp;omega) nd.o.2.2.1.size).mono ?_;rintro e w5 ⟨rfl,hBl,hB,hO⟩;have iy:Hid (aS w5 b5 [ai6 true,ai5 xa xn xc,ai5 xp xq xr] 70/\ Bl w.heap.size b3 (xY 0 (p.take k)++[45]) w5/\ ai2 w.heap.size w w5):=⟨MT.o w5 hO,hBl,nd.o.2.2.1.trans hB⟩;have MH:=hid nd.o.2.2.2;clear hBl hB hO nd MT y0 y1 y2
    focus go_upto_region 13 with(fail)
    rotate_left
    obtain rfl:xm=false:=by rw[HXM.o];exact decide_eq_false hneg
    rcases hk0 with h0|h0
    have kt:Hid (kI k t=[]++gR t):=by unfold kI;rw[Hid,if_neg hneg,if_neg (by omega)]
    have Us:¬(0:Int)<(k:Int):=by omega
    have iy:Hid (aS W1 b5 [ai6 false,ai5 xa xn xc,ai5 xp xq xr] 70/\ Bl w.heap.size b3 (xY 0 (p.take k)++[]) W1/\ ai2 w.heap.size w W1):=⟨nd.o.1,by rw[aj1];exact nd.o.2.1,nd.o.2.2.1⟩;have MH:=hid nd.o.2.2.2;clear hneg h0 nd MT
    focus go_upto_region 13 with(fail)
    clear y0 y1 y2 Us
    rotate_left
    have kt:Hid (kI k t=[43]++gR t):=by unfold kI;rw[Hid,if_neg hneg,if_pos h0]
    have Us:(0:Int)<(k:Int):=by omega
    clear hneg h0
    focus go_upto_region 12 with(fail)
    focus go_wp2_with fail
    refine(wy (r:=[43]) nd.o.2.1 (by have:=nd.o.2.2.2;simp;omega) nd.o.2.2.1.size).mono ?_;rintro e w5 ⟨rfl,hBl,hB,hO⟩;have iy:Hid (aS w5 b5 [ai6 false,ai5 xa xn xc,ai5 xp xq xr] 70/\ Bl w.heap.size b3 (xY 0 (p.take k)++[43]) w5/\ ai2 w.heap.size w w5):=⟨MT.o w5 hO,hBl,nd.o.2.2.1.trans hB⟩;have MH:=hid nd.o.2.2.2;clear hBl hB hO nd MT y0 y1 y2
    focus go_upto_region 13 with(fail)
    clear Us
    all_goals
     obtain⟨y0,y1,y2⟩:=aS.c3 iy.o.1;go_wp2_with fail;refine(AR (HX.o _ iy.o.2.2).1 HY.o.1 (HX.o _ iy.o.2.2).2 (HT.o _ iy.o.2.2) HY.o.2.1 (by have h1:=HY.o.2.2.2.2.1;have h2:=HY.o.2.2.2.2.2;omega) (by omega)).mono ?_;rintro e w6 ⟨s,rfl,hFs,hB⟩;have mj:Hid (Bl w.heap.size b3 _ w6/\ ai2 w.heap.size w w6):=⟨iy.o.2.1.below hB,Below.ar iy.o.2.2 hB⟩;have HFs:=hid hFs;clear hFs hB iy y0 y1 y2;go_wp2_with fail
     refine(Fs.join HFs.o (Ur _) (by
      have h1:=HY.o.2.2.2.2.1;unfold tC;rw[ai9,aj5];split<;>simp<;>omega) (by rw[CQ];have:=HY.o.2.2.1;show(gR t).length<=1000000;omega)).mono ?_
     rintro e w7 ⟨rfl,hB⟩;rw[CQ];have dU:Hid (Bl w.heap.size b3 _ w7/\ ai2 w.heap.size w w7):=⟨mj.o.1.below hB,Below.ar mj.o.2 hB⟩;clear hB mj HFs;go_wp2_with fail;refine(wy (r:=gR t) dU.o.1 (by have h1:=MH.o;have h2:=HY.o.2.2.1;simp;omega) dU.o.2.size).mono ?_;rintro e w8 ⟨rfl,hBl,hB,_⟩
     have Fh:Hid (Bl w.heap.size b3 (xY 0 (p.take (k+1))) w8/\ ai2 w.heap.size w w8/\ (xY 0 (p.take (k+1))).length<=(k+1)*20001):=by
      have h1:=MH.o;have h2:=HY.o.2.2.1;refine⟨?_,dU.o.2.trans hB,?_⟩
      ·rw[HY.o.2.2.2.1,kt.o,<-ai8];exact hBl
      ·rw[HY.o.2.2.2.1,kt.o];simp;omega
     clear hBl hB dU;go_wp2_with fail;go_roundw
     case rel=>exact⟨k+1,by go_num,by omega,Fh.o⟩
     case measure=>simp[intOf];omega
   ·obtain rfl:k=n:=by omega
    have HR:Hid (Bl w.heap.size b3 (rR p) wr/\ ai2 w.heap.size w wr):=by
     have h:=HS.o;rw[aj7 (by rw[rK.o];exact aj9 _),MN (λe=>by have:=rK.o;rw[e]at this;simp at this;omega)]at h;exact⟨h.1,h.2.1⟩
    have hkk:¬(k:Int)<(k:Int):=by omega
    clear HS;go_wp2_with fail;refine(MP HR.o.1 HR.o.2.size).mono ?_;rintro e w5 ⟨rfl,hB⟩;have oq:=hid (HR.o.2.trans hB);clear hB HR;go_wp2_with fail;go_ret;exact⟨rfl,oq.o⟩
end
end Go.Proofs.YtmenbpmciblnlaaGreatDoor

/- VaShelf, VaTxt, VaBld, VaFac, VaText, VaText2 -/
import Derived.Shelf.Strings.BuilderK
import Derived.Test.YtmenbpmciblnlaaGreatDoorGP6
import Derived.Test.YtmenbpmciblnlaaGreatDoorGTxt
import Derived.Test.YtmenbpmciblnlaaGreatDoorGRd1
import Derived.Test.YtmenbpmciblnlaaGreatDoorGP5
set_option maxHeartbeats 0
set_option maxRecDepth 100000
open Go.Lib renaming BuilderAtF->a0b,OthersKept->a0c,byteCells->a0a,decDigits->a0d
open Go.Value renaming cells->a0f,oneCell'->a0e,slice->a0g
open List renaming append_assoc->a0i,append_nil->a0l,eq_nil_of_length_eq_zero->a0k,getD->a0o,length_append->a0j,length_cons->a0h,length_map->a0p,length_take->a0q,map_append->a0n,take_of_length_le->a0r,take_succ_eq_append_getElem->a0m
/- What the shelf's contracts of strings.Builder's WriteString and String ask of this program. -/
namespace Go.Proofs.YtmenbpmciblnlaaGreatDoor
section
open Go.Shelf
def Tryz.yF:Go.Shelf.Ren:=⟨λ|166=>59|240=>106|276=>158|n=>n,λ|0=>0|3=>3|4=>4|5=>5|9=>9|20=>20|37=>99|70=>98|72=>101|75=>103|80=>109|164=>206|n=>n,λn=>n⟩
theorem Tryz.UG:Go.Proofs.Lays.n166 Tryz.prog Tryz.yF:={
 mixed:=by kernel_rfl
 f166:=Tryz.func59.trans (congrArg some (by kernel_rfl))
 f240:=Tryz.func106.trans (congrArg some (by kernel_rfl))
 f276:=Tryz.func158.trans (congrArg some (by kernel_rfl))
 t0:=Tryz.underlying0
 a0:=Tryz.isAgg0
 z0:=Tryz.sizeOf0
 v0:=Tryz.zeroValue0
 t3:=Tryz.underlying3
 a3:=Tryz.isAgg3
 z3:=Tryz.sizeOf3
 v3:=Tryz.zeroValue3
 t4:=Tryz.underlying4
 a4:=Tryz.isAgg4
 z4:=Tryz.sizeOf4
 v4:=Tryz.zeroValue4
 t9:=Tryz.underlying9
 a9:=Tryz.isAgg9
 z9:=Tryz.sizeOf9
 v9:=Tryz.zeroValue9
 t20:=Tryz.underlying20
 a20:=Tryz.isAgg20
 z20:=Tryz.sizeOf20
 v20:=Tryz.zeroValue20
 t37:=Tryz.underlying99
 a37:=Tryz.isAgg99
 z37:=Tryz.sizeOf99
 v37:=Tryz.zeroValue99
 t70:=Tryz.underlying98
 a70:=Tryz.isAgg98
 z70:=Tryz.sizeOf98
 v70:=Tryz.zeroValue98
 t72:=Tryz.underlying101
 a72:=Tryz.isAgg101
 z72:=Tryz.sizeOf101
 v72:=Tryz.zeroValue101
 t75:=Tryz.underlying103
 a75:=Tryz.isAgg103
 z75:=Tryz.sizeOf103
 v75:=Tryz.zeroValue103
 t164:=Tryz.underlying206
 a164:=Tryz.isAgg206
 z164:=Tryz.sizeOf206
 v164:=Tryz.zeroValue206 }
theorem Tryz.Cs:Builder.Extra Tryz.prog Tryz.yF:={
 sizeBuilder:=by kernel_rfl
 liesBuilder:=by kernel_rfl
 t5:=Tryz.underlying5
 a5:=Tryz.isAgg5
 z5:=Tryz.sizeOf5
 v5:=Tryz.zeroValue5
 infoByte:=by kernel_rfl
 cellsByte:=by kernel_rfl
 sizeByte:=by kernel_rfl
 neB5:=by decide }
def Tryz.yG:Go.Shelf.Ren:=⟨λ|169=>62|n=>n,λ|0=>0|3=>3|5=>5|9=>9|37=>99|70=>98|72=>101|127=>157|n=>n,λn=>n⟩
theorem Tryz.UH:Go.Proofs.Lays.n169 Tryz.prog Tryz.yG:={
 mixed:=by kernel_rfl
 f169:=Tryz.func62.trans (congrArg some (by kernel_rfl))
 t0:=Tryz.underlying0
 a0:=Tryz.isAgg0
 z0:=Tryz.sizeOf0
 v0:=Tryz.zeroValue0
 t3:=Tryz.underlying3
 a3:=Tryz.isAgg3
 z3:=Tryz.sizeOf3
 v3:=Tryz.zeroValue3
 t9:=Tryz.underlying9
 a9:=Tryz.isAgg9
 z9:=Tryz.sizeOf9
 v9:=Tryz.zeroValue9
 t37:=Tryz.underlying99
 a37:=Tryz.isAgg99
 z37:=Tryz.sizeOf99
 v37:=Tryz.zeroValue99
 t70:=Tryz.underlying98
 a70:=Tryz.isAgg98
 z70:=Tryz.sizeOf98
 v70:=Tryz.zeroValue98
 t72:=Tryz.underlying101
 a72:=Tryz.isAgg101
 z72:=Tryz.sizeOf101
 v72:=Tryz.zeroValue101
 t127:=Tryz.underlying157
 a127:=Tryz.isAgg157
 z127:=Tryz.sizeOf157
 v127:=Tryz.zeroValue157 }
theorem Tryz.Ct:Builder.Extra Tryz.prog Tryz.yG:={
 sizeBuilder:=by kernel_rfl
 liesBuilder:=by kernel_rfl
 t5:=Tryz.underlying5
 a5:=Tryz.isAgg5
 z5:=Tryz.sizeOf5
 v5:=Tryz.zeroValue5
 infoByte:=by kernel_rfl
 cellsByte:=by kernel_rfl
 sizeByte:=by kernel_rfl
 neB5:=by decide }
end
/- A polynomial's text, term by term. -/
section
open Go.RowKit Go.Lib
def ny (i:Nat) (t:Term):List UInt8:=(if t.1<0 then[45]else if 0<i then[43]else[])++jv t
def Ca:Nat->List Term->List UInt8
 | _,[]=>[]
 |i,t::r=>ny i t++Ca (i+1) r
theorem GA (t:Term):∀(p:List Term) (i:Nat),Ca i (p++[t])=Ca i p++ny (i+p.length) t
 |[],i=>by simp[Ca]
 |s::r,i=>by
  simp only[List.cons_append,Ca,a0h];rw[GA t r (i+1),a0i,show i+1+r.length=i+(r.length+1)by omega]
theorem GD:∀(p:List Term) (i:Nat),0<i->Ca i p=Ak p
 |[],_,_=>rfl
 |t::r,i,h=>by
  simp only[Ca,Ak,ny];rw[GD r (i+1) (by omega),if_pos h];split<;>simp
theorem QM {p:List Term} (h:p≠[]):Ca 0 p=vO p:=by
 cases p with
 |nil=>exact absurd rfl h
 |cons t r=>
  simp only[Ca,vO,ny];rw[GD r 1 (by omega)];simp
theorem Dj {X:Nat}:∀(ms:List (Int×Int)),(∀x∈ms,(jY x).length<=X)->(qQ ms).length<=ms.length*(X+1)
 |[],_=>by simp[qQ]
 |w::r,h=>by
  have h1:=h w (by simp);have h2:=Dj r λx hx=>h x (by simp[hx])
  simp only[qQ,a0h,a0j];rw[Nat.add_mul];omega
theorem QN {v e:Int} (hv:0<=v/\ v<=10000) (he:0<=e/\ e<=10000):(jY (v,e)).length<=12:=by
 have h1:=pz hv.1 hv.2;have h2:=pz he.1 he.2;unfold jY;simp only[a0h,a0j];split
 ·simp;omega
 ·simp;omega
end
/- The contracts of strings.Builder's WriteString and String, and what goes on of a builder. -/
section
open Go.RowKit
def Bl (B b:Nat) (l:List UInt8) (w:World):Prop:=Lib.IsBuilderF 101 5 B b (a0a l) w
theorem Bl.new {w:World} {B:Nat} (hB:B<=w.heap.size):Bl B w.heap.size [] (w.alloc (.cells #[.pointer none,a0g none 0 0] 101)):=by
 refine .inl ⟨hB,a0g none 0 0,?_,World.ownsRowF_nil _ _ _ _,λe=>by cases e⟩;show(w.heap.push _)[w.heap.size]? =_;rw[Array.getElem?_push_size]
theorem Bl.below {B b:Nat} {l:List UInt8} {w w':World} (h:Bl B b l w) (hb:Below w.heap.size w w'):Bl B b l w':=by
 have key:∀p,a0b 101 5 B b p (a0a l) w->a0b 101 5 B b p (a0a l) w':=λp h=>by
  obtain⟨hB,v,hbk,hown,hne⟩:=h;exact⟨hB,v,(hb.block b (lt_of_block hbk)).trans hbk,hown.kept (eU none hb) (by cases h:v.ownBlock with|none=>exact .inl rfl|some k=>exact .inr (λe=>by cases e)),hne⟩
 exact h.imp (key _) (key _)
theorem Al {B b:Nat} {l r:List UInt8} {w:World} (h:Bl B b l w) (hl:l.length+r.length<=140737488355328) (hB:B<=w.heap.size):
  Calls Tryz.prog 59 #[.pointer (some ⟨b,0,none⟩),.string ⟨r.toArray⟩] w λe w'=>e= .returned (.tuple #[.int .i64 r.length,.nilIface])/\ Bl B b (l++r) w'/\ Below B w w'/\ a0c 5 (some b) w w':=
 (Any.Builder_WriteString_k Tryz.UG Tryz.Cs B b (a0a l) ⟨r.toArray⟩ w h (by rw[Lib.byteCells_length];exact hl) hB).mono λe w' ⟨h1,h2,h3,h4⟩=>⟨h1,.inr (by rw[Lib.byteCells_append];exact h2),h3,h4⟩
theorem QO {B b:Nat} {l:List UInt8} {w:World} (h:Bl B b l w) (hB:B<=w.heap.size):
  Calls Tryz.prog 62 #[.pointer (some ⟨b,0,none⟩)] w λe w'=>e= .returned (.string ⟨l.toArray⟩)/\ Below B w w':=
 (Any.Builder_String_any_k Tryz.UH Tryz.Ct B b l w h hB).mono λ_ _ ⟨h1,_,h3,_⟩=>⟨h1,h3⟩
end
/- The contract of value.factors. -/
section
open Lib (hid)
open Go.RowKit
def JN (l:List UInt8):Value:= .string ⟨l.toArray⟩
theorem Tryz.QR:(Tryz.prog.info? 9).map (λi=>(i.zero,i.size,i.bytes))=some (some (.string ⟨#[]⟩),1,16):=by kernel_rfl
def Fs (B:Nat) (w:World) (s:Value) (fs:List (List UInt8)):Prop:=∃ro rc,s=a0g ro fs.length rc/\ jb B 9 1 w ro fs.length rc (fs.map λl=>[JN l])
theorem Fs.below {B:Nat} {w w':World} {s:Value} {fs:List (List UInt8)} (h:Fs B w s fs) (hb:Below w.heap.size w w'):Fs B w' s fs:=by
 obtain⟨ro,rc,h1,h2⟩:=h;exact⟨ro,rc,h1,h2.below hb⟩
theorem Ez [Ol] {K:Nat} {m:Bool} {ao:Option Addr} {n cap:Nat} {bo:Option Addr} {l cb:Nat} {c:Int} {ms:List (Int×Int)} {w:World} (hC:Cn w m ao n cap c) (hb:Bd c K) (hM:Ml w bo l cb ms) (ht:zX w) (hm:∀x∈ms,(0<=x.1/\ x.1<=200)/\ 0<=x.2/\ x.2<=10000) (hl:l<=1000) (hK:K<=100000):
  Calls Tryz.prog 61 #[.agg #[.bool m,a0g ao n cap,a0g bo l cb]] w (λe w'=>∃s,e= .returned s/\ Fs w.heap.size w' s (xH (c,ms))/\ Below w.heap.size w w'):=by
 obtain⟨i0,hi,hz0,hz1,hz2⟩:=info_parts Tryz.QR;have hN:Hid (∀V,Below w.heap.size w V->Nx V false ao n cap (c.natAbs:Int)):=λV hV=>⟨⟨_,hC.sl.below hV,by show((val (limbs c.natAbs):Nat):Int)=_;rw[au]⟩,by have h1:=hC.sl.len;have h2:=hb.len;omega⟩
 have HM:Hid (∀V,Below w.heap.size w V->Ml V bo l cb ms):=λV hV=>hM.below hV
 have HT:Hid (∀V,Below w.heap.size w V->zX V):=λV hV=>ht.below hV
 have CX:Hid (ms.length=l):=hM.len;have Ls:=hid hm;clear hC hb hM ht hm;go_enter Tryz.func61,Tryz.ntmps61;obtain⟨b1,hb1⟩:∃b,b=w.heap.size:=⟨_,rfl⟩;go_upto_region 1 with(fail)
 refine aj (λW0 hW=>?_);have a1:bD W0 b1 [.bool m,a0g ao n cap,a0g bo l cb] 70/\ Below w.heap.size w W0:=by rw[hW,hb1];exact jC w _ 70
 rw[<-hb1];have HA:=hid a1;obtain⟨x0,x1,x2⟩:=bD.c3 a1.1;clear hW hb1 a1;go_wp2_with fail;refine(QS (hN.out W0 HA.out.2) (HT.out W0 HA.out.2)).mono ?_;rintro e w2 ⟨rfl,hB⟩;obtain⟨u,hu⟩:∃u:ByteArray,u=⟨(Lib.itoa (c.natAbs:Int)).toArray⟩:=⟨_,rfl⟩;rw[<-hu]
 have HU:Hid (u.data.toList=a0d c.natAbs):=by
  rw[Hid,hu,pE (by omega)];simp
 have HA2:Hid (bD w2 b1 [.bool m,a0g ao n cap,a0g bo l cb] 70/\ Below w.heap.size w w2):=⟨HA.out.1.below hB,Below.steps HA.out.2 hB⟩;clear hu hB HA x0 x1 x2;obtain⟨x0,x1,x2⟩:=bD.c3 HA2.out.1
 have HUE:Hid (Value.string u=JN (a0d c.natAbs)):=by
  unfold JN;rw[Hid,<-HU.out]
 by_cases h1:a0d c.natAbs=[49];by_cases h2:ms=[];have hl0:l=0:=by have:=CX.out;rw[h2]at this;simpa using this.symm
 have hq:(u.toList==[49])=true:=lT (HU.out.trans h1);have hq2:(u.toList !=[49])=false:=by simp[bne,hq]
 have hli:((l:Int)==0)=true:=by rw[hl0];rfl
 obtain⟨pre,hpre⟩:∃pre:List (List UInt8),pre=[a0d c.natAbs]:=⟨_,rfl⟩;have Pm:Hid (xH (c,ms)=pre++ms.map jY/\ pre.length<=1):=⟨by rw[hpre];unfold xH;rw[if_pos (.inr h2)],by rw[hpre];simp⟩;have Yb:=hid hpre;clear h1 h2 hl0 hpre
 focus go_upto_region 5 with(at_builtin;refine fB w2 w rfl (.tmp 20) (.tmp 22) 107 rfl w.heap.size 9 1 16 i0 (.string ⟨#[]⟩) Tryz.underlying107 hi hz0 hz1 hz2 rfl (by omega) none 0 0 [] rfl (jb.nil _ _ _ _) [_] rfl (by simp[a0e]) (by simp[a0f,bF]) (by simp[bF]) _ rfl HA2.out.2 (HA2.out.2).size (by omega) (by omega) ?_;intro o3 WV w3 hO hB3 hG3;have HW3:Hid (bD w3 b1 [.bool m,a0g ao n cap,a0g bo l cb] 70):=(HA2.out.1.below (af w2 _)).apart hG3 (λe=>by cases e);have HF:Hid (Fs w.heap.size w3 (a0g o3 1 WV) pre/\ Below w.heap.size w w3):=⟨⟨o3,WV,by rw[Yb.out];rfl,by rw[Yb.out];show jb _ _ _ _ _ 1 _ [[JN _]];rw[<-HUE.out];exact hO⟩,hB3⟩;clear hO hB3 hG3 Yb)
 clear hq hq2 hli HA2 x0 x1 x2
 rotate_left
 have hl0:l≠0:=λe=>h2 (a0k (CX.out.trans e))
 have hq:(u.toList==[49])=true:=lT (HU.out.trans h1);have hq2:(u.toList !=[49])=false:=by simp[bne,hq]
 have hli:((l:Int)==0)=false:=by simpa using(show¬(l:Int)=0 by omega)
 obtain⟨pre,hpre⟩:∃pre:List (List UInt8),pre=[]:=⟨_,rfl⟩;have Pm:Hid (xH (c,ms)=pre++ms.map jY/\ pre.length<=1):=⟨by rw[hpre];unfold xH;rw[if_neg (λh=>h.elim (λh=>h h1) h2)],by rw[hpre];simp⟩;have HF:Hid (Fs w.heap.size w2 (a0g none 0 0) pre/\ Below w.heap.size w w2):=⟨⟨none,0,by rw[hpre];rfl,by rw[hpre];exact jb.nil _ _ _ _⟩,HA2.out.2⟩;have HW3:Hid (bD w2 b1 [.bool m,a0g ao n cap,a0g bo l cb] 70):=HA2.out.1;clear h1 h2 hl0 hpre
 focus go_upto_region 5 with(fail)
 clear hq hq2 hli HA2 x0 x1 x2
 rotate_left
 have hq:(u.toList==[49])=false:=kE (λh=>h1 (HU.out.symm.trans h));have hq2:(u.toList !=[49])=true:=by simp[bne,hq]
 obtain⟨pre,hpre⟩:∃pre:List (List UInt8),pre=[a0d c.natAbs]:=⟨_,rfl⟩;have Pm:Hid (xH (c,ms)=pre++ms.map jY/\ pre.length<=1):=⟨by rw[hpre];unfold xH;rw[if_pos (.inl h1)],by rw[hpre];simp⟩;have Yb:=hid hpre;clear h1 hpre
 focus go_upto_region 5 with(at_builtin;refine fB w2 w rfl (.tmp 20) (.tmp 22) 107 rfl w.heap.size 9 1 16 i0 (.string ⟨#[]⟩) Tryz.underlying107 hi hz0 hz1 hz2 rfl (by omega) none 0 0 [] rfl (jb.nil _ _ _ _) [_] rfl (by simp[a0e]) (by simp[a0f,bF]) (by simp[bF]) _ rfl HA2.out.2 (HA2.out.2).size (by omega) (by omega) ?_;intro o3 WV w3 hO hB3 hG3;have HW3:Hid (bD w3 b1 [.bool m,a0g ao n cap,a0g bo l cb] 70):=(HA2.out.1.below (af w2 _)).apart hG3 (λe=>by cases e);have HF:Hid (Fs w.heap.size w3 (a0g o3 1 WV) pre/\ Below w.heap.size w w3):=⟨⟨o3,WV,by rw[Yb.out];rfl,by rw[Yb.out];show jb _ _ _ _ _ 1 _ [[JN _]];rw[<-HUE.out];exact hO⟩,hB3⟩;clear hO hB3 hG3 Yb)
 clear hq hq2 HA2 x0 x1 x2
 rotate_left
 all_goals
  obtain⟨x0,x1,x2⟩:=bD.c3 HW3.out;clear HU HUE;go_wp2_with fail;clear x0 x1 x2;go_loopw [3,27] (λs i wr=>∃k:Nat,i= .int .i64 k/\ k<=l/\ Hid (Fs w.heap.size wr s (pre++(ms.take k).map jY)/\ Below w.heap.size w wr)) (λ_ i _=>l-(intOf i).toNat)
  case atStart=>exact⟨0,rfl,Nat.zero_le _,by rw[List.take_zero,List.map_nil,a0l];exact HF.out⟩
  case round=>
   clear HF HW3;obtain⟨k,rfl,hk,HS⟩:=hrel;by_cases hkl:k<l
   ·obtain⟨b,off,Cj,hbl,hpc⟩:=(HM.out _ HS.out.2).at (by omega);subst Cj;obtain⟨p0,p1⟩:=hpc k hkl;obtain⟨⟨v,e⟩,hve⟩:∃y,ms.getD k (0,0)=y:=⟨_,rfl⟩;rw[hve]at p0 p1;have hmk:k<ms.length:=by rw[CX.out];exact hkl
    have hme:(v,e)∈ms:=by rw[<-hve];exact getD_in _ hmk
    have HV:=hid (Ls.out _ hme);obtain⟨fs,hfs⟩:∃fs,fs=pre++(ms.take k).map jY:=⟨_,rfl⟩
    have hnx:pre++(ms.take (k+1)).map jY=fs++[jY (v,e)]:=by
     rw[hfs,a0m hmk,a0n,a0i];have:ms[k]=(v,e):=by rw[<-hve];simp[a0o,hmk]
     simp[this]
    have hfl:fs.length<=1001:=by
     have:=Pm.out.2;rw[hfs,a0j,a0p,a0q];omega
    rw[<-hfs]at HS;have WW:=hid hnx;have hki:(k:Int)<(l:Int):=by omega
    clear hpc hve hme hfs hnx hmk hbl;obtain⟨b6,hb6⟩:∃b,b=wr.heap.size:=⟨_,rfl⟩;go_upto_region 8 with(fail)
    refine aj (λW4 hW=>?_);have a6:bD W4 b6 [.int .i64 v,.int .i64 e] 72/\ Below wr.heap.size wr W4:=by rw[hW,hb6];exact jC wr _ 72
    rw[<-hb6];have kT:Hid (Fs w.heap.size W4 u3 fs/\ Below w.heap.size w W4):=⟨HS.out.1.below a6.2,Below.steps HS.out.2 a6.2⟩;obtain⟨y0,y1⟩:=bD.c2 a6.1;clear hW hb6 a6 p0 p1 HS;go_wp2_with fail;refine(JO (HT.out _ kT.out.2) HV.out.1 HV.out.2).mono ?_;rintro e w5 ⟨rfl,hB⟩;have hb5:=Below.steps kT.out.2 hB;obtain⟨ro,rc,hs,hG⟩:=kT.out.1.below hB;subst hs;clear hB kT y0 y1;go_wp2_with (at_builtin;refine fB w5 w rfl (.tmp 31) (.tmp 34) 107 rfl w.heap.size 9 1 16 i0 (.string ⟨#[]⟩) Tryz.underlying107 hi hz0 hz1 hz2 rfl (by omega) ro fs.length rc (fs.map λl=>[JN l]) rfl hG [_] rfl (by simp[a0e]) (by simp[a0f,bF]) (by simp[bF]) _ rfl hb5 (hb5).size (by omega) (by omega) ?_;intro o3 WV w3 hO hB3 hG3;have HF:Hid (Fs w.heap.size w3 (a0g o3 (fs.length+1) WV) (fs++[jY (v,e)])/\ Below w.heap.size w w3):=⟨⟨o3,WV,by simp,by rw[a0j,List.length_singleton,a0n];exact hO⟩,hB3⟩;clear hO hB3 hG3 hG hb5);go_roundw
    case rel=>exact⟨k+1,by go_num,by omega,by rw[WW.out];exact HF.out⟩
    case measure=>simp[intOf];omega
   ·obtain rfl:k=l:=by omega
    have HR:Hid (Fs w.heap.size wr u3 (xH (c,ms))/\ Below w.heap.size w wr):=by
     rw[Pm.out.1];have h:=HS.out;rw[a0r (by rw[CX.out];exact Nat.le_refl _)]at h;exact h
    clear HS;go_wp2_with fail;go_ret;exact⟨_,rfl,HR.out.1,HR.out.2⟩
end
/- How long a term's text is; strings.Join at a row of texts of the call's own. -/
section
open Go.RowKit
theorem Nc {t:Term} {K:Nat} (hb:Bd t.1 K) (hm:∀x∈t.2,(0<=x.1/\ x.1<=200)/\ 0<=x.2/\ x.2<=10000) (hl:t.2.length<=200) (hK:K<=1000):(jv t).length<=20000:=by
 have h1:(a0d t.1.natAbs).length<=10*K+2:=by
  have:=QT (z:=(t.1.natAbs:Int)) (k:=K) (by unfold Bd at*;simpa using hb);rwa[pE (by omega)]at this
 have h2:∀x∈t.2,(jY x).length<=12:=λx hx=>QN ⟨(hm x hx).1.1,by have:=(hm x hx).1.2;omega⟩ (hm x hx).2
 unfold jv;cases hc:t.2 with
 |nil=>simp only;omega
 |cons w r=>
  rw[hc]at h2 hl;have h3:=h2 w (by simp);have h4:=Dj r λx hx=>h2 x (by simp[hx])
  simp only[a0h]at hl;have h5:r.length*(12+1)<=199*13:=Nat.mul_le_mul_right _ (by omega);simp only[a0j];split<;>simp<;>omega
theorem Yc (t:Term):0<(xH t).length:=by
 unfold xH;split
 ·simp
 ·rename_i h;have:t.2≠[]:=λe=>h (.inr e)
  rw[List.nil_append,a0p];exact List.length_pos_iff.2 this
theorem Fs.join [Ol] {B:Nat} {w:World} {s:Value} {fs:List (List UInt8)} (h:Fs B w s fs) (h0:0<fs.length) (h1:fs.length<=1000) (hl:(([42]:List UInt8).intercalate fs).length<=1000000):
  Calls Tryz.prog 60 #[s,.string ⟨#[42]⟩] w (cu (.string ⟨(([42]:List UInt8).intercalate fs).toArray⟩) w):=by
 obtain⟨ro,rc,rfl,hG⟩:=h;rcases hG.parts with⟨_,h,_⟩|⟨g,cur,rfl,_,hlt,hle,_⟩
 ·omega
 ·have hgl:=hG.gl
  have e:(fs.map λl=>(⟨l.toArray⟩:ByteArray)).map (·.data.toList)=fs:=by
   rw[List.map_map]
   conv=>rhs;rw[<-List.map_id fs]
   rfl
  have hc:∀(j:Nat) x,(fs.map λl=>(⟨l.toArray⟩:ByteArray))[j]? =some x->w.cell? ⟨g,j,none⟩=some (.string x):=λj x hx=>by
   rw[List.getElem?_map]at hx;cases hj:fs[j]? with
   |none=>rw[hj]at hx;cases hx
   |some l=>
    rw[hj]at hx;cases hx;have hjl:j<fs.length:=(List.getElem?_eq_some_iff.1 hj).1;have:=hgl.cells _ rfl j hjl 0 (by omega);rw[Addr.add_lit]at this;simpa[a0o,hj,JN]using this
  have:=Nf g rc (fs.map λl=>(⟨l.toArray⟩:ByteArray)) w hc hlt (by rw[a0p];exact h1) (by rw[a0p];exact hle) (by rw[e];exact hl);rw[e,a0p]at this;exact this
end
/- The contract of value.Text. -/
section
open Lib (hid)
open Go.RowKit
theorem Da [Ol] {K:Nat} {ao:Option Addr} {n cap:Nat} {p:List Term} {w:World} (hp:Pc K w ao n cap p) (hf:fall p) (ht:zX w) (hK:K<=1000) (hn:n<=100000):
  Calls Tryz.prog 20 #[a0g ao n cap] w (λe w'=>e= .returned (.string ⟨(vO p).toArray⟩)/\ Below w.heap.size w w'):=by
 have HP:=hid hp;have HF:=hid hf;have uj:Hid (p.length=n):=hp.len;have HT:Hid (∀V,Below w.heap.size w V->zX V):=λV hV=>ht.below hV
 clear hp hf ht;go_enter Tryz.func20,Tryz.ntmps20;go_wp2_with fail;refine(Am HP.out HF.out hK).mono ?_;rintro e w1 ⟨rfl,hB1⟩;by_cases hn0:n=0
 ·have hp0:Hid (p=[]):=a0k (uj.out.trans hn0);have HB:=hid hB1;subst hn0;clear hB1;go_wp2_with fail;go_ret;exact⟨by rw[hp0.out];rfl,HB.out⟩
 ·have hd:((n:Int)==0)=false:=by simpa using(show¬(n:Int)=0 by omega)
  obtain⟨b3,hb3⟩:∃b,b=w1.heap.size:=⟨_,rfl⟩;go_upto_region 6 with(fail)
  refine aj (λW2 hW=>?_)
  have HS2:Hid (Bl w.heap.size b3 (Ca 0 (p.take 0)) W2/\ Below w.heap.size w W2/\ (Ca 0 (p.take 0)).length<=0*20001):=by
   refine⟨?_,?_,Nat.le_refl _⟩
   ·rw[hW,hb3];exact Bl.new hB1.size
   ·rw[hW];exact hB1.trans ((af w1 _).mono hB1.size)
  rw[<-hb3];have hwb:w.heap.size<=b3:=by rw[hb3];exact hB1.size
  clear hW hb3 hB1 hd;go_wp2_with fail;go_loopw [14] (λi wr=>∃k:Nat,i= .int .i64 k/\ k<=n/\ Hid (Bl w.heap.size b3 (Ca 0 (p.take k)) wr/\ Below w.heap.size w wr/\ (Ca 0 (p.take k)).length<=k*20001)) (λi _=>n-(intOf i).toNat)
  case atStart=>exact⟨0,rfl,Nat.zero_le _,HS2.out⟩
  case round=>
   clear HS2;obtain⟨k,rfl,hk,HS⟩:=hrel;by_cases hkn:k<n
   ·obtain⟨b,off,xm,xa,xn,xc,xp,xq,xr,Cj,hbl,hc,Jz,hBd,zw⟩:=HP.out.at (k:=k) hkn;subst Cj;obtain⟨c0,c1,c2⟩:=hc wr HS.out.2.1;have hkl:k<p.length:=by rw[uj.out];exact hkn
    obtain⟨t,ht⟩:∃t,t=p.getD k (0,[]):=⟨_,rfl⟩;rw[<-ht]at Jz hBd zw;have hpk:p[k]=t:=by rw[ht];simp[a0o,hkl]
    have htp:t∈p:=by rw[ht];exact getD_in _ hkl
    have UC:=bU HF.out t htp;have hnx:Ca 0 (p.take (k+1))=Ca 0 (p.take k)++ny k t:=by rw[a0m hkl,GA,hpk,a0q,Nat.zero_add,Nat.min_eq_left (by omega)]
    have hmm:∀x∈t.2,(0<=x.1/\ x.1<=200)/\ 0<=x.2/\ x.2<=10000:=λx hx=>qA UC (Int.le_refl _) x hx
    have htl:=Nc hBd hmm (zF UC) hK;have HX:Hid (∀V,Below w.heap.size w V->Cn V xm xa xn xc t.1/\ Ml V xp xq xr t.2):=λV hV=>⟨Jz.below hV,zw.below hV⟩
    have hxm:xm=decide (t.1<0):=Jz.neg;have hxq:t.2.length=xq:=zw.len;have HY:=hid (And.intro hBd (And.intro hmm (And.intro htl (And.intro hnx (And.intro (zF UC) hxq)))));have HXM:=hid hxm;have hki:(k:Int)<(n:Int):=by omega
    clear hxm;clear hc Jz hBd zw hbl ht hpk htp UC hnx hmm htl hkl hxq;obtain⟨b5,hb5⟩:∃b,b=wr.heap.size:=⟨_,rfl⟩;go_upto_region 9 with(fail)
    refine aj (λW1 hW=>?_);have a5:bD W1 b5 [.bool xm,a0g xa xn xc,a0g xp xq xr] 70/\ Below wr.heap.size wr W1:=by rw[hW,hb5];exact jC wr _ 70
    rw[<-hb5]
    have ai5:b5≠b3:=by
     have h3:b3<wr.heap.size:=by
      rcases HS.out.1 with h|h
      ·exact a0b.lt h
      ·exact a0b.lt h
     omega
    have Ao:Hid (bD W1 b5 [.bool xm,a0g xa xn xc,a0g xp xq xr] 70/\ Bl w.heap.size b3 (Ca 0 (p.take k)) W1/\ Below w.heap.size w W1/\ (Ca 0 (p.take k)).length<=k*20001):=⟨a5.1,HS.out.1.below a5.2,HS.out.2.1.trans (a5.2.mono HS.out.2.1.size),HS.out.2.2⟩;obtain⟨y0,y1,y2⟩:=bD.c3 a5.1;clear hW hb5 a5 c0 c1 c2 HS;have hkeep:∀V:World,a0c 5 (some b3) W1 V->bD V b5 [.bool xm,a0g xa xn xc,a0g xp xq xr] 70:=λV hV=>hV b5 _ Ao.out.1 (λe=>ai5 (Option.some.inj e)) λc fz e=>by cases e
    have HKP:=hid hkeep;clear hkeep;have hk0:k=0∨0<k:=by omega
    by_cases hneg:t.1<0;obtain rfl:xm=true:=by rw[HXM.out];exact decide_eq_true hneg
    have mO:Hid (ny k t=[45]++jv t):=by unfold ny;rw[Hid,if_pos hneg]
    clear hneg hk0
    focus go_upto_region 10 with(fail)
    focus go_wp2_with fail
    refine(Al (r:=[45]) Ao.out.2.1 (by have:=Ao.out.2.2.2;simp;omega) Ao.out.2.2.1.size).mono ?_;rintro e w5 ⟨rfl,hBl,hB,hO⟩;have jB:Hid (bD w5 b5 [.bool true,a0g xa xn xc,a0g xp xq xr] 70/\ Bl w.heap.size b3 (Ca 0 (p.take k)++[45]) w5/\ Below w.heap.size w w5):=⟨HKP.out w5 hO,hBl,Ao.out.2.2.1.trans hB⟩;have QG:=hid Ao.out.2.2.2;clear hBl hB hO Ao HKP y0 y1 y2
    focus go_upto_region 13 with(fail)
    rotate_left
    obtain rfl:xm=false:=by rw[HXM.out];exact decide_eq_false hneg
    rcases hk0 with h0|h0
    have mO:Hid (ny k t=[]++jv t):=by unfold ny;rw[Hid,if_neg hneg,if_neg (by omega)]
    have Yd:¬(0:Int)<(k:Int):=by omega
    have jB:Hid (bD W1 b5 [.bool false,a0g xa xn xc,a0g xp xq xr] 70/\ Bl w.heap.size b3 (Ca 0 (p.take k)++[]) W1/\ Below w.heap.size w W1):=⟨Ao.out.1,by rw[a0l];exact Ao.out.2.1,Ao.out.2.2.1⟩;have QG:=hid Ao.out.2.2.2;clear hneg h0 Ao HKP
    focus go_upto_region 13 with(fail)
    clear y0 y1 y2 Yd
    rotate_left
    have mO:Hid (ny k t=[43]++jv t):=by unfold ny;rw[Hid,if_neg hneg,if_pos h0]
    have Yd:(0:Int)<(k:Int):=by omega
    clear hneg h0
    focus go_upto_region 12 with(fail)
    focus go_wp2_with fail
    refine(Al (r:=[43]) Ao.out.2.1 (by have:=Ao.out.2.2.2;simp;omega) Ao.out.2.2.1.size).mono ?_;rintro e w5 ⟨rfl,hBl,hB,hO⟩;have jB:Hid (bD w5 b5 [.bool false,a0g xa xn xc,a0g xp xq xr] 70/\ Bl w.heap.size b3 (Ca 0 (p.take k)++[43]) w5/\ Below w.heap.size w w5):=⟨HKP.out w5 hO,hBl,Ao.out.2.2.1.trans hB⟩;have QG:=hid Ao.out.2.2.2;clear hBl hB hO Ao HKP y0 y1 y2
    focus go_upto_region 13 with(fail)
    clear Yd
    all_goals
     obtain⟨y0,y1,y2⟩:=bD.c3 jB.out.1;go_wp2_with fail;refine(Ez (HX.out _ jB.out.2.2).1 HY.out.1 (HX.out _ jB.out.2.2).2 (HT.out _ jB.out.2.2) HY.out.2.1 (by have h1:=HY.out.2.2.2.2.1;have h2:=HY.out.2.2.2.2.2;omega) (by omega)).mono ?_;rintro e w6 ⟨s,rfl,hFs,hB⟩;have nZ:Hid (Bl w.heap.size b3 _ w6/\ Below w.heap.size w w6):=⟨jB.out.2.1.below hB,Below.steps jB.out.2.2 hB⟩;have HFs:=hid hFs;clear hFs hB jB y0 y1 y2;go_wp2_with fail
     refine(Fs.join HFs.out (Yc _) (by
      have h1:=HY.out.2.2.2.2.1;unfold xH;rw[a0j,a0p];split<;>simp<;>omega) (by rw[GH];have:=HY.out.2.2.1;show(jv t).length<=1000000;omega)).mono ?_
     rintro e w7 ⟨rfl,hB⟩;rw[GH];have fu:Hid (Bl w.heap.size b3 _ w7/\ Below w.heap.size w w7):=⟨nZ.out.1.below hB,Below.steps nZ.out.2 hB⟩;clear hB nZ HFs;go_wp2_with fail;refine(Al (r:=jv t) fu.out.1 (by have h1:=QG.out;have h2:=HY.out.2.2.1;simp;omega) fu.out.2.size).mono ?_;rintro e w8 ⟨rfl,hBl,hB,_⟩
     have JK:Hid (Bl w.heap.size b3 (Ca 0 (p.take (k+1))) w8/\ Below w.heap.size w w8/\ (Ca 0 (p.take (k+1))).length<=(k+1)*20001):=by
      have h1:=QG.out;have h2:=HY.out.2.2.1;refine⟨?_,fu.out.2.trans hB,?_⟩
      ·rw[HY.out.2.2.2.1,mO.out,<-a0i];exact hBl
      ·rw[HY.out.2.2.2.1,mO.out];simp;omega
     clear hBl hB fu;go_wp2_with fail;go_roundw
     case rel=>exact⟨k+1,by go_num,by omega,JK.out⟩
     case measure=>simp[intOf];omega
   ·obtain rfl:k=n:=by omega
    have HR:Hid (Bl w.heap.size b3 (vO p) wr/\ Below w.heap.size w wr):=by
     have h:=HS.out;rw[a0r (by rw[uj.out];exact Nat.le_refl _),QM (λe=>by have:=uj.out;rw[e]at this;simp at this;omega)]at h;exact⟨h.1,h.2.1⟩
    have hkk:¬(k:Int)<(k:Int):=by omega
    clear HS;go_wp2_with fail;refine(QO HR.out.1 HR.out.2.size).mono ?_;rintro e w5 ⟨rfl,hB⟩;have og:=hid (HR.out.2.trans hB);clear hB HR;go_wp2_with fail;go_ret;exact⟨rfl,og.out⟩
end
end Go.Proofs.YtmenbpmciblnlaaGreatDoor

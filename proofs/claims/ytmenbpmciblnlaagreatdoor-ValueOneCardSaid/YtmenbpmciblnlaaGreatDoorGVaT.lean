/- VaBld, VaFac, VaText, VaText2 -/
import Derived.Test.YtmenbpmciblnlaaGreatDoorVaShelf
import Derived.Test.YtmenbpmciblnlaaGreatDoorGP6
import Derived.Test.YtmenbpmciblnlaaGreatDoorGTxt
import Derived.Test.YtmenbpmciblnlaaGreatDoorGRd1
import Derived.Test.YtmenbpmciblnlaaGreatDoorVaTxt
import Derived.Test.YtmenbpmciblnlaaGreatDoorGP5
set_option maxHeartbeats 40000000
set_option maxRecDepth 100000
namespace Go.Proofs.YtmenbpmciblnlaaGreatDoor
open Go.RowKit
def Bl (B b:Nat) (l:List UInt8) (w:World):Prop:=Lib.IsBuilderF 101 5 B b (Lib.byteCells l) w
theorem Bl.new {w:World} {B:Nat} (hB:B<=w.heap.size):Bl B w.heap.size [] (w.alloc (.cells #[.pointer none,.slice none 0 0] 101)):=by
 refine .inl ⟨hB,.slice none 0 0,?_,World.ownsRowF_nil _ _ _ _,fun e=>by cases e⟩;show(w.heap.push _)[w.heap.size]? =_;rw[Array.getElem?_push_size]
theorem Bl.below {B b:Nat} {l:List UInt8} {w w':World} (h:Bl B b l w) (hb:Below w.heap.size w w'):Bl B b l w':=by
 have key:∀p,Lib.BuilderAtF 101 5 B b p (Lib.byteCells l) w->Lib.BuilderAtF 101 5 B b p (Lib.byteCells l) w':=fun p h=>by
  obtain⟨hB,v,hbk,hown,hne⟩:=h;exact⟨hB,v,(hb.block b (lt_of_block hbk)).trans hbk,hown.kept (dY none hb) (by cases h:v.ownBlock with|none=>exact .inl rfl|some k=>exact .inr (fun e=>by cases e)),hne⟩
 exact h.imp (key _) (key _)
theorem yC {B b:Nat} {l r:List UInt8} {w:World} (h:Bl B b l w) (hl:l.length+r.length<=140737488355328) (hB:B<=w.heap.size):
  Calls Tryz.prog 59 #[.pointer (some ⟨b,0,none⟩),.string ⟨r.toArray⟩] w fun e w'=>e= .returned (.tuple #[.int .i64 r.length,.nilIface])/\ Bl B b (l++r) w'/\ Below B w w'/\ Lib.OthersKept 5 (some b) w w':=
 (Any.Builder_WriteString_k Tryz.Qy Tryz.Aj B b (Lib.byteCells l) ⟨r.toArray⟩ w h (by rw[Lib.byteCells_length];exact hl) hB).mono fun e w' ⟨h1,h2,h3,h4⟩=>⟨h1,.inr (by rw[Lib.byteCells_append];exact h2),h3,h4⟩
theorem MU {B b:Nat} {l:List UInt8} {w:World} (h:Bl B b l w) (hB:B<=w.heap.size):
  Calls Tryz.prog 62 #[.pointer (some ⟨b,0,none⟩)] w fun e w'=>e= .returned (.string ⟨l.toArray⟩)/\ Below B w w':=
 (Any.Builder_String_any_k Tryz.Qz Tryz.Ak B b l w h hB).mono fun _ _ ⟨h1,_,h3,_⟩=>⟨h1,h3⟩
open Lib (hid)
def Gf (l:List UInt8):Value:= .string ⟨l.toArray⟩
theorem Tryz.MX:(Tryz.prog.info? 9).map (fun i=>(i.zero,i.size,i.bytes))=some (some (.string ⟨#[]⟩),1,16):=by kernel_rfl
def Fs (B:Nat) (w:World) (s:Value) (fs:List (List UInt8)):Prop:=∃ro rc,s= .slice ro fs.length rc/\ iK B 9 1 w ro fs.length rc (fs.map fun l=>[Gf l])
theorem Fs.below {B:Nat} {w w':World} {s:Value} {fs:List (List UInt8)} (h:Fs B w s fs) (hb:Below w.heap.size w w'):Fs B w' s fs:=by
 obtain⟨ro,rc,h1,h2⟩:=h;exact⟨ro,rc,h1,h2.below hb⟩
theorem Cg [Ol] {K:Nat} {m:Bool} {ao:Option Addr} {n cap:Nat} {bo:Option Addr} {l cb:Nat} {c:Int} {ms:List (Int×Int)} {w:World} (hC:Cn w m ao n cap c) (hb:Bd c K) (hM:Ml w bo l cb ms) (ht:yh w) (hm:∀x∈ms,(0<=x.1/\ x.1<=200)/\ 0<=x.2/\ x.2<=10000) (hl:l<=1000) (hK:K<=100000):
  Calls Tryz.prog 61 #[.agg #[.bool m,.slice ao n cap,.slice bo l cb]] w (fun e w'=>∃s,e= .returned s/\ Fs w.heap.size w' s (vJ (c,ms))/\ Below w.heap.size w w'):=by
 obtain⟨i0,hi,hz0,hz1,hz2⟩:=info_parts Tryz.MX;have hN:Hid (∀V,Below w.heap.size w V->Nx V false ao n cap (c.natAbs:Int)):=fun V hV=>⟨⟨_,hC.sl.below hV,by show((val (limbs c.natAbs):Nat):Int)=_;rw[au]⟩,by have h1:=hC.sl.len;have h2:=hb.len;omega⟩
 have HM:Hid (∀V,Below w.heap.size w V->Ml V bo l cb ms):=fun V hV=>hM.below hV
 have HT:Hid (∀V,Below w.heap.size w V->yh V):=fun V hV=>ht.below hV
 have Me:Hid (ms.length=l):=hM.len;have MZ:=hid hm;clear hC hb hM ht hm;go_enter Tryz.func61,Tryz.ntmps61;obtain⟨b1,hb1⟩:∃b,b=w.heap.size:=⟨_,rfl⟩;go_upto_region 1 with(fail)
 refine aj (fun W0 hW=>?_);have a1:bD W0 b1 [.bool m,.slice ao n cap,.slice bo l cb] 70/\ Below w.heap.size w W0:=by rw[hW,hb1];exact nI w _ 70
 rw[<-hb1];have HA:=hid a1;obtain⟨x0,x1,x2⟩:=bD.c3 a1.1;clear hW hb1 a1;go_wp2_with fail;refine(M0 (hN.out W0 HA.out.2) (HT.out W0 HA.out.2)).mono ?_;rintro e w2 ⟨rfl,hB⟩;obtain⟨u,hu⟩:∃u:ByteArray,u=⟨(Lib.itoa (c.natAbs:Int)).toArray⟩:=⟨_,rfl⟩;rw[<-hu]
 have HU:Hid (u.data.toList=Lib.decDigits c.natAbs):=by
  rw[Hid,hu,nN (by omega)];simp
 have HA2:Hid (bD w2 b1 [.bool m,.slice ao n cap,.slice bo l cb] 70/\ Below w.heap.size w w2):=⟨HA.out.1.below hB,Below.steps HA.out.2 hB⟩;clear hu hB HA x0 x1 x2;obtain⟨x0,x1,x2⟩:=bD.c3 HA2.out.1
 have ZK:Hid (Value.string u=Gf (Lib.decDigits c.natAbs)):=by
  unfold Gf;rw[Hid,<-HU.out]
 by_cases h1:Lib.decDigits c.natAbs=[49];by_cases h2:ms=[];have hl0:l=0:=by have:=Me.out;rw[h2]at this;simpa using this.symm
 have hq:(u.toList==[49])=true:=kG (HU.out.trans h1);have hq2:(u.toList !=[49])=false:=by simp[bne,hq]
 have VK:((l:Int)==0)=true:=by rw[hl0];rfl
 obtain⟨pre,hpre⟩:∃pre:List (List UInt8),pre=[Lib.decDigits c.natAbs]:=⟨_,rfl⟩;have QA:Hid (vJ (c,ms)=pre++ms.map jl/\ pre.length<=1):=⟨by rw[hpre];unfold vJ;rw[if_pos (.inr h2)],by rw[hpre];simp⟩;have Ul:=hid hpre;clear h1 h2 hl0 hpre
 focus go_upto_region 5 with(at_builtin;refine fw w2 w rfl (.tmp 20) (.tmp 22) 107 rfl w.heap.size 9 1 16 i0 (.string ⟨#[]⟩) Tryz.underlying107 hi hz0 hz1 hz2 rfl (by omega) none 0 0 [] rfl (iK.nil _ _ _ _) [_] rfl (by simp[Value.oneCell']) (by simp[Value.cells,bB]) (by simp[bB]) _ rfl HA2.out.2 (HA2.out.2).size (by omega) (by omega) ?_;intro o3 Ti w3 hO hB3 hG3;have HW3:Hid (bD w3 b1 [.bool m,.slice ao n cap,.slice bo l cb] 70):=(HA2.out.1.below (af w2 _)).apart hG3 (fun e=>by cases e);have HF:Hid (Fs w.heap.size w3 (.slice o3 1 Ti) pre/\ Below w.heap.size w w3):=⟨⟨o3,Ti,by rw[Ul.out];rfl,by rw[Ul.out];show iK _ _ _ _ _ 1 _ [[Gf _]];rw[<-ZK.out];exact hO⟩,hB3⟩;clear hO hB3 hG3 Ul)
 clear hq hq2 VK HA2 x0 x1 x2
 rotate_left
 have hl0:l≠0:=fun e=>h2 (List.eq_nil_of_length_eq_zero (Me.out.trans e))
 have hq:(u.toList==[49])=true:=kG (HU.out.trans h1);have hq2:(u.toList !=[49])=false:=by simp[bne,hq]
 have VK:((l:Int)==0)=false:=by simpa using(show¬(l:Int)=0 by omega)
 obtain⟨pre,hpre⟩:∃pre:List (List UInt8),pre=[]:=⟨_,rfl⟩;have QA:Hid (vJ (c,ms)=pre++ms.map jl/\ pre.length<=1):=⟨by rw[hpre];unfold vJ;rw[if_neg (fun h=>h.elim (fun h=>h h1) h2)],by rw[hpre];simp⟩;have HF:Hid (Fs w.heap.size w2 (.slice none 0 0) pre/\ Below w.heap.size w w2):=⟨⟨none,0,by rw[hpre];rfl,by rw[hpre];exact iK.nil _ _ _ _⟩,HA2.out.2⟩;have HW3:Hid (bD w2 b1 [.bool m,.slice ao n cap,.slice bo l cb] 70):=HA2.out.1;clear h1 h2 hl0 hpre
 focus go_upto_region 5 with(fail)
 clear hq hq2 VK HA2 x0 x1 x2
 rotate_left
 have hq:(u.toList==[49])=false:=jM (fun h=>h1 (HU.out.symm.trans h));have hq2:(u.toList !=[49])=true:=by simp[bne,hq]
 obtain⟨pre,hpre⟩:∃pre:List (List UInt8),pre=[Lib.decDigits c.natAbs]:=⟨_,rfl⟩;have QA:Hid (vJ (c,ms)=pre++ms.map jl/\ pre.length<=1):=⟨by rw[hpre];unfold vJ;rw[if_pos (.inl h1)],by rw[hpre];simp⟩;have Ul:=hid hpre;clear h1 hpre
 focus go_upto_region 5 with(at_builtin;refine fw w2 w rfl (.tmp 20) (.tmp 22) 107 rfl w.heap.size 9 1 16 i0 (.string ⟨#[]⟩) Tryz.underlying107 hi hz0 hz1 hz2 rfl (by omega) none 0 0 [] rfl (iK.nil _ _ _ _) [_] rfl (by simp[Value.oneCell']) (by simp[Value.cells,bB]) (by simp[bB]) _ rfl HA2.out.2 (HA2.out.2).size (by omega) (by omega) ?_;intro o3 Ti w3 hO hB3 hG3;have HW3:Hid (bD w3 b1 [.bool m,.slice ao n cap,.slice bo l cb] 70):=(HA2.out.1.below (af w2 _)).apart hG3 (fun e=>by cases e);have HF:Hid (Fs w.heap.size w3 (.slice o3 1 Ti) pre/\ Below w.heap.size w w3):=⟨⟨o3,Ti,by rw[Ul.out];rfl,by rw[Ul.out];show iK _ _ _ _ _ 1 _ [[Gf _]];rw[<-ZK.out];exact hO⟩,hB3⟩;clear hO hB3 hG3 Ul)
 clear hq hq2 HA2 x0 x1 x2
 rotate_left
 all_goals
  obtain⟨x0,x1,x2⟩:=bD.c3 HW3.out;clear HU ZK;go_wp2_with fail;clear x0 x1 x2;go_loopw [3,27] (fun s i wr=>∃k:Nat,i= .int .i64 k/\ k<=l/\ Hid (Fs w.heap.size wr s (pre++(ms.take k).map jl)/\ Below w.heap.size w wr)) (fun _ i _=>l-(intOf i).toNat)
  case atStart=>exact⟨0,rfl,Nat.zero_le _,by rw[List.take_zero,List.map_nil,List.append_nil];exact HF.out⟩
  case round=>
   clear HF HW3;obtain⟨k,rfl,hk,HS⟩:=hrel;by_cases hkl:k<l
   ·obtain⟨b,off,QB,hbl,hpc⟩:=(HM.out _ HS.out.2).at (by omega);subst QB;obtain⟨p0,p1⟩:=hpc k hkl;obtain⟨⟨v,e⟩,YS⟩:∃y,ms.getD k (0,0)=y:=⟨_,rfl⟩;rw[YS]at p0 p1;have hmk:k<ms.length:=by rw[Me.out];exact hkl
    have hme:(v,e)∈ms:=by rw[<-YS];exact getD_in _ hmk
    have HV:=hid (MZ.out _ hme);obtain⟨fs,hfs⟩:∃fs,fs=pre++(ms.take k).map jl:=⟨_,rfl⟩
    have hnx:pre++(ms.take (k+1)).map jl=fs++[jl (v,e)]:=by
     rw[hfs,List.take_succ_eq_append_getElem hmk,List.map_append,List.append_assoc];have:ms[k]=(v,e):=by rw[<-YS];simp[List.getD,hmk]
     simp[this]
    have hfl:fs.length<=1001:=by
     have:=QA.out.2;rw[hfs,List.length_append,List.length_map,List.length_take];omega
    rw[<-hfs]at HS;have VQ:=hid hnx;have hki:(k:Int)<(l:Int):=by omega
    clear hpc YS hme hfs hnx hmk hbl;obtain⟨b6,hb6⟩:∃b,b=wr.heap.size:=⟨_,rfl⟩;go_upto_region 8 with(fail)
    refine aj (fun W4 hW=>?_);have a6:bD W4 b6 [.int .i64 v,.int .i64 e] 72/\ Below wr.heap.size wr W4:=by rw[hW,hb6];exact nI wr _ 72
    rw[<-hb6];have kL:Hid (Fs w.heap.size W4 u3 fs/\ Below w.heap.size w W4):=⟨HS.out.1.below a6.2,Below.steps HS.out.2 a6.2⟩;obtain⟨y0,y1⟩:=bD.c2 a6.1;clear hW hb6 a6 p0 p1 HS;go_wp2_with fail;refine(Gg (HT.out _ kL.out.2) HV.out.1 HV.out.2).mono ?_;rintro e w5 ⟨rfl,hB⟩;have hb5:=Below.steps kL.out.2 hB;obtain⟨ro,rc,hs,hG⟩:=kL.out.1.below hB;subst hs;clear hB kL y0 y1;go_wp2_with (at_builtin;refine fw w5 w rfl (.tmp 31) (.tmp 34) 107 rfl w.heap.size 9 1 16 i0 (.string ⟨#[]⟩) Tryz.underlying107 hi hz0 hz1 hz2 rfl (by omega) ro fs.length rc (fs.map fun l=>[Gf l]) rfl hG [_] rfl (by simp[Value.oneCell']) (by simp[Value.cells,bB]) (by simp[bB]) _ rfl hb5 (hb5).size (by omega) (by omega) ?_;intro o3 Ti w3 hO hB3 hG3;have HF:Hid (Fs w.heap.size w3 (.slice o3 (fs.length+1) Ti) (fs++[jl (v,e)])/\ Below w.heap.size w w3):=⟨⟨o3,Ti,by simp,by rw[List.length_append,List.length_singleton,List.map_append];exact hO⟩,hB3⟩;clear hO hB3 hG3 hG hb5);go_roundw
    case rel=>exact⟨k+1,by go_num,by omega,by rw[VQ.out];exact HF.out⟩
    case measure=>simp[intOf];omega
   ·obtain rfl:k=l:=by omega
    have HR:Hid (Fs w.heap.size wr u3 (vJ (c,ms))/\ Below w.heap.size w wr):=by
     rw[QA.out.1];have h:=HS.out;rw[List.take_of_length_le (by rw[Me.out];exact Nat.le_refl _)]at h;exact h
    clear HS;go_wp2_with fail;go_ret;exact⟨_,rfl,HR.out.1,HR.out.2⟩
theorem JV {t:Term} {K:Nat} (hb:Bd t.1 K) (hm:∀x∈t.2,(0<=x.1/\ x.1<=200)/\ 0<=x.2/\ x.2<=10000) (hl:t.2.length<=200) (hK:K<=1000):(gI t).length<=20000:=by
 have h1:(Lib.decDigits t.1.natAbs).length<=10*K+2:=by
  have:=M4 (z:=(t.1.natAbs:Int)) (k:=K) (by unfold Bd at*;simpa using hb);rwa[nN (by omega)]at this
 have h2:∀x∈t.2,(jl x).length<=12:=fun x hx=>MW ⟨(hm x hx).1.1,by have:=(hm x hx).1.2;omega⟩ (hm x hx).2
 unfold gI;cases hc:t.2 with
 |nil=>simp only;omega
 |cons w r=>
  rw[hc]at h2 hl;have h3:=h2 w (by simp);have h4:=AQ r fun x hx=>h2 x (by simp[hx])
  simp only[List.length_cons]at hl;have h5:r.length*(12+1)<=199*13:=Nat.mul_le_mul_right _ (by omega);simp only[List.length_append];split<;>simp<;>omega
theorem Um (t:Term):0<(vJ t).length:=by
 unfold vJ;split
 ·simp
 ·rename_i h;have:t.2≠[]:=fun e=>h (.inr e)
  rw[List.nil_append,List.length_map];exact List.length_pos_iff.2 this
theorem Fs.join [Ol] {B:Nat} {w:World} {s:Value} {fs:List (List UInt8)} (h:Fs B w s fs) (h0:0<fs.length) (h1:fs.length<=1000) (hl:(([42]:List UInt8).intercalate fs).length<=1000000):
  Calls Tryz.prog 60 #[s,.string ⟨#[42]⟩] w (dI (.string ⟨(([42]:List UInt8).intercalate fs).toArray⟩) w):=by
 obtain⟨ro,rc,rfl,hG⟩:=h;rcases hG.parts with⟨_,h,_⟩|⟨g,cur,rfl,_,hlt,hle,_⟩
 ·omega
 ·have hgl:=hG.gl
  have e:(fs.map fun l=>(⟨l.toArray⟩:ByteArray)).map (·.data.toList)=fs:=by
   rw[List.map_map]
   conv=>rhs;rw[<-List.map_id fs]
   rfl
  have hc:∀(j:Nat) x,(fs.map fun l=>(⟨l.toArray⟩:ByteArray))[j]? =some x->w.cell? ⟨g,j,none⟩=some (.string x):=fun j x hx=>by
   rw[List.getElem?_map]at hx;cases hj:fs[j]? with
   |none=>rw[hj]at hx;cases hx
   |some l=>
    rw[hj]at hx;cases hx;have hjl:j<fs.length:=(List.getElem?_eq_some_iff.1 hj).1;have:=hgl.cells _ rfl j hjl 0 (by omega);rw[Addr.add_lit]at this;simpa[List.getD,hj,Gf]using this
  have:=JW g rc (fs.map fun l=>(⟨l.toArray⟩:ByteArray)) w hc hlt (by rw[List.length_map];exact h1) (by rw[List.length_map];exact hle) (by rw[e];exact hl);rw[e,List.length_map]at this;exact this
open Lib (hid)
theorem vE [Ol] {K:Nat} {ao:Option Addr} {n cap:Nat} {p:List Term} {w:World} (hp:Pc K w ao n cap p) (hf:fall p) (ht:yh w) (hK:K<=1000) (hn:n<=100000):
  Calls Tryz.prog 20 #[.slice ao n cap] w (fun e w'=>e= .returned (.string ⟨(jo p).toArray⟩)/\ Below w.heap.size w w'):=by
 have HP:=hid hp;have HF:=hid hf;have vF:Hid (p.length=n):=hp.len;have HT:Hid (∀V,Below w.heap.size w V->yh V):=fun V hV=>ht.below hV
 clear hp hf ht;go_enter Tryz.func20,Tryz.ntmps20;go_wp2_with fail;refine(xZ HP.out HF.out hK).mono ?_;rintro e w1 ⟨rfl,hB1⟩;by_cases hn0:n=0
 ·have hp0:Hid (p=[]):=List.eq_nil_of_length_eq_zero (vF.out.trans hn0);have HB:=hid hB1;subst hn0;clear hB1;go_wp2_with fail;go_ret;exact⟨by rw[hp0.out];rfl,HB.out⟩
 ·have hd:((n:Int)==0)=false:=by simpa using(show¬(n:Int)=0 by omega)
  obtain⟨b3,hb3⟩:∃b,b=w1.heap.size:=⟨_,rfl⟩;go_upto_region 6 with(fail)
  refine aj (fun W2 hW=>?_)
  have HS2:Hid (Bl w.heap.size b3 (Af 0 (p.take 0)) W2/\ Below w.heap.size w W2/\ (Af 0 (p.take 0)).length<=0*20001):=by
   refine⟨?_,?_,Nat.le_refl _⟩
   ·rw[hW,hb3];exact Bl.new hB1.size
   ·rw[hW];exact hB1.trans ((af w1 _).mono hB1.size)
  rw[<-hb3];have hwb:w.heap.size<=b3:=by rw[hb3];exact hB1.size
  clear hW hb3 hB1 hd;go_wp2_with fail;go_loopw [14] (fun i wr=>∃k:Nat,i= .int .i64 k/\ k<=n/\ Hid (Bl w.heap.size b3 (Af 0 (p.take k)) wr/\ Below w.heap.size w wr/\ (Af 0 (p.take k)).length<=k*20001)) (fun i _=>n-(intOf i).toNat)
  case atStart=>exact⟨0,rfl,Nat.zero_le _,HS2.out⟩
  case round=>
   clear HS2;obtain⟨k,rfl,hk,HS⟩:=hrel;by_cases hkn:k<n
   ·obtain⟨b,off,xm,xa,xn,xc,xp,xq,xr,QB,hbl,hc,JX,hBd,IZ⟩:=HP.out.at (k:=k) hkn;subst QB;obtain⟨c0,c1,c2⟩:=hc wr HS.out.2.1;have hkl:k<p.length:=by rw[vF.out];exact hkn
    obtain⟨t,ht⟩:∃t,t=p.getD k (0,[]):=⟨_,rfl⟩;rw[<-ht]at JX hBd IZ;have hpk:p[k]=t:=by rw[ht];simp[List.getD,hkl]
    have htp:t∈p:=by rw[ht];exact getD_in _ hkl
    have Qt:=eF HF.out t htp;have hnx:Af 0 (p.take (k+1))=Af 0 (p.take k)++lK k t:=by rw[List.take_succ_eq_append_getElem hkl,Ed,hpk,List.length_take,Nat.zero_add,Nat.min_eq_left (by omega)]
    have hmm:∀x∈t.2,(0<=x.1/\ x.1<=200)/\ 0<=x.2/\ x.2<=10000:=fun x hx=>Ch Qt (Int.le_refl _) x hx
    have htl:=JV hBd hmm (I4 Qt) hK;have HX:Hid (∀V,Below w.heap.size w V->Cn V xm xa xn xc t.1/\ Ml V xp xq xr t.2):=fun V hV=>⟨JX.below hV,IZ.below hV⟩
    have hxm:xm=decide (t.1<0):=JX.neg;have hxq:t.2.length=xq:=IZ.len;have HY:=hid (And.intro hBd (And.intro hmm (And.intro htl (And.intro hnx (And.intro (I4 Qt) hxq)))));have HXM:=hid hxm;have hki:(k:Int)<(n:Int):=by omega
    clear hxm;clear hc JX hBd IZ hbl ht hpk htp Qt hnx hmm htl hkl hxq;obtain⟨b5,hb5⟩:∃b,b=wr.heap.size:=⟨_,rfl⟩;go_upto_region 9 with(fail)
    refine aj (fun W1 hW=>?_);have a5:bD W1 b5 [.bool xm,.slice xa xn xc,.slice xp xq xr] 70/\ Below wr.heap.size wr W1:=by rw[hW,hb5];exact nI wr _ 70
    rw[<-hb5]
    have ZL:b5≠b3:=by
     have h3:b3<wr.heap.size:=by
      rcases HS.out.1 with h|h
      ·exact Lib.BuilderAtF.lt h
      ·exact Lib.BuilderAtF.lt h
     omega
    have yD:Hid (bD W1 b5 [.bool xm,.slice xa xn xc,.slice xp xq xr] 70/\ Bl w.heap.size b3 (Af 0 (p.take k)) W1/\ Below w.heap.size w W1/\ (Af 0 (p.take k)).length<=k*20001):=⟨a5.1,HS.out.1.below a5.2,HS.out.2.1.trans (a5.2.mono HS.out.2.1.size),HS.out.2.2⟩;obtain⟨y0,y1,y2⟩:=bD.c3 a5.1;clear hW hb5 a5 c0 c1 c2 HS;have hkeep:∀V:World,Lib.OthersKept 5 (some b3) W1 V->bD V b5 [.bool xm,.slice xa xn xc,.slice xp xq xr] 70:=fun V hV=>hV b5 _ yD.out.1 (fun e=>ZL (Option.some.inj e)) fun c fz e=>by cases e
    have Xq:=hid hkeep;clear hkeep;have hk0:k=0∨0<k:=by omega
    by_cases hneg:t.1<0;obtain rfl:xm=true:=by rw[HXM.out];exact decide_eq_true hneg
    have lq:Hid (lK k t=[45]++gI t):=by unfold lK;rw[Hid,if_pos hneg]
    clear hneg hk0
    focus go_upto_region 10 with(fail)
    focus go_wp2_with fail
    refine(yC (r:=[45]) yD.out.2.1 (by have:=yD.out.2.2.2;simp;omega) yD.out.2.2.1.size).mono ?_;rintro e w5 ⟨rfl,hBl,hB,hO⟩;have jA:Hid (bD w5 b5 [.bool true,.slice xa xn xc,.slice xp xq xr] 70/\ Bl w.heap.size b3 (Af 0 (p.take k)++[45]) w5/\ Below w.heap.size w w5):=⟨Xq.out w5 hO,hBl,yD.out.2.2.1.trans hB⟩;have MK:=hid yD.out.2.2.2;clear hBl hB hO yD Xq y0 y1 y2
    focus go_upto_region 13 with(fail)
    rotate_left
    obtain rfl:xm=false:=by rw[HXM.out];exact decide_eq_false hneg
    rcases hk0 with h0|h0
    have lq:Hid (lK k t=[]++gI t):=by unfold lK;rw[Hid,if_neg hneg,if_neg (by omega)]
    have Un:¬(0:Int)<(k:Int):=by omega
    have jA:Hid (bD W1 b5 [.bool false,.slice xa xn xc,.slice xp xq xr] 70/\ Bl w.heap.size b3 (Af 0 (p.take k)++[]) W1/\ Below w.heap.size w W1):=⟨yD.out.1,by rw[List.append_nil];exact yD.out.2.1,yD.out.2.2.1⟩;have MK:=hid yD.out.2.2.2;clear hneg h0 yD Xq
    focus go_upto_region 13 with(fail)
    clear y0 y1 y2 Un
    rotate_left
    have lq:Hid (lK k t=[43]++gI t):=by unfold lK;rw[Hid,if_neg hneg,if_pos h0]
    have Un:(0:Int)<(k:Int):=by omega
    clear hneg h0
    focus go_upto_region 12 with(fail)
    focus go_wp2_with fail
    refine(yC (r:=[43]) yD.out.2.1 (by have:=yD.out.2.2.2;simp;omega) yD.out.2.2.1.size).mono ?_;rintro e w5 ⟨rfl,hBl,hB,hO⟩;have jA:Hid (bD w5 b5 [.bool false,.slice xa xn xc,.slice xp xq xr] 70/\ Bl w.heap.size b3 (Af 0 (p.take k)++[43]) w5/\ Below w.heap.size w w5):=⟨Xq.out w5 hO,hBl,yD.out.2.2.1.trans hB⟩;have MK:=hid yD.out.2.2.2;clear hBl hB hO yD Xq y0 y1 y2
    focus go_upto_region 13 with(fail)
    clear Un
    all_goals
     obtain⟨y0,y1,y2⟩:=bD.c3 jA.out.1;go_wp2_with fail;refine(Cg (HX.out _ jA.out.2.2).1 HY.out.1 (HX.out _ jA.out.2.2).2 (HT.out _ jA.out.2.2) HY.out.2.1 (by have h1:=HY.out.2.2.2.2.1;have h2:=HY.out.2.2.2.2.2;omega) (by omega)).mono ?_;rintro e w6 ⟨s,rfl,hFs,hB⟩;have nO:Hid (Bl w.heap.size b3 _ w6/\ Below w.heap.size w w6):=⟨jA.out.2.1.below hB,Below.steps jA.out.2.2 hB⟩;have HFs:=hid hFs;clear hFs hB jA y0 y1 y2;go_wp2_with fail
     refine(Fs.join HFs.out (Um _) (by
      have h1:=HY.out.2.2.2.2.1;unfold vJ;rw[List.length_append,List.length_map];split<;>simp<;>omega) (by rw[Ef];have:=HY.out.2.2.1;show(gI t).length<=1000000;omega)).mono ?_
     rintro e w7 ⟨rfl,hB⟩;rw[Ef];have eZ:Hid (Bl w.heap.size b3 _ w7/\ Below w.heap.size w w7):=⟨nO.out.1.below hB,Below.steps nO.out.2 hB⟩;clear hB nO HFs;go_wp2_with fail;refine(yC (r:=gI t) eZ.out.1 (by have h1:=MK.out;have h2:=HY.out.2.2.1;simp;omega) eZ.out.2.size).mono ?_;rintro e w8 ⟨rfl,hBl,hB,_⟩
     have Gh:Hid (Bl w.heap.size b3 (Af 0 (p.take (k+1))) w8/\ Below w.heap.size w w8/\ (Af 0 (p.take (k+1))).length<=(k+1)*20001):=by
      have h1:=MK.out;have h2:=HY.out.2.2.1;refine⟨?_,eZ.out.2.trans hB,?_⟩
      ·rw[HY.out.2.2.2.1,lq.out,<-List.append_assoc];exact hBl
      ·rw[HY.out.2.2.2.1,lq.out];simp;omega
     clear hBl hB eZ;go_wp2_with fail;go_roundw
     case rel=>exact⟨k+1,by go_num,by omega,Gh.out⟩
     case measure=>simp[intOf];omega
   ·obtain rfl:k=n:=by omega
    have HR:Hid (Bl w.heap.size b3 (jo p) wr/\ Below w.heap.size w wr):=by
     have h:=HS.out;rw[List.take_of_length_le (by rw[vF.out];exact Nat.le_refl _),MV (fun e=>by have:=vF.out;rw[e]at this;simp at this;omega)]at h;exact⟨h.1,h.2.1⟩
    have hkk:¬(k:Int)<(k:Int):=by omega
    clear HS;go_wp2_with fail;refine(MU HR.out.1 HR.out.2.size).mono ?_;rintro e w5 ⟨rfl,hB⟩;have pJ:=hid (HR.out.2.trans hB);clear hB HR;go_wp2_with fail;go_ret;exact⟨rfl,pJ.out⟩
end Go.Proofs.YtmenbpmciblnlaaGreatDoor

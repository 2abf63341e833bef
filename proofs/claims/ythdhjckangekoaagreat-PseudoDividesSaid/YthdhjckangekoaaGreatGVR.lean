/- VRefA, VRef -/
import Derived.Test.YthdhjckangekoaaGreatGV
set_option maxHeartbeats 40000000
set_option maxRecDepth 100000
namespace Go.Proofs.YthdhjckangekoaaGreat
open Lib (hid)
open Go.RowKit
theorem Pz.at [Ol] {K:Nat} {w:World} {ao:Option Addr} {n cap:Nat} {p:List Term} (h:Pz K w ao n cap p) {k:Nat} (hk:k<n):
  ∃b off xm xa xn xc xp xq xr,ao=some ⟨b,off,none⟩/\ b<w.heap.size/\ si w b (off+k*3) (.bool xm) (.slice xa xn xc) (.slice xp xq xr)/\ Zd w xm xa xn xc (p.getD k (0,[])).1/\ Bd (p.getD k (0,[])).1 K/\ Ml w xp xq xr (p.getD k (0,[])).2:=by
 have hl:=h.len;obtain⟨aW,hG,hT⟩:=h.ex;obtain⟨b,off,rfl,hb⟩:=hG.xE (by omega);obtain⟨xm,xa,xn,xc,xp,xq,xr,hv,h1,h2,h3⟩:=bG.get (0,[]) hT k (by omega);exact⟨b,off,xm,xa,xn,xc,xp,xq,xr,rfl,hb,hG.Bj hk hv,h1,h2,h3⟩
theorem si.keep {w V:World} {b o:Nat} {u0 u1 u2:Value} (h:si w b o u0 u1 u2) (hV:Below w.heap.size w V):si V b o u0 u1 u2:=fun W hW=>h W (Below.steps hV hW)
theorem IA {p:List Term} (v:Int) (k:Nat) (hk:k<p.length):aI (p.take (k+1)) v=if av (p[k]).2 v>aI (p.take k) v then av (p[k]).2 v else aI (p.take k) v:=by
 rw[Bl v k hk];split<;>omega
theorem lH [Ol] (v:Int) (z:Int) {K:Nat} {ao:Option Addr} {n cap:Nat} {p:List Term} {w:World} (hp:Pz K w ao n cap p) (hf:fall p) (hz:aI p v=z):
  Calls Tryz.prog 10 #[.slice ao n cap,.int .i64 v] w (bN (.int .i64 z) w):=by
 have hle:=hp.le;have hmb:n<=4398046511104:=by obtain⟨_,hG,_⟩:=hp.ex;exact hG.big
 have HX:=hid hp;have HF:=hid hf;have HZ:Hid (aI p v=z):=hz;clear hp hf hz;go_enter Tryz.func10,Tryz.ntmps10;go_wp2;go_loopw [5,6] (fun s5 s6 wr=>∃(k:Nat) (y:Int),s5= .int .i64 y/\ s6= .int .i64 k/\ k<=n/\ Hid (aI (p.take k) v=y/\ Below w.heap.size w wr)) (fun _ s6 _=>n-(intOf s6).toNat)
 case atStart=>exact⟨0,0,rfl,rfl,Nat.zero_le _,rfl,Below.refl _ _⟩
 case round=>
  obtain⟨k,y,rfl,rfl,hk,HI⟩:=hrel;by_cases hkm:k<n
  ·have hkp:k<p.length:=by rw[HX.out.len];exact hkm
   obtain⟨b,off,xm,xa,xn,xc,xp,xq,xr,Fh,hbl,hc,rH,hBd,kU⟩:=(HX.out.below HI.out.2).at (k:=k) hkm;subst Fh;obtain⟨c0,c1,c2⟩:=hc wr (Below.refl _ _);rw[bJ _ hkp]at kU;obtain⟨d,hd⟩:∃d,av (p[k]).2 v=d:=⟨_,rfl⟩;have hN:=IA v k hkp;rw[HI.out.1,hd]at hN;have HT:Hid (Ml wr xp xq xr (p[k]).2/\ jv (p[k]).2 v=d):=⟨kU,by rw[iT (bM HF.out _ (List.getElem_mem hkp))];exact hd⟩;have HN:=hid hN;have HC:=hid hc;clear hc rH hBd kU hbl hN hd;by_cases hg:d>y
   ·have hdd:decide (y<d)=true:=decide_eq_true hg;have Ll:Hid (aI (p.take (k+1)) v=d):=by rw[Hid,HN.out,if_pos hg]
    go_wp2_with fail;refine(ko (show Ml _ xp xq xr (p[k]).2 from HT.out.1) v d (by first|exact HT.out.2|exact HT2.out.2)).mono ?_;rintro e w2 ⟨rfl,hB⟩;have HI2:Hid (Below w.heap.size w w2):=Below.steps HI.out.2 hB;have HT2:Hid (Ml w2 xp xq xr (p[k]).2/\ jv (p[k]).2 v=d):=⟨HT.out.1.below hB,HT.out.2⟩;clear c0 c1 c2;obtain⟨c0,c1,c2⟩:=HC.out w2 hB;clear hB HI HT HN;go_wp2_with fail;refine(ko (show Ml _ xp xq xr (p[k]).2 from HT2.out.1) v d (by first|exact HT.out.2|exact HT2.out.2)).mono ?_;rintro e w3 ⟨rfl,hB⟩;have HI3:Hid (aI (p.take (k+1)) v=d/\ Below w.heap.size w w3):=⟨Ll.out,Below.steps HI2.out hB⟩;clear hB HI2 HT2 c0 c1 c2;go_wp2;go_roundw
    case rel=>exact⟨k+1,d,rfl,by go_num,by omega,HI3.out⟩
    case measure=>simp[intOf];omega
   ·have hdd:decide (y<d)=false:=decide_eq_false hg;have Ll:Hid (aI (p.take (k+1)) v=y):=by rw[Hid,HN.out,if_neg hg]
    go_wp2_with fail;refine(ko (show Ml _ xp xq xr (p[k]).2 from HT.out.1) v d (by first|exact HT.out.2|exact HT2.out.2)).mono ?_;rintro e w2 ⟨rfl,hB⟩;have HI3:Hid (aI (p.take (k+1)) v=y/\ Below w.heap.size w w2):=⟨Ll.out,Below.steps HI.out.2 hB⟩;clear hB HI HT HN c0 c1 c2;go_wp2;go_roundw
    case rel=>exact⟨k+1,y,rfl,by go_num,by omega,HI3.out⟩
    case measure=>simp[intOf];omega
  ·obtain rfl:n=k:=by omega
   have h:=HI.out;rw[List.take_of_length_le (by rw[HX.out.len];exact Nat.le_refl _)]at h;obtain rfl:y=z:=by rw[<-h.1];exact HZ.out
   have HH:=hid h.2;clear h HI HX;go_wp2;go_ret;exact⟨rfl,HH.out⟩
def Ci (v e:Int):List Term:=[(1,gQ v e)]
theorem KQ {v e:Int} (hv:1<=v/\ v<=200) (he:0<=e/\ e<=10000):fall (Ci v e):=⟨(by show(1:Int)≠0;decide),jZ hv he,(fun _ h=>by cases h),trivial⟩
theorem OE [Ol] {v e:Int} (hv:dW v) (he:dW e) (w:World):Calls Tryz.prog 34 #[.int .i64 v,.int .i64 e] w (kK 3 w (Ci v e)):=by
 by_cases h0:e=0
 ·have hd:(e==0)=true:=by simpa using h0
  have HR:Hid (Ci v e=xP 1):=by subst h0;rfl
  rw[HR.out];go_enter Tryz.func34,Tryz.ntmps34;go_wp2_with fail;refine(oK 1 w (by omega)).mono ?_;rintro e w1 ⟨ao,k,cap,rfl,hX,hB⟩;go_wp2_with fail;go_ret;exact⟨_,_,_,rfl,hX,hB⟩
 ·have hd:(e==0)=false:=by simpa using h0
  have HR:Hid (Ci v e=[(1,[(v,e)])]):=by unfold Hid Ci gQ;rw[if_neg h0]
  have HV:=hid (And.intro hv he);rw[HR.out];clear hv he h0;go_enter Tryz.func34,Tryz.ntmps34;go_wp2_with fail;refine(sG 1 w (by omega)).mono ?_;rintro e2 w1 ⟨m,ao,k,cap,rfl,hX,hB⟩;have HX:=hid hX;have HB:=hid hB;clear hX hB;go_wp2_with fail;go_ret;have hgl:=Gl.lit 3 (w1.alloc (.cells #[.int .i64 v,.int .i64 e] 56)) [.bool m,.slice ao k cap,.slice (some ⟨w1.heap.size,0,none⟩) 1 1] 82 rfl (by simp[Value.oneCell']);rw[show(w1.alloc (.cells #[.int .i64 v,.int .i64 e] 56)).heap.size=w1.heap.size+1 from by simp]at hgl;refine⟨_,_,_,rfl,⟨_,hgl,?_⟩,?_⟩
  ·have hM:=Ml.lit w1 v e 56 HV.out.1 HV.out.2;have hZ:=(HX.out.below (af w1 (.cells #[.int .i64 v,.int .i64 e] 56)));exact⟨⟨_,_,_,_,_,_,_,rfl,hZ.below (af _ _),(xQ (by omega)).mono (by omega),hM.below (af _ _)⟩,trivial⟩
  ·have h:=HB.out.size;exact(HB.out.alloc h _).alloc (by simp;omega) _
open Lib (hid)
theorem vJ {k:Nat}:∀{p:List Term},fall p->fall (p.take k)
 |[],_=>by simp[fall]
 |t::r,h=>by
  cases k with
  |zero=>trivial
  |succ k=>exact⟨h.1,h.2.1,fun s hs=>h.2.2.1 s (List.mem_of_mem_take hs),vJ h.2.2.2⟩
theorem LZ {p:List Term} (v e:Int) (k:Nat) (hk:k<p.length):bZ (p.take (k+1)) v e=bZ (p.take k) v e++if av (p[k]).2 v=e then[((p[k]).1,eF v (p[k]).2)]else[]:=by
 unfold bZ;rw[List.take_succ_eq_append_getElem hk,List.filter_append,List.map_append]
 congr 1
 by_cases h:av (p[k]).2 v=e
 ·rw[if_pos h,List.filter_cons_of_pos (by simpa using h)];rfl
 ·rw[if_neg h,List.filter_cons_of_neg (by simpa using h)];rfl
theorem Ql (v e:Int) (p:List Term):(bZ p v e).length<=p.length:=by
 unfold bZ;rw[List.length_map];exact List.length_filter_le _ _
theorem FD {a b:List Term} {t:Term} (ha:fall a) (h:b=a++[t]) (hb:fall b):fD a [t]=b:=by
 have ht:dX [t]:=fun s hs=>by
  simp at hs;subst hs;exact bM hb s (by rw[h];simp)
 have h1:=fU ha ht;exact iN h1.1 hb fun ρ=>by rw[h1.2,h,iE]
theorem Qm {a b:List Term} {t:Term} (ha:fall a) (h:b=a++[t]) (hb:fall b):fD a [t]=b:=FD ha h hb
section
variable {K:Nat} {ao:Option Addr} {n cap:Nat} {p:List Term} {w:World}
theorem Ia [Ol] (v e0:Int) {bd:Nat->Nat} (hp:Pz K w ao n cap p) (hf:fall p) (hn:n<=1000000) (hK:∀k,k<=n->K<=bd k/\ bd k+1<=9000) (hs:∀k,k<n->bd k<=bd (k+1)/\ (bd k+1<=bd (k+1)∨ ∀t∈bZ (p.take (k+1)) v e0,Bd t.1 (bd (k+1)))):
  Calls Tryz.prog 58 #[.slice ao n cap,.int .i64 v,.int .i64 e0] w (kK (bd n) w (bZ p v e0)):=by
 have hle:=hp.le;have hmb:n<=4398046511104:=by obtain⟨_,hG,_⟩:=hp.ex;exact hG.big
 have HX:=hid hp;have qb:=hid hK;have Vd:=hid hs;clear hK hs;have HF:=hid hf;clear hp hf;go_enter Tryz.func58,Tryz.ntmps58;go_wp2;go_loopw [7,8] (fun s7 s8 wr=>∃(k:Nat) (oo:Option Addr) (on oc:Nat),s7= .slice oo on oc/\ s8= .int .i64 k/\ k<=n/\ Hid (Pz (bd k) wr oo on oc (bZ (p.take k) v e0)/\ Below w.heap.size w wr)) (fun _ s8 _=>n-(intOf s8).toNat)
 case atStart=>exact⟨0,none,0,0,rfl,rfl,Nat.zero_le _,Pz.zero _ _,Below.refl _ _⟩
 case round=>
  obtain⟨k,oo,on,oc,rfl,rfl,hk,HI⟩:=hrel;by_cases hkm:k<n
  ·have hkp:k<p.length:=by rw[HX.out.len];exact hkm
   obtain⟨b,off,xm,xa,xn,xc,xp,xq,xr,Fh,hbl,hc,rH,hBd,kU⟩:=(HX.out.below HI.out.2).at (k:=k) hkm;subst Fh;obtain⟨c0,c1,c2⟩:=hc wr (Below.refl _ _);rw[bJ _ hkp]at rH hBd kU;obtain⟨d,hd⟩:∃d,av (p[k]).2 v=d:=⟨_,rfl⟩;have hmay:=bM HF.out _ (List.getElem_mem hkp);have HT:Hid (Ml wr xp xq xr (p[k]).2/\ jv (p[k]).2 v=d/\ aJ 0 (p[k]).2=true/\ Zd wr xm xa xn xc (p[k]).1):=⟨kU,by rw[iT hmay];exact hd,hmay,rH⟩;have HD:=hid hBd;have HC:=hid hc;have hln:=HI.out.1.len;have hN:=LZ v e0 k hkp;rw[hd]at hN;have ai9:=Ql v e0 (p.take k);rw[List.length_take]at ai9;have HN:=hid hN;clear hc rH hBd kU hbl hd hmay hN;by_cases hg:d=e0
   ·have hdd:(d==e0)=true:=by simpa using hg
    have Ll:Hid (bZ (p.take (k+1)) v e0=bZ (p.take k) v e0++[((p[k]).1,eF v (p[k]).2)]):=by rw[Hid,HN.out,if_pos hg]
    have VA:=hid (And.intro (vF (vJ (k:=k) HF.out) v e0) (vF (vJ (k:=k+1) HF.out) v e0));go_wp2_with fail;refine(ko HT.out.1 v d HT.out.2.1).mono ?_;rintro e w2 ⟨rfl,hB⟩;have HI2:Hid (Pz (bd k) w2 oo on oc (bZ (p.take k) v e0)/\ Below w.heap.size w w2):=⟨HI.out.1.below hB,Below.steps HI.out.2 hB⟩;have HT2:=hid (And.intro (HT.out.1.below hB) (HT.out.2.2.2.below hB));have Ct:=hid (HC.out.keep hB);have DL:=hid HT.out.2.2.1;clear hB HI HT HN HC c0 c1 c2;go_upto_region 6 with(fail)
    refine wp_region_held_drew (S:=fun w'=>w'.cell? ⟨b,off+k*3,none⟩=some (.bool xm)/\ w'.cell? ⟨b,off+k*3+1,none⟩=some (.slice xa xn xc)/\ w'.cell? ⟨b,off+k*3+2,none⟩=some (.slice xp xq xr)) (by kernel_rfl) (Ct.out _ (Below.refl _ _).drew) (fun hH=>?_);refine ak (fun w4 hW=>?_);have HI4:Hid (Pz (bd k) w4 oo on oc (bZ (p.take k) v e0)/\ Below w.heap.size w w4):=by rw[hW];exact⟨HI2.out.1.below (Below.refl _ _).drew,HI2.out.2.drew⟩
    have HT4:Hid (Ml w4 xp xq xr (p[k]).2/\ Zd w4 xm xa xn xc (p[k]).1):=by rw[hW];exact⟨HT2.out.1.below (Below.refl _ _).drew,HT2.out.2.below (Below.refl _ _).drew⟩
    have Vz:Hid (si w4 b (off+k*3) (.bool xm) (.slice xa xn xc) (.slice xp xq xr)):=by rw[hW];exact Ct.out.keep (Below.refl _ _).drew
    rw[<-hW]at hH;clear HI2 HT2 Ct;clear hW;refine aB 0 hH ?_;try simp only[ai]
    refine aB 1 hH ?_;try simp only[ai]
    refine aB 2 hH ?_;try simp only[ai]
    refine aB 3 hH ?_;try simp only[ai]
    refine aB 4 hH ?_;try simp only[ai]
    refine aB 5 hH ?_;try simp only[ai]
    refine aB 6 hH ?_;try simp only[ai]
    refine aB 7 hH ?_;try simp only[ai]
    refine aB 8 hH ?_;try simp only[ai]
    refine aB 9 hH ?_;try simp only[ai]
    refine aB 10 hH ?_;try simp only[ai]
    refine aB 11 hH ?_;try simp only[ai]
    refine aj 12 rfl (by kernel_rfl) (fun KK hK=>?_);go_simp;refine(Ch HT4.out.1 v).mono ?_;rintro e w5 ⟨ro,rn,rc,rfl,hR,hB⟩;rw[rC DL.out]at hR;have HI5:Hid (Pz (bd k) w5 oo on oc (bZ (p.take k) v e0)/\ Below w.heap.size w w5):=⟨HI4.out.1.below hB,Below.steps HI4.out.2 hB⟩;have Gw:=hid (And.intro (HT4.out.2.below hB) hR);have VB:=hid (Vz.out.keep hB);clear HI4 HT4 Vz hB hR;go_wp2_with fail;clear hH;refine hK.out _ _ (VB.out _ (Below.refl _ _)) fun hH=>?_;clear hK KK
    try simp only[ai]
    refine aB 13 hH ?_;try simp only[ai]
    refine aj 14 rfl (by kernel_rfl) (fun KK hK=>?_);go_simp;clear hH;refine hK.out _ _ (VB.out _ (af w5 _)) fun hH=>?_;clear hK KK
    try simp only[ai]
    refine ak (fun w6 hW=>?_);have WO:Hid (Pz (bd k) w6 (some ⟨w5.heap.size,0,none⟩) 1 1 [((p[k]).1,eF v (p[k]).2)]):=by rw[hW];exact⟨_,Gl.lit 3 w5 [.bool xm,.slice xa xn xc,.slice ro rn rc] _ rfl (by simp[Value.oneCell']),⟨_,_,_,_,_,_,_,rfl,Gw.out.1.below (af w5 _),HD.out.mono (qb.out k (by omega)).1,Gw.out.2.below (af w5 _)⟩,trivial⟩
    have HI6:Hid (Pz (bd k) w6 oo on oc (bZ (p.take k) v e0)/\ Below w.heap.size w w6):=by rw[hW];exact⟨HI5.out.1.below (af w5 _),Below.steps HI5.out.2 (af w5 _)⟩
    have HC6:Hid (si w6 b (off+k*3) (.bool xm) (.slice xa xn xc) (.slice xp xq xr)):=by rw[hW];exact VB.out.keep (af w5 _)
    rw[<-hW]at hH;clear HI5 Gw VB;clear hW;refine aj 15 rfl (by kernel_rfl) (fun KK hK=>?_);go_simp;refine(tC (bd:=fun i=>bd k+i) HI6.out.1 WO.out VA.out.1 (by intro t ht;simp at ht;subst ht;exact pz DL.out v) (by omega) (fun i hi=>⟨Nat.le_add_right _ _,by have:=qb.out k (by omega);show bd k+i<=9000;omega⟩) fun i _=> .inl (Nat.le_refl _)).mono ?_;rintro e w7 ⟨so,sn,sc,rfl,hR,hB⟩;rw[Qm VA.out.1 Ll.out VA.out.2]at hR;have HI7:Hid (Pz (bd (k+1)) w7 so sn sc (bZ (p.take (k+1)) v e0)/\ Below w.heap.size w w7):=⟨hR.next (Vd.out k hkm).2,Below.steps HI6.out.2 hB⟩;have HC7:=hid (HC6.out.keep hB);clear HI6 WO HC6 hB hR;go_wp2_with fail;clear hH;refine hK.out _ _ (HC7.out _ (Below.refl _ _)) fun hH=>?_;clear hK KK
    try simp only[ai]
    refine aB 16 hH ?_;try simp only[ai]
    refine wpAnyH_done (by kernel_rfl) ?_ _
    go_wp2_with fail;go_roundw
    case rel=>exact⟨k+1,so,sn,sc,rfl,by go_num,by omega,HI7.out⟩
    case measure=>simp[intOf];omega
   ·have hdd:(d==e0)=false:=by simpa using hg
    have Ll:Hid (bZ (p.take (k+1)) v e0=bZ (p.take k) v e0):=by rw[Hid,HN.out,if_neg hg,List.append_nil]
    go_wp2_with fail;refine(ko HT.out.1 v d HT.out.2.1).mono ?_;rintro e w2 ⟨rfl,hB⟩;have HI2:Hid (Pz (bd (k+1)) w2 oo on oc (bZ (p.take (k+1)) v e0)/\ Below w.heap.size w w2):=by rw[Hid,Ll.out];exact⟨(HI.out.1.below hB).mono (Vd.out k hkm).1,Below.steps HI.out.2 hB⟩
    clear hB HI HT HN HC c0 c1 c2;go_wp2;go_roundw
    case rel=>exact⟨k+1,oo,on,oc,rfl,by go_num,by omega,HI2.out⟩
    case measure=>simp[intOf];omega
  ·obtain rfl:n=k:=by omega
   have h:=HI.out;rw[List.take_of_length_le (by rw[HX.out.len];exact Nat.le_refl _)]at h;have HH:=hid h;clear h HI;go_wp2;go_ret;exact⟨_,_,_,rfl,HH.out.1,HH.out.2⟩
end
end Go.Proofs.YthdhjckangekoaaGreat

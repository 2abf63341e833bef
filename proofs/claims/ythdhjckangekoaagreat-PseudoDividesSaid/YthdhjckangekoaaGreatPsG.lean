/-
  The reference of pseudo: its meter, heads, products, sums.
-/
import Derived.Test.YthdhjckangekoaaGreatPsY
import Derived.Test.YthdhjckangekoaaGreatMtRef
set_option maxHeartbeats 40000000
set_option maxRecDepth 100000
namespace Go.Proofs.YthdhjckangekoaaGreat
open Lib (hid)
open Go.RowKit
def dO [Ol] (w:World) (mv:Value) (b0:Option Nat) (o:Option MS):Prop:=
 (mv= .pointer none/\ b0=none/\ o=none)∨ ∃b s,mv= .pointer (some ⟨b,0,none⟩)/\ b0=some b/\ o=some s/\ Cells w b (rc s)/\ s.Ok/\ Ol.lo<=b
theorem dO.keep [Ol] {w w':World} {mv:Value} {b0:Option Nat} {o:Option MS} (h:dO w mv b0 o) (hk:∀b,b0=some b->w'.heap[b]? =w.heap[b]?):dO w' mv b0 o:=by
 rcases h with h|⟨b,s,h1,h2,h3,hc,h4⟩
 ·exact .inl h
 ·exact .inr ⟨b,s,h1,h2,h3,hc.keep (hk b h2),h4⟩
theorem dO.lt [Ol] {w:World} {mv:Value} {b0:Option Nat} {o:Option MS} (h:dO w mv b0 o):∀b,b0=some b->b<w.heap.size:=by
 rintro b rfl;rcases h with⟨_,h,_⟩|⟨b',s,_,h,_,hc,_⟩
 ·cases h
 ·cases h;exact hc.lt
theorem dO.below [Ol] {w w':World} {mv:Value} {b0:Option Nat} {o:Option MS} (h:dO w mv b0 o) (hB:Below w.heap.size w w'):dO w' mv b0 o:=h.keep fun b hb=>hB.block b (h.lt b hb)
theorem H9 [Ol] {w w':World} {b:Nat} {s:MS} (h:Cells w b (rc s)) (hlo:Ol.lo<=b) (hG:w.grownBy w' (some b)):l8 w w' b:=by
 obtain⟨T,hq,hh⟩:=h;exact l8.mk' hlo hh (hq (.inr rfl)) ⟨.int .i64 s.fu,by simp[rc],rfl⟩ (fun u hu=>by simp[rc]at hu;rcases hu with rfl|rfl|rfl|rfl|rfl|rfl|rfl|rfl<;>rfl) hG
theorem dO.dY [Ol] {w w':World} {mv:Value} {b0:Option Nat} {o:Option MS} (h:dO w mv b0 o) (hG:w.grownBy w' b0):eZ w w' b0:=by
 refine⟨hG,fun b hb=>?_⟩;rcases h with⟨_,h,_⟩|⟨b',s,_,h,_,hc,_,hl⟩
 ·rw[h]at hb;cases hb
 ·rw[h]at hb;cases hb;rw[h]at hG;exact H9 hc hl hG
theorem dO.far [Ol] {w w':World} {mv:Value} {b0:Option Nat} {o:Option MS} (h:dO w mv b0 o) (hB:Below w.heap.size w w'):eZ w w' b0:=h.dY (aH _ hB)
theorem Pz.dY [Ol] {K:Nat} {w w':World} {ao:Option Addr} {n cap:Nat} {p:List Term} {b0:Option Nat} (h:Pz K w ao n cap p) (hF:eZ w w' b0):Pz K w' ao n cap p:=by
 cases h0:b0 with
 |none=>exact h.below (hF.none h0)
 |some b=>exact h.di (hF.far b h0)
theorem Pz.QT [Ol] {K:Nat} {w:World} {ao:Option Addr} {n cap:Nat} {p:List Term} (h:Pz K w ao n cap p):∀t∈p,Bd t.1 K:=fun t ht=>by
 obtain⟨i,hi,rfl⟩:=List.mem_iff_getElem.1 ht;obtain⟨_,_,_,_,_,_,_,_,_,_,_,_,_,hb,_⟩:=h.at (k:=i) (by rw[<-h.len];exact hi);rwa[bJ _ hi]at hb
def OW [Ol] (w:World) (mv:Value) (b0:Option Nat) (o:Option MS) (e:Ending) (w':World):Prop:=e= .returned (.int .i64 (jN o))/\ dO w' mv b0 (yh o)/\ eZ w w' b0
theorem KP [Ol] {w:World} {mv:Value} {b0:Option Nat} {o:Option MS} (h:dO w mv b0 o):Calls Tryz.prog 32 #[mv] w (OW w mv b0 o):=by
 rcases h with⟨rfl,rfl,rfl⟩|⟨b,s,rfl,rfl,rfl,hc,hk,hl⟩
 ·go_enter Tryz.func32,Tryz.ntmps32;go_wp2_with fail;go_ret;exact⟨rfl,.inl ⟨rfl,rfl,rfl⟩,World.grownBy.refl _ _,fun b hb=>by cases hb⟩
 ·have H:=hid (And.intro hc (And.intro hk hl));clear hc hk hl;go_enter Tryz.func32,Tryz.ntmps32;go_wp2_with fail;refine(La H.out.1 H.out.2.1).mono ?_;rintro e w1 ⟨rfl,hC,hG⟩;have HR:Hid (OW w (.pointer (some ⟨b,0,none⟩)) (some b) (some s) (.returned (.int .i64 s.j6)) w1):=⟨rfl,.inr ⟨b,_,rfl,rfl,rfl,hC,H.out.2.1.step,H.out.2.2⟩,hG,fun b' hb'=>by cases hb';exact H9 H.out.1 H.out.2.2 hG⟩;clear hC hG H;go_wp2_with fail;go_ret;exact HR.out
def OX [Ol] (w:World) (mv:Value) (b0:Option Nat) (o:Option MS) (p:List Term) (e:Ending) (w':World):Prop:=e= .returned (.int .i64 (bO o p))/\ dO w' mv b0 (jB o p)/\ eZ w w' b0
theorem ru [Ol] {w:World} {mv:Value} {b0:Option Nat} {o:Option MS} (h:dO w mv b0 o) {K:Nat} {ao:Option Addr} {n cap:Nat} {p:List Term} (hp:Pz K w ao n cap p) (hn:n<=100000) (hK:K<=9000):Calls Tryz.prog 36 #[mv,.slice ao n cap] w (OX w mv b0 o p):=by
 rcases h with⟨rfl,rfl,rfl⟩|⟨b,s,rfl,rfl,rfl,hc,hk,hl⟩
 ·go_enter Tryz.func36,Tryz.ntmps36;go_wp2_with fail;go_ret;exact⟨rfl,.inl ⟨rfl,rfl,rfl⟩,World.grownBy.refl _ _,fun b hb=>by cases hb⟩
 ·have H:=hid (And.intro hc (And.intro hk hl));have HP:=hid hp;clear hc hk hl hp;go_enter Tryz.func36,Tryz.ntmps36;go_wp2_with fail;refine(jd HP.out hn hK).mono ?_;rintro e w1 ⟨xo,xn,xc,rfl,hX,hB⟩;have hC1:Cells w1 b (rc s):=H.out.1.keep (hB.block b H.out.1.lt);have HX:=hid (And.intro hX.lp (And.intro hC1 hB));clear hX hC1 hB HP;go_wp2_with fail;refine(Lb HX.out.2.1 HX.out.1).mono ?_;rintro e w2 ⟨rfl,hC,hG⟩;have hG2:w.grownBy w2 (some b):=ay (aH _ HX.out.2.2) hG;have HR:Hid (OX w (.pointer (some ⟨b,0,none⟩)) (some b) (some s) p (.returned (.int .i64 (s.je (kl p)))) w2):=⟨rfl,.inr ⟨b,_,rfl,rfl,rfl,hC,H.out.2.1.keep _,H.out.2.2⟩,hG2,fun b' hb'=>by cases hb';exact H9 H.out.1 H.out.2.2 hG2⟩;clear hC hG hG2 H HX;go_wp2_with fail;go_ret;exact HR.out
theorem Ay [Ol] {K:Nat} {ao:Option Addr} {n cap:Nat} {p:List Term} {w:World} (v:Int) (hp:Pz K w ao n cap p) (hf:fall p) (hn:n<=1000000) (hK:K+1<=9000):Calls Tryz.prog 31 #[.slice ao n cap,.int .i64 v] w (kK K w (bQ p v)):=by
 obtain⟨d,hd⟩:∃d,aI p v=d:=⟨_,rfl⟩;have HP:=hid (And.intro hp hf);have HD:=hid hd;have HH:Hid (bQ p v=bZ p v d):=by rw[Hid,<-hd];rfl
 have Nc:Hid (∀k,∀t∈bZ (p.take (k+1)) v d,Bd t.1 K):=fun k t ht=>by
  obtain⟨s,hs,rfl⟩:=List.mem_map.1 ht;exact hp.QT s (List.mem_of_mem_take (List.mem_filter.1 hs).1)
 clear hp hf hd;go_enter Tryz.func31,Tryz.ntmps31;go_wp2_with fail;refine(lH v d HP.out.1 HP.out.2 HD.out).mono ?_;rintro e w1 ⟨rfl,hB⟩;have HB:=hid hB;clear hB;go_wp2_with fail;refine(Ia v d (bd:=fun _=>K) (HP.out.1.below HB.out) HP.out.2 hn (fun _ _=>⟨Nat.le_refl _,hK⟩) (fun k _=>⟨Nat.le_refl _,.inr (Nc.out k)⟩)).mono ?_;rintro e w2 ⟨xo,xn,xc,rfl,hX,hB⟩;have HR:Hid (kK K w (bQ p v) (.returned (.slice xo xn xc)) w2):=⟨_,_,_,rfl,by rw[HH.out];exact hX,Below.steps HB.out hB⟩;clear hX hB HB HP;go_wp2_with fail;go_ret;exact HR.out
theorem rF (p:List Term) (k:Nat):aD (p.take k)<=aD p:=by
 conv=>rhs;rw[<-List.take_append_drop k p,mK]
 omega
theorem RO {p q:List Term} (k j:Nat) (hk:k<p.length):aD (zC p q p[k] k j)<=aD p*aD q:=by
 have h1:=lQ (mulL (p.take k) q++uQ p[k] (q.take j)) [];have h0:aD ([]:List Term)=0:=rfl
 have h2:aD (p.take (k+1))=aD (p.take k)+(p[k]).1.natAbs:=by
  rw[List.take_succ_eq_append_getElem hk,mK];simp[aD]
 have h3:(p[k]).1.natAbs*aD (q.take j)<=(p[k]).1.natAbs*aD q:=Nat.mul_le_mul_left _ (rF q j);have h4:aD (p.take (k+1))*aD q<=aD p*aD q:=Nat.mul_le_mul_right _ (rF p (k+1));rw[h2,Nat.add_mul]at h4;rw[mK,vg,AQ,h0]at h1;unfold zC mE;omega
theorem oQ [Ol] {B:Nat} {Kp Kq:Nat} {ao bo:Option Addr} {n cap l cb:Nat} {p q:List Term} {w:World} (hp:Pz Kp w ao n cap p) (hq:Pz Kq w bo l cb q) (hfp:fall p) (jM:fall q) (hf:iA p q) (hL:n*l<=2000000) (hK:Kp+Kq<=B) (hB:B<=9000) (hs:aD p*aD q<4294967296^B):
  Calls Tryz.prog 33 #[.slice ao n cap,.slice bo l cb] w (N7 B w (aU p q) true):=by
 have h:=xO (bd:=fun _=>B) hp hq (ah hfp) (ah jM) hL (fun _ _=>⟨hK,hB⟩) (fun k j hk _=> .inr (qC (Nat.lt_of_le_of_lt (RO k (j+1) hk) hs)));rw[qj hf]at h;exact h
theorem OG [Ol] {B:Nat} {ao bo:Option Addr} {n cap l cb:Nat} {p q:List Term} {w:World} (hp:Pz B w ao n cap p) (hq:Pz B w bo l cb q) (hf:fall p) (jM:fall q) (hn:n+l<=2000000) (hB:B<=9000) (hs:aD p+aD q<4294967296^B):
  Calls Tryz.prog 19 #[.slice ao n cap,.slice bo l cb] w (kK B w (fD p q)):=
 tC (bd:=fun _=>B) hp hq hf (ah jM) hn (fun _ _=>⟨Nat.le_refl _,hB⟩) fun k _=> .inr (qC (Nat.lt_of_le_of_lt (lQ _ _) (by have:=rF q (k+1);omega)))
theorem Eg [Ol] {B:Nat} {ao bo:Option Addr} {n cap l cb:Nat} {p q:List Term} {w:World} (hp:Pz B w ao n cap p) (hq:Pz B w bo l cb q) (hf:fall p) (jM:fall q) (hn:n+l<=2000000) (hB:B<=9000) (hs:aD p+aD q<4294967296^B):
  Calls Tryz.prog 21 #[.slice ao n cap,.slice bo l cb] w (kK B w (uU p q)):=
 DV (bd:=fun _=>B) hp hq hf (ah jM) hn (fun _ _=>⟨Nat.le_refl _,hB⟩) fun k _=> .inr (qC (Nat.lt_of_le_of_lt (lQ _ _) (by have h1:=rF (kP q) (k+1);have h2:=Ez q;omega)))
theorem bg.ref {g r:List Term} {v E F:Int} (h:bg g r v E F):iA (bQ g v) r/\ iA (iI g r v) g/\ zT g v r=uU (aU (bQ g v) r) (aU (iI g r v) g):=by
 have h1:iA (bQ g v) r:=EB.fit (ah (bP h.fg v)) (ah h.fr) (h.eg.hd (ah h.fg) v) h.er h.ef;have h2:iA (iI g r v) g:=EB.fit (ah h.fF) (ah h.fg) h.Vl h.eg (by have:=h.ef;omega);have f1:=bY (bP h.fg v) h.fr h1;have f2:=bY h.fF h.fg h2;have s:=q9 f1 (ah f2);refine⟨h1,h2,iN h.OY s.1 fun ρ=>?_⟩;rw[s.2,h.ZP,(eO (ah (bP h.fg v)) (ah h.fr) h1).2,(eO (ah h.fF) (ah h.fg) h2).2]
end Go.Proofs.YthdhjckangekoaaGreat

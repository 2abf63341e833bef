/- VPlain, VDeg, VPick, VFn, VFace -/
import Derived.Test.YthdhjckangekoaaGreatGP9
import Derived.Test.YthdhjckangekoaaGreatGP8
set_option maxHeartbeats 40000000
set_option maxRecDepth 100000
namespace Go.Proofs.YthdhjckangekoaaGreat
open Go.RowKit
def gQ (v e:Int):List (Int×Int):=if e=0 then[]else[(v,e)]
theorem jZ {v e:Int} (hv:1<=v/\ v<=200) (he:0<=e/\ e<=10000):aJ 0 (gQ v e)=true:=by
 unfold gQ;by_cases h:e=0
 ·rw[if_pos h];rfl
 ·rw[if_neg h];unfold aJ Dn;simp only[Bool.and_eq_true,decide_eq_true_eq];exact⟨⟨by omega,by omega,by omega,by omega⟩,rfl⟩
theorem kD (v e u:Int):av (gQ v e) u=if u=v then e else 0:=by
 unfold gQ;by_cases h:e=0
 ·rw[if_pos h,h];simp[av]
 ·rw[if_neg h];simp only[av];by_cases hu:u=v
  ·rw[if_pos hu,if_pos hu.symm]
  ·rw[if_neg hu,if_neg (fun e=>hu e.symm)]
theorem pz {m:List (Int×Int)} (hm:aJ 0 m=true) (v:Int):aJ 0 (eF v m)=true:=
 rz.2 ⟨tK v (gY hm),fun u=>by
  rw[dN];by_cases hu:u=v
  ·rw[if_pos hu];omega
  ·rw[if_neg hu];exact eD hm u⟩
theorem Qs {m:List (Int×Int)} (hm:aJ 0 m=true) {v:Int} (hv:1<=v/\ v<=200):gH (eF v m) (gQ v (av m v))=m:=by
 have h1:=pz hm v;have h2:=jZ hv (eD hm v)
 have he:∀u,av (gH (eF v m) (gQ v (av m v))) u=av m u:=fun u=>by
  rw[dM h1 h2,dN,kD];by_cases hu:u=v
  ·rw[if_pos hu,if_pos hu,hu];omega
  ·rw[if_neg hu,if_neg hu];omega
 have h3:aJ 0 (gH (eF v m) (gQ v (av m v)))=true:=by
  rw[kg h1 h2];intro u;have:=he u;rw[dM h1 h2]at this;rw[this];exact(eD hm u).2
 exact qw h3 hm he
theorem Sn {m:List (Int×Int)} (hm:aJ 0 m=true) {v:Int} (hv:1<=v/\ v<=200) (ρ:Nat->Int):wm m ρ=wm (eF v m) ρ*wm (gQ v (av m v)) ρ:=by
 rw[<-wW (pz hm v) (jZ hv (eD hm v)),Qs hm hv]
def aI (p:List Term) (v:Int):Int:=p.foldl (fun a t=>max a (av t.2 v)) 0
theorem Bl {p:List Term} (v:Int) (k:Nat) (hk:k<p.length):aI (p.take (k+1)) v=max (aI (p.take k) v) (av (p[k]).2 v):=by
 unfold aI;rw[List.take_succ_eq_append_getElem hk,List.foldl_append];rfl
theorem xH (v:Int):∀(p:List Term) (a:Int),a<=p.foldl (fun a t=>max a (av t.2 v)) a/\ (∀t∈p,av t.2 v<=p.foldl (fun a t=>max a (av t.2 v)) a)/\
  (p.foldl (fun a t=>max a (av t.2 v)) a=a∨ ∃t∈p,p.foldl (fun a t=>max a (av t.2 v)) a=av t.2 v)
 |[],a=>⟨Int.le_refl _,(fun _ h=>by cases h),.inl rfl⟩
 |s::r,a=>by
  obtain⟨h1,h2,h3⟩:=xH v r (max a (av s.2 v));simp only[List.foldl_cons];refine⟨by omega,fun t ht=>?_,?_⟩
  ·rcases List.mem_cons.1 ht with rfl|ht
   ·omega
   ·exact h2 t ht
  ·rcases h3 with h3|⟨t,ht,h3⟩
   ·by_cases h:a<=av s.2 v
    ·exact .inr ⟨s,by simp,by rw[h3];omega⟩
    ·exact .inl (by rw[h3];omega)
   ·exact .inr ⟨t,by simp[ht],h3⟩
theorem CV {p:List Term} {t:Term} (h:t∈p) (v:Int):av t.2 v<=aI p v:=(xH v p 0).2.1 t h
theorem uM (p:List Term) (v:Int):0<=aI p v:=(xH v p 0).1
theorem uw (p:List Term) (v:Int):aI p v=0∨ ∃t∈p,aI p v=av t.2 v:=(xH v p 0).2.2
theorem JQ {p:List Term} (h:dX p) (v:Int):aI p v<=10000:=by
 rcases uw p v with h0|⟨t,ht,h1⟩
 ·omega
 ·rw[h1];exact(eD (h t ht) v).2
theorem Tf {p:List Term} {v d:Int} (hn:0<=d) (h1:∀t∈p,av t.2 v<=d) (h2:d=0∨ ∃t∈p,av t.2 v=d):aI p v=d:=by
 have h0:=uM p v;rcases uw p v with h3|⟨t,ht,h3⟩
 ·rcases h2 with h2|⟨t,ht,h2⟩
  ·omega
  ·have:=CV ht v;omega
 ·have h4:=h1 t ht;rcases h2 with h2|⟨s,hs,h2⟩
  ·omega
  ·have:=CV hs v;omega
theorem MR {p:List Term} (h:dX p) {v:Int} (hv:v<1∨200<v):aI p v=0:=
 Tf (Int.le_refl _) (fun t ht=>by rw[jA (h t ht) hv];exact Int.le_refl _) (.inl rfl)
theorem qM (f:Term->Bool):∀{p:List Term},fall p->fall (p.filter f)
 |[],_=>trivial
 |t::r,h=>by
  have ih:=qM f h.2.2.2;by_cases hf:f t=true
  ·rw[List.filter_cons_of_pos hf];exact⟨h.1,h.2.1,fun s hs=>h.2.2.1 s ((List.mem_filter.1 hs).1),ih⟩
  ·rw[List.filter_cons_of_neg hf];exact ih
theorem FM (g:Term->Term):∀{p:List Term},fall p->(∀t∈p,(g t).1≠0/\ aJ 0 (g t).2=true)->(∀t∈p,∀s∈p,kY t.2 s.2->kY (g t).2 (g s).2)->fall (p.map g)
 |[],_,_,_=>trivial
 |t::r,h,h1,h2=>by
  refine⟨(h1 t (by simp)).1,(h1 t (by simp)).2,fun s hs=>?_,FM g h.2.2.2 (fun s hs=>h1 s (by simp[hs])) (fun a ha b hb=>h2 a (by simp[ha]) b (by simp[hb]))⟩;obtain⟨u,hu,rfl⟩:=List.mem_map.1 hs;exact h2 t (by simp) u (by simp[hu]) (h.2.2.1 u hu)
def bZ (p:List Term) (v e:Int):List Term:=(p.filter fun t=>av t.2 v==e).map fun t=>(t.1,eF v t.2)
theorem vF {p:List Term} (h:fall p) (v e:Int):fall (bZ p v e):=by
 refine FM _ (qM _ h) (fun t ht=>?_) (fun t ht s hs hg=>?_)
 ·have hm:=(List.mem_filter.1 ht).1;exact⟨mG h t hm,pz (bM h t hm) v⟩
 ·have h1:av t.2 v=e:=by simpa using(List.mem_filter.1 ht).2
  have h2:av s.2 v=e:=by simpa using(List.mem_filter.1 hs).2
  rcases hg with⟨h,_⟩|⟨_,h,_⟩|⟨u,_,g1,g2⟩
  ·omega
  ·omega
  ·have hu:u≠v:=fun e=>by subst e;omega
   refine .inr (.inr ⟨u,rfl,?_,fun x hx=>?_⟩)
   ·show av (eF v s.2) u<av (eF v t.2) u;rw[dN,dN,if_neg hu,if_neg hu];exact g1
   ·show av (eF v t.2) x=av (eF v s.2) x;rw[dN,dN,g2 x hx]
open Lib (hid)
section
variable {K:Nat} {ao:Option Addr} {n cap:Nat} {p:List Term} {ps:List Raw} {w:World}
theorem Qt [Ol] (r:Bool) (hp:Pr w ao n cap ps) (hl:∀t∈ps,t.1.2.length<=1000) (h:iV ps=r):
  Calls Tryz.prog 75 #[.slice ao n cap] w (bN (if r=true then .slice ao n cap else .slice none 0 0) w):=by
 cases r with
 |true=>
  go_enter Tryz.func75,Tryz.ntmps75;go_wp2_with fail;refine(qK true hp hl h).mono ?_;rintro e w1 ⟨rfl,hB⟩;go_wp2_with fail;go_ret;exact⟨rfl,hB⟩
 |false=>
  go_enter Tryz.func75,Tryz.ntmps75;go_wp2_with fail;refine(qK false hp hl h).mono ?_;rintro e w1 ⟨rfl,hB⟩;go_wp2_with fail;go_ret;exact⟨rfl,hB⟩
theorem J9 [Ol] (hp:Pr w ao n cap ps) (hl:∀t∈ps,t.1.2.length<=K) (hK:K<=1000):Calls Tryz.prog 75 #[.slice ao n cap] w (OrZ K w n ps):=
 XG hp hl fun r hr=>Qt r hp (fun t ht=>Nat.le_trans (hl t ht) hK) hr
theorem FN [Ol] (v z:Int) (hp:Pc K w ao n cap p) (hf:dX p) (hz:aI p v=z):Calls Tryz.prog 74 #[.slice ao n cap,.int .i64 v] w (bN (.int .i64 z) w):=by
 have hmb:n<=4398046511104:=by obtain⟨_,hG,_⟩:=hp.ex;exact hG.big
 have HX:=hid hp;have HF:=hid hf;have HZ:=hid hz;clear hp hf hz;go_enter Tryz.func74,Tryz.ntmps74;go_wp2;go_loopw [5,10] (fun s5 s10 wr=>∃(k:Nat) (y:Int),s5= .int .i64 y/\ s10= .int .i64 k/\ k<=n/\ Hid (aI (p.take k) v=y/\ Below w.heap.size w wr)) (fun _ s10 _=>n-(intOf s10).toNat)
 case atStart=>exact⟨0,0,rfl,rfl,Nat.zero_le _,rfl,Below.refl _ _⟩
 case round=>
  obtain⟨k,y,rfl,rfl,hk,HI⟩:=hrel;by_cases hkm:k<n
  ·have hkp:k<p.length:=by rw[HX.out.len];exact hkm
   obtain⟨b,off,xm,xa,xn,xc,xp,xq,xr,Fh,hbl,hc,rH,hBd,kU⟩:=(HX.out.below HI.out.2).at (k:=k) hkm;subst Fh;obtain⟨c0,c1,c2⟩:=hc wr (Below.refl _ _);rw[bJ _ hkp]at kU;obtain⟨d,hd⟩:∃d,av (p[k]).2 v=d:=⟨_,rfl⟩;have hN:=Bl v k hkp;rw[HI.out.1,hd]at hN;have HT:Hid (Ml wr xp xq xr (p[k]).2/\ jv (p[k]).2 v=d):=⟨kU,by rw[iT (HF.out _ (List.getElem_mem hkp))];exact hd⟩;have HN:=hid hN;clear hc rH hBd kU hbl hN hd;go_upto_region 5 with(fail)
   refine au (fun W hW=>?_);obtain⟨a1,hB⟩:=pF wr [.bool xm,.slice xa xn xc,.slice xp xq xr] 54;rw[<-hW]at a1 hB;clear hW c0 c1 c2;have HI2:Hid (aI (p.take (k+1)) v=max y d/\ Below w.heap.size w W):=⟨HN.out,Below.steps HI.out.2 hB⟩;have HT2:Hid (Ml W xp xq xr (p[k]).2/\ jv (p[k]).2 v=d):=⟨HT.out.1.below hB,HT.out.2⟩;obtain⟨c0,c1,c2⟩:=a1.c3;clear a1 hB HI HN HT;go_wp2_with fail;refine(o5 HT2.out.1 v d HT2.out.2).mono ?_;rintro e w2 ⟨rfl,hB⟩;have HI3:Hid (aI (p.take (k+1)) v=max y d/\ Below w.heap.size w w2):=⟨HI2.out.1,Below.steps HI2.out.2 hB⟩;clear hB HI2 HT2 c0 c1 c2;go_wp2;go_roundw
   case rel=>exact⟨k+1,max y d,rfl,by go_num,by omega,HI3.out⟩
   case measure=>simp[intOf];omega
  ·obtain rfl:n=k:=by omega
   have h:=HI.out;rw[List.take_of_length_le (by rw[HX.out.len];exact Nat.le_refl _)]at h;obtain rfl:y=z:=by rw[<-h.1];exact HZ.out
   have HH:=hid h.2;clear h HI HX;go_wp2;go_ret;exact⟨rfl,HH.out⟩
theorem wE [Ol] (v z:Int) (hp:Pr w ao n cap ps) (hl:∀t∈ps,t.1.2.length<=1000) (hz:aI (ow ps) v=z):Calls Tryz.prog 46 #[.slice ao n cap,.int .i64 v] w (bN (.int .i64 z) w):=by
 go_enter Tryz.func46,Tryz.ntmps46;go_wp2_with fail;refine(J9 hp hl (Nat.le_refl _)).mono ?_;rintro e w1 ⟨bo,m,cb,rfl,hX,hmn,hB⟩;go_wp2_with fail;refine(FN v z hX (ah (FO hp.wfs)) hz).mono ?_;rintro e w2 ⟨rfl,hB2⟩;go_wp2_with fail;go_ret;exact⟨rfl,Below.steps hB hB2⟩
end
open Lib (hid)
def dL (f:List (Int×Int)->List (Int×Int)×Int) (p:List Term):List Term:=(p.filter fun t=> !((f t.2).2==0)).map fun t=>(t.1*(f t.2).2,(f t.2).1)
theorem IJ (f:List (Int×Int)->List (Int×Int)×Int) {p:List Term} (k:Nat) (hk:k<p.length):
  dL f (p.take (k+1))=dL f (p.take k)++if (f (p[k]).2).2=0 then[]else[((p[k]).1*(f (p[k]).2).2,(f (p[k]).2).1)]:=by
 unfold dL;rw[List.take_succ_eq_append_getElem hk,List.filter_append,List.map_append]
 congr 1
 by_cases h:(f (p[k]).2).2=0
 ·rw[if_pos h,List.filter_cons_of_neg (by simp[h])];rfl
 ·rw[if_neg h,List.filter_cons_of_pos (by simp[h])];rfl
theorem Mf (f:List (Int×Int)->List (Int×Int)×Int) (p:List Term):(dL f p).length<=p.length:=by
 unfold dL;rw[List.length_map];exact List.length_filter_le _ _
theorem Qu [Ol] {G:Nat} {lb:Array Value} (eg:∀args w,(callFunc G args).run Tryz.prog w= .ok (.enter G args) w) (f:List (Int×Int)->List (Int×Int)×Int) {K:Nat} {ao:Option Addr} {n cap:Nat} {p:List Term} {w:World} (hp:Pc K w ao n cap p) (hn:n<=1000000) (hK:K<=100000)
  (hf:∀t∈p,-10000<=(f t.2).2/\ (f t.2).2<=10000)
  (hF:∀t∈p,∀W,Below w.heap.size w W->∀mo mn mc,Ml W mo mn mc t.2->Calls Tryz.prog G (#[.slice mo mn mc]++lb) W (pV W (f t.2).1 (f t.2).2)):
  Calls Tryz.prog 139 #[.slice ao n cap,.func (.func G) #[] lb] w (qN (K+1) w (dL f p)):=by
 obtain⟨i0,hi,hz0,hz1,hz2⟩:=info_parts Tryz.Jf;have HP:=hid hp;have HB:=hid hf;have HF:=hid hF;clear hp hf hF;go_enter Tryz.func139,Tryz.ntmps139;go_wp2;go_loopw [5,12] (fun o i wr=>∃(k c2:Nat) (oo:Option Addr) (zs:List (List Value)),i= .int .i64 k/\ o= .slice oo (dL f (p.take k)).length c2/\ k<=n/\ Hid (fM w.heap.size 54 3 wr oo (dL f (p.take k)).length c2 zs/\ bG (fP (K+1) wr) zs (dL f (p.take k))/\ Below w.heap.size w wr)) (fun _ i _=>n-(intOf i).toNat)
 case atStart=>exact⟨0,0,none,[],rfl,rfl,Nat.zero_le _,fM.nil _ _ _ _,trivial,Below.refl _ _⟩
 case round=>
  obtain⟨k,c2,oo,zs,rfl,rfl,hk,HS⟩:=hrel;by_cases hkn:k<n
  ·have hkp:k<p.length:=by rw[HP.out.len];exact hkn
   obtain⟨b,off,xm,xa,xn,xc,xp,xq,xr,Fh,hbl,hc,rH,hBd,kU⟩:=(HP.out.below HS.out.2.2).at (k:=k) hkn;subst Fh;obtain⟨c0,c1,c2x⟩:=hc wr (Below.refl _ _);rw[bJ _ hkp]at rH hBd kU;obtain⟨m2,hm2⟩:∃m2,(f (p[k]).2).1=m2:=⟨_,rfl⟩;obtain⟨y,hy⟩:∃y,(f (p[k]).2).2=y:=⟨_,rfl⟩;have hyb:=HB.out _ (List.getElem_mem hkp);rw[hy]at hyb;have hN:=IJ f k hkp;rw[hm2,hy]at hN;have hFk:=HF.out _ (List.getElem_mem hkp);rw[hm2,hy]at hFk;have hlen:=Mf f (p.take k);rw[List.length_take]at hlen;have HT:=hid (And.intro rH kU);have Nc:=hid hBd;have HY:Hid (-9223372036854775808<=y/\ y<=9223372036854775807):=by rw[Hid];omega
   have HYB:Hid (Bd y 1):=by unfold Hid Bd;omega
   have VA:=hid hFk;have HN:=hid hN;have wU:=hid (HP.out.len);obtain⟨kk,hkk⟩:∃kk,kk=(dL f (p.take k)).length:=⟨_,rfl⟩;rw[<-hkk]at hlen;have aj3:kk<=k:=by omega
   clear hc rH hBd kU hbl hm2 hy hyb hN hFk;rw[<-hkk];have HKK:=hid hkk;clear hkk hlen;go_upto_region 5 with(fail)
   refine au (fun W hW=>?_);obtain⟨g,hg⟩:∃g,g=wr.heap.size:=⟨_,rfl⟩;have a1:aN W g [.bool xm,.slice xa xn xc,.slice xp xq xr] 54/\ Below wr.heap.size wr W:=by rw[hW,hg];exact pF wr [.bool xm,.slice xa xn xc,.slice xp xq xr] 54
   rw[<-hg];have HN0:Hid (some g≠(Value.slice oo (dL f (p.take k)).length c2).ownBlock):=by rw[Hid,Ka];intro e;have:=(HS.out.1.rw.lt g e.symm).2;omega
   clear hW c0 c1 c2x hg;have ig:Hid (fM w.heap.size 54 3 W oo (dL f (p.take k)).length c2 zs/\ bG (fP (K+1) W) zs (dL f (p.take k))/\ Below w.heap.size w W):=⟨HS.out.1.below a1.2,HS.out.2.1.imp (fun _ _ h=>h.below a1.2),Below.steps HS.out.2.2 a1.2⟩;have HT1:=hid (And.intro (HT.out.1.below a1.2) (HT.out.2.below a1.2));obtain⟨c0,c1,c2x⟩:=a1.1.c3;have HA1:=hid a1.1;clear a1 HS HT;have HC:=hid (VA.out W ig.out.2.2 _ _ _ HT1.out.2);clear VA;by_cases hy0:y=0
   ·have hd:(y !=0)=false:=by simpa using hy0
    have Ll:Hid (dL f (p.take (k+1))=dL f (p.take k)):=by rw[Hid,HN.out,if_pos hy0,List.append_nil]
    go_wp2_with (go_at_fn G;refine HC.out.mono ?_;rintro e w2 ⟨ro,rn,rc,rfl,hM,hB⟩;have HS2:Hid (fM w.heap.size 54 3 w2 oo (dL f (p.take k)).length c2 zs/\ bG (fP (K+1) w2) zs (dL f (p.take k))/\ Below w.heap.size w w2):=⟨ig.out.1.below hB,ig.out.2.1.imp (fun _ _ h=>h.below hB),Below.steps ig.out.2.2 hB⟩;clear c0 c1 c2x hM hB ig HT1 HA1);rw[HKK.out,<-Ll.out];go_roundw
    case rel=>exact⟨k+1,c2,oo,zs,by go_num,rfl,by omega,by rw[Ll.out];exact HS2.out⟩
    case measure=>simp[intOf];omega
   ·have hd:(y !=0)=true:=by simpa using hy0
    have HQ:Hid (dL f (p.take (k+1))=dL f (p.take k)++[((p[k]).1*y,m2)]):=by rw[Hid,HN.out,if_neg hy0]
    have sU:=HC;go_wp2_with (first|(go_at_fn G;refine HC.out.mono ?_;rintro e w2 ⟨ro,rn,rc,rfl,hM,hB⟩;have HS2:Hid (fM w.heap.size 54 3 w2 oo (dL f (p.take k)).length c2 zs/\ bG (fP (K+1) w2) zs (dL f (p.take k))/\ Below w.heap.size w w2):=⟨ig.out.1.below hB,ig.out.2.1.imp (fun _ _ h=>h.below hB),Below.steps ig.out.2.2 hB⟩;have HA2:=hid (HA1.out.below hB);have Ct:=hid (And.intro (HT1.out.1.below hB) hM);clear c0 c1 c2x hM hB ig HT1 HA1)|fail);rw[HKK.out];have hlen3:(dL f (p.take k)).length<=k:=by rw[<-HKK.out];exact aj3
    have A8:Hid (some g≠(Value.slice oo (dL f (p.take k)).length c2).ownBlock):=HN0.out;go_upto_region 7 with(fail)
    refine wp_region_held_drew (S:=fun w'=>w'.cell? ⟨g,0,none⟩=some (.bool xm)/\ w'.cell? ⟨g,1,none⟩=some (.slice xa xn xc)) (by kernel_rfl) (by have h:=(HA2.out.below (Below.refl _ _).drew).c3;exact⟨h.1,h.2.1⟩) (fun hH=>?_);refine ak (fun w4 hW=>?_);have eU:Hid (fM w.heap.size 54 3 w4 oo (dL f (p.take k)).length c2 zs/\ bG (fP (K+1) w4) zs (dL f (p.take k))/\ Below w.heap.size w w4):=by rw[hW];exact⟨HS2.out.1.below (Below.refl _ _).drew,HS2.out.2.1.imp (fun _ _ h=>h.below (Below.refl _ _).drew),Below.steps HS2.out.2.2 (Below.refl _ _).drew⟩
    have Kb:Hid (aN w4 g [.bool xm,.slice xa xn xc,.slice xp xq xr] 54):=by rw[hW];exact HA2.out.below (Below.refl _ _).drew
    have Vz:Hid (Cn w4 xm xa xn xc (p[k]).1/\ Ml w4 ro rn rc m2):=by rw[hW];exact⟨Ct.out.1.below (Below.refl _ _).drew,Ct.out.2.below (Below.refl _ _).drew⟩
    rw[<-hW]at hH;clear HS2 HA2 Ct;clear hW;refine aB 0 hH ?_;try simp only[ai]
    refine aB 1 hH ?_;try simp only[ai]
    refine aB 2 hH ?_;try simp only[ai]
    refine aB 3 hH ?_;try simp only[ai]
    refine aB 6 hH ?_;try simp only[ai]
    refine aj 4 rfl (by kernel_rfl) (fun KK hK=>?_);go_simp;refine(xu y _ HY.out).mono ?_;rintro e w5 ⟨om,ob,on2,oc,rfl,hX,hB⟩;have fT:Hid (fM w.heap.size 54 3 w5 oo (dL f (p.take k)).length c2 zs/\ bG (fP (K+1) w5) zs (dL f (p.take k))/\ Below w.heap.size w w5):=⟨eU.out.1.below hB,eU.out.2.1.imp (fun _ _ h=>h.below hB),Below.steps eU.out.2.2 hB⟩;have Bu:=hid (Kb.out.below hB);have VB:=hid (And.intro (Vz.out.1.below hB) (Vz.out.2.below hB));have HO5:=hid hX;clear eU Kb Vz hX hB;go_wp2_with fail;clear hH;refine hK.out _ _ ⟨Bu.out.c3.1,Bu.out.c3.2.1⟩ fun hH=>?_;clear hK KK
    try simp only[ai]
    refine aj 5 rfl (by kernel_rfl) (fun KK hK=>?_);go_simp;refine(ED (VB.out.1.cx Nc.out (by omega)).nx (HO5.out.cx HYB.out (by omega)).nx).mono ?_;rintro e w6 ⟨sm,sa,sn,sc,rfl,hX,hB⟩;have jg:Hid (fM w.heap.size 54 3 w6 oo (dL f (p.take k)).length c2 zs/\ bG (fP (K+1) w6) zs (dL f (p.take k))/\ Below w.heap.size w w6):=⟨fT.out.1.below hB,fT.out.2.1.imp (fun _ _ h=>h.below hB),Below.steps fT.out.2.2 hB⟩;have tJ:=hid (Bu.out.below hB);have HT6:Hid (fP (K+1) w6 [.bool sm,.slice sa sn sc,.slice ro rn rc] ((p[k]).1*y,m2)):=⟨_,_,_,_,_,_,_,rfl,hX,Nc.out.mul HYB.out,VB.out.2.below hB⟩;clear fT Bu VB HO5 hX hB;go_wp2_with fail;clear hH;refine hK.out _ _ ⟨tJ.out.c3.1,tJ.out.c3.2.1⟩ fun hH=>?_;clear hK KK
    try simp only[ai]
    refine aB 7 hH ?_;try simp only[ai]
    refine aj 8 rfl (by kernel_rfl) (fun KK hK=>?_);go_simp;clear hH;refine hK.out _ _ ⟨(tJ.out.below (af w6 _)).c3.1,(tJ.out.below (af w6 _)).c3.2.1⟩ fun hH=>?_;clear hK KK
    try simp only[ai]
    refine aj 9 rfl (by kernel_rfl) (fun KK hK=>?_);refine ql _ w (.tmp 25) (.tmp 33) 23 rfl w.heap.size 54 3 56 i0 (.agg #[.bool false,.slice none 0 0,.slice none 0 0]) Tryz.underlying23 hi hz0 hz1 hz2 rfl (by omega) oo _ c2 zs rfl (jg.out.1.below (af w6 _)) _ 1 1 [[.bool sm,.slice sa sn sc,.slice ro rn rc]] rfl (Gl.lit 3 w6 _ _ rfl (by simp[Value.oneCell'])) (jg.out.2.2.alloc jg.out.2.2.size _) (by have:=jg.out.2.2.size;simp;omega) (by omega) (by omega) (by simp[Value.cells,aX]) (by simp[aX]) ?_;intro o8 c8 w8 hO mq sS;have tH:Hid (fM w.heap.size 54 3 w8 o8 (dL f (p.take (k+1))).length c8 (zs++[[.bool sm,.slice sa sn sc,.slice ro rn rc]])/\ bG (fP (K+1) w8) (zs++[[.bool sm,.slice sa sn sc,.slice ro rn rc]]) (dL f (p.take (k+1)))/\ Below w.heap.size w w8):=by rw[Hid,HQ.out];exact⟨by rw[List.length_append];exact hO,bG.append (jg.out.2.1.imp (fun _ _ h=>(h.below (af w6 _)).stays (jg.out.1.below (af w6 _)) sS)) ⟨(HT6.out.below (af w6 _)).stays (jg.out.1.below (af w6 _)) sS,trivial⟩,mq⟩
    have VH:Hid (aN w8 g [.bool xm,.slice xa xn xc,.slice xp xq xr] 54):=(tJ.out.below (af w6 _)).apart sS A8.out;have Yo:Hid ((dL f (p.take (k+1))).length=(dL f (p.take k)).length+1):=by rw[Hid,HQ.out];simp
    clear jg tJ HT6 hO mq sS HQ;clear hH;refine hK.out _ _ ⟨VH.out.c3.1,VH.out.c3.2.1⟩ fun hH=>?_;clear hK KK
    try simp only[ai]
    refine aB 10 hH ?_;try simp only[ai]
    refine wpAnyH_done (by kernel_rfl) ?_ _
    go_wp2_with fail;rw[<-Yo.out];go_roundw
    case rel=>exact⟨k+1,c8,o8,_,by go_num,rfl,by omega,tH.out⟩
    case measure=>simp[intOf];omega
  ·obtain rfl:n=k:=by omega
   have hfull:p.take n=p:=List.take_of_length_le (by rw[HP.out.len];exact Nat.le_refl _);have h:=HS.out;rw[hfull]at h ⊢;clear hfull;have HH:=hid h;clear h HS;go_wp2;go_ret;exact⟨_,_,_,rfl,⟨_,HH.out.1.rw,HH.out.2.1⟩,HH.out.2.2⟩
def Mg (v e:Int) (m:List (Int×Int)):List (Int×Int)×Int:=if av m v=e then(eF v m,1)else([],0)
theorem Tg (p:List Term) (v e:Int):dL (Mg v e) p=bZ p v e:=by
 unfold dL bZ
 have h1:∀t:Term,(!((Mg v e t.2).2==0))=(av t.2 v==e):=fun t=>by
  unfold Mg;by_cases h:av t.2 v=e<;>simp[h]
 rw[List.filter_congr (fun t _=>h1 t)];refine List.map_congr_left fun t ht=>?_
 have h2:av t.2 v=e:=by simpa using(List.mem_filter.1 ht).2
 unfold Mg;rw[if_pos h2];simp
theorem ae5 {v e:Int} (m:List (Int×Int)): -10000<=(Mg v e m).2/\ (Mg v e m).2<=10000:=by unfold Mg;split<;>simp
theorem IK [Ol] {x y:Nat} {v e0:Int} {mo:Option Addr} {mn mc:Nat} {m:List (Int×Int)} {w:World} (hx:iG w x (.int .i64 v) 3) (hy:iG w y (.int .i64 e0) 3) (hm:Ml w mo mn mc m) (h:aJ 0 m=true):
  Calls Tryz.prog 140 #[.slice mo mn mc,.pointer (some ⟨x,0,none⟩),.pointer (some ⟨y,0,none⟩)] w (pV w (Mg v e0 m).1 (Mg v e0 m).2):=by
 have HX:=Lib.hid hx;have HY:=Lib.hid hy;have HM:=Lib.hid hm;have HH:=Lib.hid h;obtain⟨z,hz⟩:∃z,av m v=z:=⟨_,rfl⟩;have HZ:Hid (jv m v=z):=by rw[Hid,iT h];exact hz
 have HR:Hid (Mg v e0 m=if z=e0 then(eF v m,1)else([],0)):=by rw[Hid,<-hz];rfl
 clear hx hy hm h hz;by_cases hze:z=e0
 ·have HR2:Hid (Mg v e0 m=(eF v m,1)):=by rw[Hid,HR.out,if_pos hze]
  rw[HR2.out];have hd:(z !=e0)=false:=by simpa using hze
  go_enter Tryz.func140,Tryz.ntmps140;go_upto_region 1 with(fail)
  refine wp_region_held_drew (S:=fun w'=>w'.cell? ⟨x,0,none⟩=some (.int .i64 v)/\ w'.cell? ⟨y,0,none⟩=some (.int .i64 e0)) (by kernel_rfl) ⟨(HX.out.below (Below.refl _ _).drew).cell,(HY.out.below (Below.refl _ _).drew).cell⟩ (fun hH=>?_);refine ak (fun w1 hW=>?_);have ig:Hid (Below w.heap.size w w1):=by rw[hW];exact(Below.refl _ _).drew
  rw[<-hW]at hH;clear hW;refine aB 0 hH ?_;try simp only[ai]
  refine aB 1 hH ?_;try simp only[ai]
  refine aB 3 hH ?_;try simp only[ai]
  refine aj 2 rfl (by kernel_rfl) (fun KK hK=>?_);go_simp;refine(o5 (HM.out.below ig.out) v z HZ.out).mono ?_;rintro e w2 ⟨rfl,hB⟩;have HS2:Hid (Below w.heap.size w w2):=Below.steps ig.out hB;clear hB ig;go_wp2_with fail;clear hH;refine hK.out _ _ ⟨(HX.out.below HS2.out).cell,(HY.out.below HS2.out).cell⟩ fun hH=>?_;clear hK KK
  try simp only[ai]
  refine aB 4 hH ?_;try simp only[ai]
  refine wpAnyH_done (by kernel_rfl) ?_ _
  have c0:=(HX.out.below HS2.out).cell;go_wp2_with fail;refine(Ey (HM.out.below HS2.out) v).mono ?_;rintro e w3 ⟨ro,rn,rc,rfl,hR,hB⟩;rw[rC HH.out]at hR;clear c0;go_wp2_with fail;go_ret2;exact⟨_,_,_,rfl,hR,Below.steps HS2.out hB⟩
 ·have HR2:Hid (Mg v e0 m=([],0)):=by rw[Hid,HR.out,if_neg hze]
  rw[HR2.out];have hd:(z !=e0)=true:=by simpa using hze
  go_enter Tryz.func140,Tryz.ntmps140;go_upto_region 1 with(fail)
  refine wp_region_held_drew (S:=fun w'=>w'.cell? ⟨x,0,none⟩=some (.int .i64 v)/\ w'.cell? ⟨y,0,none⟩=some (.int .i64 e0)) (by kernel_rfl) ⟨(HX.out.below (Below.refl _ _).drew).cell,(HY.out.below (Below.refl _ _).drew).cell⟩ (fun hH=>?_);refine ak (fun w1 hW=>?_);have ig:Hid (Below w.heap.size w w1):=by rw[hW];exact(Below.refl _ _).drew
  rw[<-hW]at hH;clear hW;refine aB 0 hH ?_;try simp only[ai]
  refine aB 1 hH ?_;try simp only[ai]
  refine aB 3 hH ?_;try simp only[ai]
  refine aj 2 rfl (by kernel_rfl) (fun KK hK=>?_);go_simp;refine(o5 (HM.out.below ig.out) v z HZ.out).mono ?_;rintro e w2 ⟨rfl,hB⟩;have HS2:Hid (Below w.heap.size w w2):=Below.steps ig.out hB;clear hB ig;go_wp2_with fail;clear hH;refine hK.out _ _ ⟨(HX.out.below HS2.out).cell,(HY.out.below HS2.out).cell⟩ fun hH=>?_;clear hK KK
  try simp only[ai]
  refine aB 4 hH ?_;try simp only[ai]
  refine wpAnyH_done (by kernel_rfl) ?_ _
  go_wp2_with fail;go_ret2;exact⟨_,_,_,rfl,Ml.zero w2,HS2.out⟩
theorem Bw (r:Bool) (v:Int) (w:World) (h:(decide (1<=v)&&decide (v<=200))=r):Calls Tryz.prog 114 #[.int .i64 v] w (bN (.bool r) w):=by
 by_cases h1:1<=v
 ·have hd:decide (1<=v)=true:=decide_eq_true h1;rw[hd,Bool.true_and]at h;go_enter Tryz.func114,Tryz.ntmps114;go_wp2;go_ret;exact⟨by first|rfl|exact dH h,Below.refl _ _⟩
 ·have hd:decide (1<=v)=false:=decide_eq_false h1;rw[hd,Bool.false_and]at h;subst h;go_enter Tryz.func114,Tryz.ntmps114;go_wp2;go_ret;exact⟨rfl,Below.refl _ _⟩
theorem Mh (w:World) (u v:Value) (S T:TypeId):iG ((w.alloc (.cells #[u] S)).alloc (.cells #[v] T)) w.heap.size u S/\ iG ((w.alloc (.cells #[u] S)).alloc (.cells #[v] T)) (w.heap.size+1) v T/\ Below w.heap.size w ((w.alloc (.cells #[u] S)).alloc (.cells #[v] T)):=by
 have h1:=iG.new w u S;have h2:=iG.new (w.alloc (.cells #[u] S)) v T;refine⟨h1.below (af _ _),by simpa using h2,?_⟩;exact Below.steps (af w _) (af _ _)
section
variable {K:Nat} {ao:Option Addr} {n cap:Nat} {p:List Term} {ps:List Raw} {w:World}
theorem Qv [Ol] (v e0:Int) (hp:Pc K w ao n cap p) (hf:dX p) (hn:n<=1000000) (hK:K<=100000):
  Calls Tryz.prog 115 #[.slice ao n cap,.int .i64 v,.int .i64 e0] w (qN (K+1) w (bZ p v e0)):=by
 have eg:∀args w,(callFunc 140 args).run Tryz.prog w= .ok (.enter 140 args) w:=enters_of Tryz.func140 (by kernel_rfl) rfl;have Vb:∀(fn:Fn) (first cap:Array Value) (w:World),(Instr.makeFunc fn first cap).run Tryz.prog w= .ok (.func fn first cap) w:=fun _ _ _ _=>rfl
 have hbx:=Mh w (.int .i64 v) (.int .i64 e0) 3 3;obtain⟨W,hW⟩:∃W,W=(w.alloc (.cells #[.int .i64 v] 3)).alloc (.cells #[.int .i64 e0] 3):=⟨_,rfl⟩;rw[<-hW]at hbx;have hC:=Qu eg (lb:= #[.pointer (some ⟨w.heap.size,0,none⟩),.pointer (some ⟨w.heap.size+1,0,none⟩)]) (Mg v e0) (hp.below hbx.2.2) hn hK (fun t _=>ae5 t.2) (fun t ht V hV mo mn mc hm=>IK (hbx.1.below hV) (hbx.2.1.below hV) hm (hf t ht));rw[Tg]at hC;have HC:=Lib.hid hC;have HB:=Lib.hid hbx.2.2;have HW:=Lib.hid hW;clear hC hbx hp hf hW eg;go_enter Tryz.func115,Tryz.ntmps115;go_wp2_with fail;rw[<-HW.out];refine HC.out.mono ?_;rintro e w2 ⟨ro,rn,rc,rfl,hR,hB⟩;go_wp2_with fail;go_ret;exact⟨_,_,_,rfl,hR.mono HB.out.size (Nat.le_refl _),Below.steps HB.out hB⟩
def JU (p:List Term) (v e:Int):List Term:=if 1<=v/\ v<=200 then bZ p v e else[]
theorem LQ [Ol] (v e0:Int) (hp:Pr w ao n cap ps) (hl:∀t∈ps,t.1.2.length<=K) (hn:n<=1000000) (hK:K<=1000):
  Calls Tryz.prog 81 #[.slice ao n cap,.int .i64 v,.int .i64 e0] w (qN (K+1) w (JU (ow ps) v e0)):=by
 have hfl:=FO hp.wfs;by_cases hv:1<=v/\ v<=200
 ·have HR:Hid (JU (ow ps) v e0=bZ (ow ps) v e0):=if_pos hv;rw[HR.out];go_enter Tryz.func81,Tryz.ntmps81;go_wp2_with fail;refine(Bw true v w (by rw[decide_eq_true hv.1,decide_eq_true hv.2];rfl)).mono ?_;rintro e w0 ⟨rfl,hB0⟩;go_wp2_with fail;refine(J9 (hp.below hB0) hl hK).mono ?_;rintro e w1 ⟨bo,m,cb,rfl,hX,hmn,hB⟩;go_wp2_with fail;refine(Qv v e0 hX (ah hfl) (by omega) (by omega)).mono ?_;rintro e w4 ⟨ro,rn,rc,rfl,hR,hB2⟩;go_wp2_with fail;go_ret;exact⟨_,_,_,rfl,hR.mono (Nat.le_trans hB0.size hB.size) (Nat.le_refl _),Below.steps (Below.steps hB0 hB) hB2⟩
 ·have HR:Hid (JU (ow ps) v e0=[]):=if_neg hv;rw[HR.out];go_enter Tryz.func81,Tryz.ntmps81;go_wp2_with fail;refine(Bw false v w (by rw[Bool.and_eq_false_iff,decide_eq_false_iff_not,decide_eq_false_iff_not];omega)).mono ?_;rintro e w0 ⟨rfl,hB0⟩;go_wp2_with fail;go_ret;exact⟨_,_,_,rfl,Pw.zero _ _ _,hB0⟩
end
end Go.Proofs.YthdhjckangekoaaGreat

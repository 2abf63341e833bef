/- VRefA -/
import Derived.Test.YtmenbpmciblnlaaGreatDoorGV
import Derived.Test.YtmenbpmciblnlaaGreatDoorGP8
set_option maxHeartbeats 0
set_option maxRecDepth 100000
namespace Go.Proofs.YtmenbpmciblnlaaGreatDoor
open Lib (hid)
open Go.RowKit
theorem Pz.at [Ol] {K:Nat} {w:World} {ao:Option Addr} {n cap:Nat} {p:List Term} (h:Pz K w ao n cap p) {k:Nat} (hk:k<n):
  ∃b off xm xa xn xc xp xq xr,ao=some ⟨b,off,none⟩/\ b<w.heap.size/\ yt w b (off+k*3) (.bool xm) (.slice xa xn xc) (.slice xp xq xr)/\ Zd w xm xa xn xc (p.getD k (0,[])).1/\ Bd (p.getD k (0,[])).1 K/\ Ml w xp xq xr (p.getD k (0,[])).2:=by
 have hl:=h.len;obtain⟨bS,hG,hT⟩:=h.ex;obtain⟨b,off,rfl,hb⟩:=hG.zu (by omega);obtain⟨xm,xa,xn,xc,xp,xq,xr,hv,h1,h2,h3⟩:=cB.get (0,[]) hT k (by omega);exact⟨b,off,xm,xa,xn,xc,xp,xq,xr,rfl,hb,hG.Lg hk hv,h1,h2,h3⟩
theorem yt.keep {w V:World} {b o:Nat} {u0 u1 u2:Value} (h:yt w b o u0 u1 u2) (hV:Below w.heap.size w V):yt V b o u0 u1 u2:=λW hW=>h W (Below.steps hV hW)
def yZ (p:List Term):Int:=p.foldl (λa t=>if fe t.2>a then fe t.2 else a) 0
theorem MG {p:List Term} (k:Nat) (hk:k<p.length):yZ (p.take (k+1))=if fe (p[k]).2>yZ (p.take k)then fe (p[k]).2 else yZ (p.take k):=by
 unfold yZ;rw[List.take_succ_eq_append_getElem hk,List.foldl_append];rfl
theorem WC (c:Int):∀(p:List Term) (a:Int),a<=c->(∀t∈p,fe t.2<=c)->(a=c∨ ∃t∈p,fe t.2=c)->p.foldl (λa t=>if fe t.2>a then fe t.2 else a) a=c
 |[],a,_,_,h=>by
  rcases h with h|⟨t,ht,_⟩
  ·exact h
  ·cases ht
 |s::r,a,h1,h2,h3=>by
  have hs:=h2 s (by simp);simp only[List.foldl_cons];refine WC c r _ (by split<;>omega) (λt ht=>h2 t (by simp[ht])) ?_;rcases h3 with h3|⟨t,ht,h3⟩
  ·left;split<;>omega
  ·rcases List.mem_cons.1 ht with rfl|ht
   ·left;split<;>omega
   ·exact .inr ⟨t,ht,h3⟩
theorem MH {p:List Term} (h:fall p):yZ p=bC p:=by
 unfold yZ;refine WC _ p 0 (nU h).1 (λt ht=>mr h ht) ?_;cases p with
 |nil=>exact .inl rfl
 |cons t r=>exact .inr ⟨t,by simp,rfl⟩
theorem F8 [Ol] (z:Int) {K:Nat} {ao:Option Addr} {n cap:Nat} {p:List Term} {w:World} (hp:Pz K w ao n cap p) (hf:fall p) (hz:bC p=z):
  Calls Tryz.prog 14 #[.slice ao n cap] w (cu (.int .i64 z) w):=by
 have hle:=hp.le;have hmb:n<=4398046511104:=by obtain⟨_,hG,_⟩:=hp.ex;exact hG.big
 have HX:=hid hp;have HF:=hid hf;have HZ:Hid (yZ p=z):=by rw[Hid,MH hf];exact hz
 clear hp hf hz;go_enter Tryz.func14,Tryz.ntmps14;go_wp2;go_loopw [3,4] (λs5 s6 wr=>∃(k:Nat) (y:Int),s5= .int .i64 y/\ s6= .int .i64 k/\ k<=n/\ Hid (yZ (p.take k)=y/\ Below w.heap.size w wr)) (λ_ s6 _=>n-(intOf s6).toNat)
 case atStart=>exact⟨0,0,rfl,rfl,Nat.zero_le _,rfl,Below.refl _ _⟩
 case round=>
  obtain⟨k,y,rfl,rfl,hk,HI⟩:=hrel;by_cases hkm:k<n
  ·have hkp:k<p.length:=by rw[HX.out.len];exact hkm
   obtain⟨b,off,xm,xa,xn,xc,xp,xq,xr,Cj,hbl,hc,Jz,hBd,zw⟩:=(HX.out.below HI.out.2).at (k:=k) hkm;subst Cj;obtain⟨c0,c1,c2⟩:=hc wr (Below.refl _ _);rw[sP _ hkp]at zw;obtain⟨d,hd⟩:∃d,fe (p[k]).2=d:=⟨_,rfl⟩;have hN:=MG k hkp;rw[HI.out.1,hd]at hN;have HT:Hid (Ml wr xp xq xr (p[k]).2/\ fe (orM (p[k]).2)=d):=⟨zw,by rw[qg (iF HF.out _ (List.getElem_mem hkp))];exact hd⟩;have HN:=hid hN;have HC:=hid hc;clear hc Jz hBd zw hbl hN hd;by_cases hg:d>y
   ·have hdd:decide (y<d)=true:=decide_eq_true hg;have ZH:Hid (yZ (p.take (k+1))=d):=by rw[Hid,HN.out,if_pos hg]
    go_wp2_with fail;refine(uL (show Ml _ xp xq xr (p[k]).2 from HT.out.1) d (by first|exact HT.out.2|exact HT2.out.2)).mono ?_;rintro e w2 ⟨rfl,hB⟩;have HI2:Hid (Below w.heap.size w w2):=Below.steps HI.out.2 hB;have HT2:Hid (Ml w2 xp xq xr (p[k]).2/\ fe (orM (p[k]).2)=d):=⟨HT.out.1.below hB,HT.out.2⟩;clear c0 c1 c2;obtain⟨c0,c1,c2⟩:=HC.out w2 hB;clear hB HI HT HN;go_wp2_with fail;refine(uL (show Ml _ xp xq xr (p[k]).2 from HT2.out.1) d (by first|exact HT.out.2|exact HT2.out.2)).mono ?_;rintro e w3 ⟨rfl,hB⟩;have HI3:Hid (yZ (p.take (k+1))=d/\ Below w.heap.size w w3):=⟨ZH.out,Below.steps HI2.out hB⟩;clear hB HI2 HT2 c0 c1 c2;go_wp2;go_roundw
    case rel=>exact⟨k+1,d,rfl,by go_num,by omega,HI3.out⟩
    case measure=>simp[intOf];omega
   ·have hdd:decide (y<d)=false:=decide_eq_false hg;have ZH:Hid (yZ (p.take (k+1))=y):=by rw[Hid,HN.out,if_neg hg]
    go_wp2_with fail;refine(uL (show Ml _ xp xq xr (p[k]).2 from HT.out.1) d (by first|exact HT.out.2|exact HT2.out.2)).mono ?_;rintro e w2 ⟨rfl,hB⟩;have HI3:Hid (yZ (p.take (k+1))=y/\ Below w.heap.size w w2):=⟨ZH.out,Below.steps HI.out.2 hB⟩;clear hB HI HT HN c0 c1 c2;go_wp2;go_roundw
    case rel=>exact⟨k+1,y,rfl,by go_num,by omega,HI3.out⟩
    case measure=>simp[intOf];omega
  ·obtain rfl:n=k:=by omega
   have h:=HI.out;rw[List.take_of_length_le (by rw[HX.out.len];exact Nat.le_refl _)]at h;obtain rfl:y=z:=by rw[<-h.1];exact HZ.out
   have HH:=hid h.2;clear h HI HX;go_wp2;go_ret;exact⟨rfl,HH.out⟩
end Go.Proofs.YtmenbpmciblnlaaGreatDoor

/-
  The reference's meter: May, refuse, Step, Piece, Limbs, Keep, Refuse.
-/
import Derived.Test.YthdhjckangekoaaGreatGMt
set_option maxHeartbeats 40000000
set_option maxRecDepth 100000
namespace Go.Proofs.YthdhjckangekoaaGreat
open Lib (hid)
open Go.RowKit
theorem Cells.rt {w:World} {b:Nat} {s:MS} (h:Cells w b (rc s)):
  (w.cell? ⟨b,0,none⟩=some (.int .i64 s.fu)/\ w.cell? ⟨b,1,none⟩=some (.int .i64 s.li)/\ w.cell? ⟨b,2,none⟩=some (.int .i64 s.te)/\ w.cell? ⟨b,3,none⟩=some (.int .i64 s.pi))/\
  w.cell? ⟨b,4,none⟩=some (.int .i64 s.st)/\ w.cell? ⟨b,5,none⟩=some (.int .i64 s.pc)/\ w.cell? ⟨b,6,none⟩=some (.int .i64 s.wh)/\ w.cell? ⟨b,7,none⟩=some (.int .i64 s.n):=
 ⟨⟨h.cell 0,h.cell 1,h.cell 2,h.cell 3⟩,h.cell 4,h.cell 5,h.cell 6,h.cell 7⟩
theorem qH {b:Nat} {s:MS} {e n:Int} {w:World} (h:Cells w b (rc s)):
  Calls Tryz.prog 97 #[.pointer (some ⟨b,0,none⟩),.int .i64 e,.int .i64 n] w (wK b (rc (s.refuse e n)) (.int .i64 e) w):=by
 have HC:=hid h;obtain⟨_,_,_,m6,m7⟩:=h.rt;have z6:=h.fz 6;have z7:=h.fz 7;clear h;by_cases h0:s.wh=0
 ·have hd:(s.wh==0)=true:=by simpa using h0
  have e2:rc (s.refuse e n)=((rc s).set 6 (.int .i64 e)).set 7 (.int .i64 n):=by
   unfold rc MS.refuse;simp[h0]
  have HE:=hid e2;clear e2 h0;go_enter Tryz.func97,Tryz.ntmps97;go_wp2_with fail;go_ret;rw[HE.out];exact⟨rfl,(HC.out.set 6 _).set 7 _,fQ (oF _ _ _ _) (oF _ _ _ _)⟩
 ·have hd:(s.wh==0)=false:=by simpa using h0
  have e2:s.refuse e n=s:=by unfold MS.refuse;rw[if_neg h0,if_neg h0]
  have HE:=hid e2;clear e2 h0;go_enter Tryz.func97,Tryz.ntmps97;go_wp2_with fail;go_ret;rw[HE.out];exact⟨rfl,HC.out,World.grownBy.refl _ _⟩
theorem La {b:Nat} {s:MS} {w:World} (h:Cells w b (rc s)) (hk:s.Ok):Calls Tryz.prog 59 #[.pointer (some ⟨b,0,none⟩)] w (wK b (rc s.step) (.int .i64 s.j6) w):=by
 have HC:=hid h;have cl:w.cell? ⟨b,0,none⟩=some (.int .i64 s.fu):=h.cell 0;have cc:w.cell? ⟨b,4,none⟩=some (.int .i64 s.st):=h.cell 4;have zc:=h.fz 4;have h0:=hk.f0;have h1:=hk.f1;have h2:=hk.s0;have h3:=hk.s1;have hw:IntKind.i64.wrap (s.fu+1)=s.fu+1:=IntWalk.i64_in _ ⟨by omega,by omega⟩;have hw2:IntKind.i64.wrap (s.st+1)=s.st+1:=IntWalk.i64_in _ ⟨by omega,by omega⟩;by_cases hc:s.fu<=s.st
 ·have HE:Hid (s.step=s.refuse 9 (s.fu+1)/\ s.j6=9):=⟨by unfold MS.step;rw[if_pos hc],by unfold MS.j6;rw[if_pos hc]⟩;have hd:(s.st==s.fu)=true:=by simp;omega
  clear h hk h0 h1 h2 h3 hw2 hc;go_enter Tryz.func59,Tryz.ntmps59;go_wp2_with fail;go_quiet (fail);go_wp2_with fail;refine(qH (w:=w.drewN _) (HC.out.keep rfl)).mono ?_;rintro e w2 ⟨rfl,hC,hG⟩;have HR:=hid (And.intro hC hG);clear hC hG cl cc zc;go_wp2_with fail;go_ret;rw[HE.out.1,HE.out.2];exact⟨rfl,HR.out.1,fQ (jf (some b) (_root_.Go.below_drewN (Below.refl _ _) _)) HR.out.2⟩
 ·have HE:Hid (rc s.step=(rc s).set 4 (.int .i64 (s.st+1))/\ s.j6=0):=⟨by unfold MS.step;rw[if_neg hc];rfl,by unfold MS.j6;rw[if_neg hc]⟩;have hd:(s.st==s.fu)=false:=by simp;omega
  clear h hk h0 h1 h2 h3 hw hc;go_enter Tryz.func59,Tryz.ntmps59;go_wp2_with fail;go_quiet (fail);go_wp2_with fail;go_ret;rw[HE.out.1,HE.out.2];exact⟨rfl,(HC.out.keep rfl).set 4 _,fQ (jf (some b) (_root_.Go.below_drewN (Below.refl _ _) _)) (oF _ _ _ _)⟩
theorem DW (r:Bool) {fu li te pi:Int} {w:World} (h:DI fu li te pi=r):Calls Tryz.prog 22 #[.agg #[.int .i64 fu,.int .i64 li,.int .i64 te,.int .i64 pi]] w (bN (.bool r) w):=by
 obtain⟨a0,ha0⟩:∃r,decide (0<=fu)=r:=⟨_,rfl⟩;obtain⟨a1,ha1⟩:∃r,decide (fu<=1000000)=r:=⟨_,rfl⟩;obtain⟨b0,hb0⟩:∃r,decide (0<=li)=r:=⟨_,rfl⟩;obtain⟨b1,hb1⟩:∃r,decide (li<=10000)=r:=⟨_,rfl⟩;obtain⟨c0,hc0⟩:∃r,decide (0<=te)=r:=⟨_,rfl⟩;obtain⟨c1,hc1⟩:∃r,decide (te<=100000)=r:=⟨_,rfl⟩;obtain⟨d0,hd0⟩:∃r,decide (0<=pi)=r:=⟨_,rfl⟩;obtain⟨d1,hd1⟩:∃r,decide (pi<=1000)=r:=⟨_,rfl⟩;unfold DI at h;rw[ha0,ha1,hb0,hb1,hc0,hc1,hd0,hd1]at h;have HR:=hid h;have HB:=hid (af w (.cells #[.int .i64 fu,.int .i64 li,.int .i64 te,.int .i64 pi] 25));clear h;cases a0 with
 |false=>
  go_enter Tryz.func22,Tryz.ntmps22;go_wp2_with fail;go_ret;exact⟨by rw[<-HR.out];first|rfl|simp,HB.out⟩
 |true=>
  cases a1 with
  |false=>
   go_enter Tryz.func22,Tryz.ntmps22;go_wp2_with fail;go_ret;exact⟨by rw[<-HR.out];first|rfl|simp,HB.out⟩
  |true=>
   cases b0 with
   |false=>
    go_enter Tryz.func22,Tryz.ntmps22;go_wp2_with fail;go_ret;exact⟨by rw[<-HR.out];first|rfl|simp,HB.out⟩
   |true=>
    cases b1 with
    |false=>
     go_enter Tryz.func22,Tryz.ntmps22;go_wp2_with fail;go_ret;exact⟨by rw[<-HR.out];first|rfl|simp,HB.out⟩
    |true=>
     cases c0 with
     |false=>
      go_enter Tryz.func22,Tryz.ntmps22;go_wp2_with fail;go_ret;exact⟨by rw[<-HR.out];first|rfl|simp,HB.out⟩
     |true=>
      cases c1 with
      |false=>
       go_enter Tryz.func22,Tryz.ntmps22;go_wp2_with fail;go_ret;exact⟨by rw[<-HR.out];first|rfl|simp,HB.out⟩
      |true=>
       cases d0 with
       |false=>
        go_enter Tryz.func22,Tryz.ntmps22;go_wp2_with fail;go_ret;exact⟨by rw[<-HR.out];first|rfl|simp,HB.out⟩
       |true=>
        cases d1 with
        |false=>
         go_enter Tryz.func22,Tryz.ntmps22;go_wp2_with fail;go_ret;exact⟨by rw[<-HR.out];first|rfl|simp,HB.out⟩
        |true=>
         go_enter Tryz.func22,Tryz.ntmps22;go_wp2_with fail;go_ret;exact⟨by rw[<-HR.out];first|rfl|simp,HB.out⟩
theorem R4 (xs:List Nat) (k:Nat) (h:k<xs.length):nl (xs.take (k+1))=if xs.getD k 0=0 then nl (xs.take k)else k+1:=by
 split
 ·rename_i h0;exact jy xs k h h0
 ·rename_i h0;exact mh xs k h h0
theorem Ie [Ol] {ao:Option Addr} {n cap:Nat} {ps:List (List Nat)} {w:World} (h:Lp w ao n cap ps):Calls Tryz.prog 100 #[.slice ao n cap] w fun e w'=>e= .returned (.int .i64 (fB ps:Nat))/\ w=w':=by
 have HP:=hid h;have HL:=hid h.len;have hbig:=h.big;clear h;go_enter Tryz.func100,Tryz.ntmps100;go_wp2;go_loop [3,4] (fun m i=>∃k:Nat,m= .int .i64 (fB (ps.take k):Nat)/\ i= .int .i64 k/\ k<=n) (fun _ i=>n-(intOf i).toNat)
 case atStart=>exact⟨0,by simp[fB],rfl,Nat.zero_le _⟩
 case round=>
  obtain⟨k,rfl,rfl,hk⟩:=hrel;by_cases hkn:k<n
  ·obtain⟨b,off,m,bo,l,c,co,e,cc,rfl,_,hs,hcl⟩:=HP.out.at hkn;obtain⟨a0,a1,a2⟩:=hcl w (Below.refl _ _);obtain⟨xs,hx⟩:∃xs,xs=ps.getD k []:=⟨_,rfl⟩;obtain⟨y,hy⟩:∃y,y=fB (ps.take k):=⟨_,rfl⟩;rw[<-hx]at hs;rw[<-hy];have HX:Hid (fB (ps.take (k+1))=max y (nl xs)):=by rw[Hid,hx,hy];exact xL ps k (by rw[HL.out];exact hkn)
   have hki:(k:Int)<(n:Int):=by omega
   have hsl:=hs.len;have hsb:=hs.big;have HXL:=hid hsl;have HS:=hid hs;clear hcl hx hy hs hsl;go_wp2;go_loop [3,5] (fun m i=>∃j:Nat,m= .int .i64 (max y (nl (xs.take j)):Nat)/\ i= .int .i64 j/\ j<=l) (fun _ i=>l-(intOf i).toNat)
   case atStart=>exact⟨0,by simp[nl,bE],rfl,Nat.zero_le _⟩
   case round=>
    obtain⟨j,rfl,rfl,hj⟩:=hrel;by_cases hjl:j<l
    ·obtain⟨sb,so,rfl,_,hsc⟩:=HS.out.at (by omega);have s0:=hsc j hjl;obtain⟨x,hxx⟩:∃x,x=xs.getD j 0:=⟨_,rfl⟩;obtain⟨z,hz⟩:∃z,z=nl (xs.take j):=⟨_,rfl⟩;rw[<-hxx]at s0;rw[<-hz];have hn:=R4 xs j (by rw[HXL.out];exact hjl);rw[<-hxx,<-hz]at hn
     have hzj:z<=j:=by
      rw[hz];have h1:=congrArg List.length (bW (xs.take j));rw[List.length_take,List.length_take]at h1;unfold nl at h1 ⊢;omega
     have hji:(j:Int)<(l:Int):=by omega
     have hwj:IntKind.i64.wrap ((j:Int)+1)=(j:Int)+1:=IntWalk.i64_in _ ⟨by omega,by omega⟩;clear hsc hxx hz;by_cases hx0:x=0
     ·subst hx0;rw[if_pos rfl]at hn;have HN:=hid hn;clear hn;go_wp2_with fail;go_round
      case rel=>exact⟨j+1,by rw[HN.out],by go_num,by omega⟩
      case measure=>simp[intOf];omega
     ·rw[if_neg hx0]at hn;have HN:=hid hn;clear hn;have hb0:(((x:Nat):Int) !=0)=true:=by simp;omega
      by_cases hm:((max y z:Nat):Int)<(j:Int)+1
      ·have hd:decide (((max y z:Nat):Int)<(j:Int)+1)=true:=decide_eq_true hm;go_wp2_with fail;go_round
       case rel=>exact⟨j+1,by rw[HN.out];exact congrArg (Value.int .i64) (by omega),by go_num,by omega⟩
       case measure=>simp[intOf];omega
      ·have hd:decide (((max y z:Nat):Int)<(j:Int)+1)=false:=decide_eq_false hm;go_wp2_with fail;go_round
       case rel=>exact⟨j+1,by rw[HN.out];exact congrArg (Value.int .i64) (by omega),by go_num,by omega⟩
       case measure=>simp[intOf];omega
    ·obtain rfl:j=l:=by omega
     have HE:Hid (xs.take j=xs):=List.take_of_length_le (by rw[HXL.out];exact Nat.le_refl _);go_wp2_with fail;go_round
     case rel=>exact⟨k+1,by rw[HX.out,HE.out],by go_num,by omega⟩
     case measure=>simp[intOf];omega
  ·obtain rfl:k=n:=by omega
   have HE:Hid (fB (ps.take k)=fB ps):=by rw[Hid,List.take_of_length_le (by rw[HL.out];exact Nat.le_refl _)]
   go_wp2_with fail;go_ret;rw[HE.out];exact⟨rfl,rfl⟩
theorem Lb [Ol] {b:Nat} {s:MS} {ao:Option Addr} {n cap:Nat} {ps:List (List Nat)} {w:World} (h:Cells w b (rc s)) (hp:Lp w ao n cap ps):
  Calls Tryz.prog 63 #[.pointer (some ⟨b,0,none⟩),.slice ao n cap] w (wK b (rc (s.keep ps)) (.int .i64 (s.je ps)) w):=by
 have HC:=hid h;have HP:=hid hp;have hlt:=h.lt;obtain⟨x,hx⟩:∃x,x=fB ps:=⟨_,rfl⟩;have HX:=hid hx;have HL:=hid hp.len;have HM:Hid (∀V,Lp V ao n cap ps->Calls Tryz.prog 100 #[.slice ao n cap] V fun e V'=>e= .returned (.int .i64 (x:Nat))/\ V=V'):=fun V h=>by rw[hx];exact Ie h
 clear h hp hx;go_enter Tryz.func63,Tryz.ntmps63;go_upto_region 1 with(fail)
 refine wp_region_held_drew (S:=fun w'=>w'.cell? ⟨b,1,none⟩=some (.int .i64 s.li)) (by kernel_rfl) (HC.out.cell 1) (fun hH=>?_);refine ak (fun w1 hW=>?_);have wR:Hid (Cells w1 b (rc s)/\ w.grownBy w1 (some b)/\ Lp w1 ao n cap ps):=by rw[hW];exact⟨HC.out.keep rfl,BN (World.grownBy.refl _ _),HP.out.below ((Below.refl _ _).drew)⟩
 rw[<-hW]at hH;clear hW HC HP;refine aB 0 hH ?_
 try simp only[ai]
 refine aB 2 hH ?_
 try simp only[ai]
 refine aB 3 hH ?_
 try simp only[ai]
 refine aB 4 hH ?_
 try simp only[ai]
 refine aB 5 hH ?_
 try simp only[ai]
 refine aB 6 hH ?_
 try simp only[ai]
 refine aj 1 rfl (by kernel_rfl) (fun KK hK=>?_);go_simp;refine(HM.out _ wR.out.2.2).mono ?_;rintro e w2 ⟨rfl,rfl⟩;go_wp2_with fail;clear hH;refine hK.out _ _ (wR.out.1.cell 1) fun hH=>?_;clear hK KK
 try simp only[ai]
 refine aB 7 hH ?_
 try simp only[ai]
 refine wpAnyH_done (by kernel_rfl) ?_ _
 clear hH;have m2:w1.cell? ⟨b,2,none⟩=some (.int .i64 s.te):=wR.out.1.cell 2;by_cases hc:s.li<(x:Int)
 ·have HE:Hid (s.keep ps=s.refuse 10 (x:Int)/\ s.je ps=10):=by
   rw[HX.out]at hc ⊢;exact⟨by unfold MS.keep;rw[if_pos hc],by unfold MS.je;rw[if_pos hc]⟩
  go_wp2_with fail;refine(HM.out _ wR.out.2.2).mono ?_;rintro e w2 ⟨rfl,rfl⟩;go_wp2_with fail;refine(qH wR.out.1).mono ?_;rintro e w3 ⟨rfl,hC,hG⟩;have HR:=hid (And.intro hC (fQ wR.out.2.1 hG));clear hC hG wR m2;go_wp2_with fail;go_ret;rw[HE.out.1,HE.out.2];exact⟨rfl,HR.out⟩
 ·have hc':Hid (¬s.li<(fB ps:Nat)):=by rw[<-HX.out];exact hc
  by_cases hd:s.te<(n:Int)
  ·have HE:Hid (s.keep ps=s.refuse 11 (n:Int)/\ s.je ps=11):=by
    have e:=HL.out;exact⟨by unfold MS.keep;rw[if_neg hc'.out,e,if_pos hd],by unfold MS.je;rw[if_neg hc'.out,e,if_pos hd]⟩
   go_wp2_with fail;refine(qH wR.out.1).mono ?_;rintro e w3 ⟨rfl,hC,hG⟩;have HR:=hid (And.intro hC (fQ wR.out.2.1 hG));clear hC hG wR m2;go_wp2_with fail;go_ret;rw[HE.out.1,HE.out.2];exact⟨rfl,HR.out⟩
  ·have HE:Hid (s.keep ps=s/\ s.je ps=0):=by
    have e:=HL.out;exact⟨by unfold MS.keep;rw[if_neg hc'.out,e,if_neg hd],by unfold MS.je;rw[if_neg hc'.out,e,if_neg hd]⟩
   go_wp2_with fail;go_ret;rw[HE.out.1,HE.out.2];exact⟨rfl,wR.out.1,wR.out.2.1⟩
end Go.Proofs.YthdhjckangekoaaGreat

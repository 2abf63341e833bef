/-
  The law ValueOne: what a text says has just that text; with a sign, a blank, a nought ahead it is none.
-/
import Derived.Test.YtmenbpmciblnlaaGreatDoorVaKn
set_option maxHeartbeats 40000000
set_option maxRecDepth 100000
namespace Go.Proofs.YtmenbpmciblnlaaGreatDoor
open Lib (hid)
open Go.RowKit
theorem F9 (s:ByteArray):(⟨s.data.toList.toArray⟩:ByteArray)=s:=by simp
theorem BZ [Ol] (s:ByteArray) {w:World} (he:Env w):Calls Tryz.prog 7 #[.string s] w (dI (.bool true) w):=by
 have HE:Hid (∀V,Below w.heap.size w V->Env V):=fun V hV=>he.below hV
 have E0:=HE.out w (Below.refl _ _);clear he;by_cases hl:400<s.size
 ·have VK:(400:Int)<(s.size:Int):=by omega
  go_enter Tryz.func7,Tryz.ntmps7;go_wp2_with fail;refine(pU E0).mono ?_;rintro e w1 ⟨rfl,hB⟩;go_wp2_with fail;go_ret;exact⟨rfl,hB⟩
 have VK:¬(400:Int)<(s.size:Int):=by omega
 obtain⟨o,ho⟩:∃o,o=parsed s.data.toList:=⟨_,rfl⟩;cases o with
 |none=>
  go_enter Tryz.func7,Tryz.ntmps7;go_wp2_with fail;refine(jD (by omega) E0.2.1 E0.2.2 ho).mono ?_;rintro e w1 ⟨rfl,hB⟩;have E1:=HE.out w1 hB;have HB:=hid hB;clear hB ho;go_wp2_with fail;refine(pU E1).mono ?_;rintro e w2 ⟨rfl,hB⟩;go_wp2_with fail;go_ret;exact⟨rfl,Below.steps HB.out hB⟩
 |some p=>
  obtain⟨hf,htx⟩:=jF ho.symm;have hts:(⟨(jo p).toArray⟩:ByteArray)=s:=by rw[<-htx]
  have hll:s.data.toList.length=s.size:=(Lib.size_eq s).symm;obtain⟨x1,hx1⟩:∃x:ByteArray,x=⟨([43]++s.data.toList).toArray⟩:=⟨_,rfl⟩;obtain⟨x2,hx2⟩:∃x:ByteArray,x=⟨(s.data.toList++[32]).toArray⟩:=⟨_,rfl⟩;obtain⟨x3,hx3⟩:∃x:ByteArray,x=⟨([48]++s.data.toList).toArray⟩:=⟨_,rfl⟩
  have Mk:∀W:World,(Op.stringOp .add ⟨#[43]⟩ s).run Tryz.prog W= .ok (.string x1) W:=fun W=>by
   have h:=kQ (P:=Tryz.prog) W [43] s.data.toList (by simp only[List.length_cons,List.length_nil];omega);rw[F9]at h;rw[hx1];exact h
  have SH:∀W:World,(Op.stringOp .add s ⟨#[32]⟩).run Tryz.prog W= .ok (.string x2) W:=fun W=>by
   have h:=kQ (P:=Tryz.prog) W s.data.toList [32] (by simp only[List.length_cons,List.length_nil];omega);rw[F9]at h;rw[hx2];exact h
  have SI:∀W:World,(Op.stringOp .add ⟨#[48]⟩ s).run Tryz.prog W= .ok (.string x3) W:=fun W=>by
   have h:=kQ (P:=Tryz.prog) W [48] s.data.toList (by simp only[List.length_cons,List.length_nil];omega);rw[F9]at h;rw[hx3];exact h
  have H1:Hid (x1.size<=9000/\ none=parsed x1.data.toList):=by rw[hx1];exact⟨by rw[Lib.size_eq];show([43]++s.data.toList).length<=9000;rw[List.length_append,hll];simp only[List.length_cons,List.length_nil];omega,(Qi _).symm⟩
  have H2:Hid (x2.size<=9000/\ none=parsed x2.data.toList):=by rw[hx2];exact⟨by rw[Lib.size_eq];show(s.data.toList++[32]).length<=9000;rw[List.length_append,hll];simp only[List.length_cons,List.length_nil];omega,(Mq _).symm⟩
  have H3:Hid (x3.size<=9000/\ none=parsed x3.data.toList):=by rw[hx3];exact⟨by rw[Lib.size_eq];show([48]++s.data.toList).length<=9000;rw[List.length_append,hll];simp only[List.length_cons,List.length_nil];omega,(JC ho.symm).symm⟩
  have HF:=hid hf;have SK:=hid hts;have HO:=hid ho;clear hx1 hx2 hx3 hf hts htx hll ho;go_enter Tryz.func7,Tryz.ntmps7;go_wp2_with fail;refine(jD (by omega) E0.2.1 E0.2.2 HO.out).mono ?_;rintro e w1 ⟨po,pn,pc,rfl,hP,hB⟩;have E1:=HE.out w1 hB;have HB1:=hid hB;have P1:=hid hP;clear hB hP E0;go_wp2_with fail;refine(jD H1.out.1 E1.2.1 E1.2.2 H1.out.2).mono ?_;rintro e w2 ⟨rfl,hB⟩;have HB2:=hid (Below.steps HB1.out hB);have P2:=hid (P1.out.below hB);have E2:=HE.out w2 HB2.out;clear hB HB1 P1 E1;go_wp2_with fail;refine(jD H2.out.1 E2.2.1 E2.2.2 H2.out.2).mono ?_;rintro e w3 ⟨rfl,hB⟩;have HB3:=hid (Below.steps HB2.out hB);have P3:=hid (P2.out.below hB);have E3:=HE.out w3 HB3.out;clear hB HB2 P2 E2;go_wp2_with fail;refine(jD H3.out.1 E3.2.1 E3.2.2 H3.out.2).mono ?_;rintro e w4 ⟨rfl,hB⟩;have oJ:=hid (Below.steps HB3.out hB);have P4:=hid (P3.out.below hB);have E4:=HE.out w4 oJ.out;clear hB HB3 P3 E3 Mk SH SI;go_wp2_with fail;have hpn:p.length=pn:=P4.out.len;have hpl:p.length<=(jo p).length+1:=Qj p;have hpt:(jo p).length=s.size:=by rw[<-SK.out,Lib.size_eq]
  have ht:=vE P4.out HF.out E4.1 (by omega) (by omega);rw[SK.out]at ht;clear hpn hpl hpt;refine ht.mono ?_;rintro e w5 ⟨rfl,hB⟩;have pJ:=hid (Below.steps oJ.out hB);have P5:=hid (P4.out.below hB);have E5:=HE.out w5 pJ.out;clear hB oJ P4 E4 ht;go_wp2_with fail;refine(xZ P5.out HF.out (by omega)).mono ?_;rintro e w6 ⟨rfl,hB⟩;have x9:=hid (Below.steps pJ.out hB);have E6:=HE.out w6 x9.out;clear hB pJ P5 E5;go_wp2_with fail;refine(pU E6).mono ?_;rintro e w7 ⟨rfl,hB⟩;have Dx:=hid (Below.steps x9.out hB);clear hB x9 E6;go_wp2_with fail;go_ret;exact⟨rfl,Dx.out⟩
end Go.Proofs.YtmenbpmciblnlaaGreatDoor

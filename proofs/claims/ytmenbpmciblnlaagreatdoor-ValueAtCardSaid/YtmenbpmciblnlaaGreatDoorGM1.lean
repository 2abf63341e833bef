/- Ml, MMay, MSame, MEn, MRow, MExps, MOf, MRTimes -/
import Derived.Test.YtmenbpmciblnlaaGreatDoorMPlain
import Derived.Laws.AppendOwnNone
import Derived.BigQuiet
import Derived.Test.YtmenbpmciblnlaaGreatDoorGSt
import Derived.Deep.WholeRow
import Derived.Deep.CutRange
set_option maxHeartbeats 0
set_option maxRecDepth 100000
open Go renaming below_drewN->a0a
open Go.Addr renaming add->a0b,add_lit->a0c
open Go.RowKit.Below renaming refl->a0d
open Go.Value renaming slice->a0e
open Go.Value.slice renaming injEq->a0f
open Go.World renaming block_lt_of_cell?->a0g,cell?_of_block->a0h
open List renaming drop_eq_getElem_cons->a0n,drop_eq_nil_of_le->a0m,eq_nil_of_length_eq_zero->a0i,getD->a0j,getElem?_eq_getElem->a0k,getElem?_eq_none->a0o,mem_cons->a0l
open Nat renaming add_assoc->a0p,le_refl->a0q,zero_add->a0r,zero_le->a0s
namespace Go.Proofs.YtmenbpmciblnlaaGreatDoor
open Go.RowKit
def gQ (z:Int):Prop:= -9223372036854775808<=z/\ z<=9223372036854775807
structure Ml [Ol] (w:World) (ao:Option Addr) (n cap:Nat) (ps:List (Int×Int)):Prop where
 len:ps.length=n
 le:n<=cap
 big:n<=8796093022208
 wf:∀p∈ps,gQ p.1/\ gQ p.2
 nil:ao=none->cap=0
 cells:∀ad,ao=some ad->∀t,t<n->w.cell? (ad.add (t*2))=some (.int .i64 (ps.getD t (0,0)).1)/\ w.cell? (ad.add (t*2+1))=some (.int .i64 (ps.getD t (0,0)).2)
 kp:0<n->∀ad,ao=some ad->Kp w ad.block
theorem Ml.at [Ol] {w:World} {ao:Option Addr} {n cap:Nat} {ps:List (Int×Int)} (h:Ml w ao n cap ps) (hn:0<n):
  ∃b off,ao=some ⟨b,off,none⟩/\ b<w.heap.size/\∀t,t<n->w.cell? ⟨b,off+t*2,none⟩=some (.int .i64 (ps.getD t (0,0)).1)/\ w.cell? ⟨b,off+t*2+1,none⟩=some (.int .i64 (ps.getD t (0,0)).2):=by
 cases hao:ao with
 |none=>have:=h.nil hao;have:=h.le;omega
 |some ad=>
  obtain⟨b,off,s⟩:=ad;have h0:=(h.cells _ hao 0 hn).1;have hs:s=none:=by simpa[a0b]using World.cell?_spot h0
  subst hs;refine⟨b,off,rfl,?_,λt ht=>?_⟩
  ·simpa[a0b]using a0g w _ h0
  ·have:=h.cells _ hao t ht;rw[a0c,a0c,<-a0p]at this;exact this
theorem Ml.of_cells [Ol] {w:World} {b off n cap:Nat} {ps:List (Int×Int)} (h1:ps.length=n) (h2:n<=cap) (h3:n<=8796093022208) (h4:∀p∈ps,gQ p.1/\ gQ p.2) (h5:0<n->Kp w b)
  (hc:∀t,t<n->w.cell? ⟨b,off+t*2,none⟩=some (.int .i64 (ps.getD t (0,0)).1)/\ w.cell? ⟨b,off+t*2+1,none⟩=some (.int .i64 (ps.getD t (0,0)).2)):Ml w (some ⟨b,off,none⟩) n cap ps:=
 ⟨h1,h2,h3,h4,(λh=>by cases h),λad had t ht=>by cases had;rw[a0c,a0c,<-a0p];exact hc t ht,λh0 ad had=>by cases had;exact h5 h0⟩
theorem Ml.blt [Ol] {w:World} {ao:Option Addr} {n cap:Nat} {ps:List (Int×Int)} (h:Ml w ao n cap ps) (h0:0<n) {ad:Addr} (had:ao=some ad):ad.block<w.heap.size:=by
 obtain⟨b,off,e,hb,_⟩:=h.at h0;rw[e]at had;cases had;exact hb
theorem Ml.int [Ol] {w:World} {ao:Option Addr} {n cap:Nat} {ps:List (Int×Int)} (h:Ml w ao n cap ps) (h0:0<n) {ad:Addr} (had:ao=some ad):∃x,w.cell? ad=some (.int .i64 x):=by
 obtain⟨b,off,e,hb,hc⟩:=h.at h0;rw[e]at had;cases had;exact⟨_,(hc 0 h0).1⟩
theorem Ml.zero [Ol] (w:World):Ml w none 0 0 []:=
 ⟨rfl,a0q _,by omega,(λ_ h=>by cases h),(λ_=>rfl),(λ_ h=>by cases h),λ_ _ h=>by cases h⟩
theorem Ml.below [Ol] {w w':World} {ao:Option Addr} {n cap:Nat} {ps:List (Int×Int)} (h:Ml w ao n cap ps) (hb:Below w.heap.size w w'):Ml w' ao n cap ps:=
 ⟨h.len,h.le,h.big,h.wf,h.nil,λad had t ht=>by
  have h0:=h.cells ad had t ht;rw[hb.cell (a0g w _ h0.1),hb.cell (a0g w _ h0.2)];exact h0,λh0 ad had=>(h.kp h0 ad had).keep (hb.block _ (h.blt h0 had))⟩
theorem Ml.empty [Ol] {w:World} {ao:Option Addr} {n cap:Nat} {ps:List (Int×Int)} (h:Ml w ao n cap ps) (hn:n=0):ps=[]:=a0i (by rw[h.len,hn])
theorem Ml.Tp {ps:List (Int×Int)} {t:Nat} (h:t<ps.length):ps.getD t (0,0)∈ps:=by
 simp only[a0j,a0k h,Option.getD_some];exact List.getElem_mem h
theorem VA [Ol] {w:World} {b off n cap:Nat} {p:Int×Int} {r:List (Int×Int)} (h:Ml w (some ⟨b,off,none⟩) (n+1) cap (p::r)):Ml w (some ⟨b,off+2,none⟩) n (cap-1) r:=by
 have hle:=h.le;have hlen:=h.len;have hbig:=h.big;simp at hlen;refine Ml.of_cells hlen (by omega) (by omega) (λq hq=>h.wf q (by simp[hq])) (λ_=>h.kp (by omega) _ rfl) λt ht=>?_
 have:=h.cells _ rfl (t+1) (by omega);rw[a0c,a0c]at this;rw[show off+2+t*2=off+(t+1)*2 by omega,show off+(t+1)*2+1=off+((t+1)*2+1)by omega];simpa using this
theorem Sb [Ol] {w:World} {ao:Option Addr} {n cap:Nat} {p:Int×Int} {r:List (Int×Int)} (h:Ml w ao (n+1) cap (p::r)) (hc:cap=1):Ml w ao 0 0 r/\ n=0:=by
 have hle:=h.le;have hlen:=h.len;simp at hlen;have hn:n=0:=by omega
 have hr:r=[]:=a0i (by omega);subst hr;exact⟨⟨rfl,a0q _,by omega,(λ_ h=>by cases h),(λ_=>rfl),(λ_ _ t ht=>by omega),λh0=>by omega⟩,hn⟩
def fq:List (Int×Int)->List Value
 |[]=>[]
 |p::r=> .int .i64 p.1:: .int .i64 p.2::fq r
theorem lI:∀ps:List (Int×Int),(fq ps).length=ps.length*2
 |[]=>rfl
 |p::r=>by simp[fq,lI r];omega
theorem oG:∀xs ys:List (Int×Int),fq (xs++ys)=fq xs++fq ys
 |[],_=>rfl
 |p::r,ys=>by simp[fq,oG r ys]
theorem uN:∀(ps:List (Int×Int)) (t:Nat),t<ps.length->(fq ps)[t*2]? =some (.int .i64 (ps.getD t (0,0)).1)/\ (fq ps)[t*2+1]? =some (.int .i64 (ps.getD t (0,0)).2)
 |[],_,h=>by simp at h
 |p::r,0,_=>by simp[fq]
 |p::r,t+1,h=>by
  have ih:=uN r t (by simpa using h);rw[show(t+1)*2=t*2+1+1 by omega];simpa[fq]using ih
theorem qm:∀(ps:List (Int×Int)),∀v∈fq ps,v.oneCell'=true
 |[],_,h=>by cases h
 |p::r,v,h=>by
  simp only[fq,a0l]at h;rcases h with rfl|rfl|h
  ·rfl
  ·rfl
  ·exact qm r v h
structure Mo (B:Nat) (w:World) (ao:Option Addr) (n cap:Nat) (ps:List (Int×Int)):Prop where
 row:w.ownsRow B 72 2 (a0e ao n cap) n (fq ps)
 big:n<=8796093022208
 wf:∀p∈ps,gQ p.1/\ gQ p.2
theorem Mo.nil (B:Nat) (w:World):Mo B w none 0 0 []:=
 ⟨World.ownsRow_nil _ _ _ _,by omega,λ_ h=>by cases h⟩
theorem Mo.len {B:Nat} {w:World} {ao:Option Addr} {n cap:Nat} {ps:List (Int×Int)} (h:Mo B w ao n cap ps):ps.length=n:=by
 have:=h.row.1;rw[lI]at this;omega
theorem Mo.parts {B:Nat} {w:World} {ao:Option Addr} {n cap:Nat} {ps:List (Int×Int)} (h:Mo B w ao n cap ps):
  (ao=none/\ n=0/\ cap=0/\ ps=[])∨ ∃g cur,ao=some ⟨g,0,none⟩/\ B<=g/\ g<w.heap.size/\ n<=cap/\ w.heap[g]? =some (.cells cur 72 (0,0)):=by
 rcases h.row.2 with⟨hv,h0⟩|⟨g,cap',cur,hv,hg,hh,hn,_⟩
 ·simp only[a0f]at hv;exact .inl ⟨hv.1,hv.2.1,hv.2.2,a0i (by rw[h.len,h0])⟩
 ·simp only[a0f,true_and]at hv;obtain⟨rfl,rfl⟩:=hv;exact .inr ⟨g,cur,rfl,hg,lt_of_block hh,hn,hh⟩
theorem Mo.ml [Ol] {B:Nat} {w:World} {ao:Option Addr} {n cap:Nat} {ps:List (Int×Int)} (h:Mo B w ao n cap ps):Ml w ao n cap ps:=by
 rcases h.parts with⟨rfl,rfl,rfl,rfl⟩|⟨g,cur,rfl,hg,hlt,hn,hcur⟩
 ·exact Ml.zero w
 ·refine Ml.of_cells h.len hn h.big h.wf (λ_=>Kp.mk hcur (by decide)) λt ht=>?_
  have h2:=uN ps t (by rw[h.len];exact ht);rw[a0r,h.row.cellAt (t*2) (by omega),h.row.cellAt (t*2+1) (by omega)];exact h2
theorem Mo.below {B:Nat} {w w':World} {ao:Option Addr} {n cap:Nat} {ps:List (Int×Int)} (h:Mo B w ao n cap ps) (hb:Below w.heap.size w w'):Mo B w' ao n cap ps:=by
 refine⟨⟨h.row.1,?_⟩,h.big,h.wf⟩;rcases h.row.2 with h2|⟨g,cap',cur,hv,hg,hh,r⟩
 ·exact .inl h2
 ·exact .inr ⟨g,cap',cur,hv,hg,by rw[hb.block g (lt_of_block hh)];exact hh,r⟩
theorem Mo.keep {B:Nat} {w w':World} {ao:Option Addr} {n cap:Nat} {ps:List (Int×Int)} (h:Mo B w ao n cap ps) (hb:∀a,ao=some a->w'.heap[a.block]? =w.heap[a.block]?):Mo B w' ao n cap ps:=by
 refine⟨⟨h.row.1,?_⟩,h.big,h.wf⟩;rcases h.row.2 with h2|⟨g,cap',cur,hv,hg,hh,r⟩
 ·exact .inl h2
 ·simp only[a0f,true_and]at hv;obtain⟨rfl,rfl⟩:=hv;exact .inr ⟨g,cap,cur,rfl,hg,by rw[hb _ rfl];exact hh,r⟩
theorem Mo.mono {B B':Nat} {w:World} {ao:Option Addr} {n cap:Nat} {ps:List (Int×Int)} (h:Mo B w ao n cap ps) (hB:B'<=B):Mo B' w ao n cap ps:=by
 refine⟨⟨h.row.1,?_⟩,h.big,h.wf⟩;rcases h.row.2 with h2|⟨g,cap',cur,hv,hg,r⟩
 ·exact .inl h2
 ·exact .inr ⟨g,cap',cur,hv,by omega,r⟩
def YP [Ol] (w:World) (ps:List (Int×Int)) (e:Ending) (w':World):Prop:=
 ∃ao n cap,e= .returned (a0e ao n cap)/\ Ml w' ao n cap ps/\ Below w.heap.size w w'
def wP [Ol] (w:World) (ps:List (Int×Int)) (er:Int) (e:Ending) (w':World):Prop:=
 ∃ao n cap,e= .returned (.tuple #[a0e ao n cap,.int .i64 er])/\ Ml w' ao n cap ps/\ Below w.heap.size w w'
theorem Tryz.rA:(Tryz.prog.info? 72).map (λi=>(i.zero,i.size,i.bytes))=some (some (.agg #[.int .i64 0,.int .i64 0]),2,16):=by kernel_rfl
theorem rz {w:World} {base:Nat} {e:TypeId} {v:Value} {n s:Nat} {xs:List Value} (h:w.ownsRow base e s v n xs):∃ao cap,v=a0e ao n cap:=by
 rcases h.2 with⟨hv,h0⟩|⟨g,cap,cur,hv,_⟩
 ·exact⟨none,0,by rw[hv,h0]⟩
 ·exact⟨_,_,hv⟩
theorem wO {P:Program} (w w0:World) {ops:Array Oper} {rest:List Oper} {o:Oper} {a:Act} {Q:Exit->Act->World->Prop}
  (hg:o.guard=none) (s x:Operand) (t:TypeId) (hop:o.op=Op.call { callee:=Callee.builtin Builtin.append,args:= #[s,x],argTypes:= #[t,t] })
  (base:Nat) (i:TypeInfo) (z:Value) (h1:P.underlying t=some (.slice 72)) (h2:P.info? 72=some i) (h3:i.zero=some z) (h4:i.size=2) (h5:i.bytes=16) (h6:z.cells.size=2)
  (ao:Option Addr) (n cap:Nat) (ps:List (Int×Int)) (hs:a.eval s=a0e ao n cap) (hown:Mo base w ao n cap ps)
  (u v:Int) (hu:gQ u) (hv:gQ v) (tt:TypeId) (hx:a.eval x=a0e (some ⟨w.heap.size,0,none⟩) 1 1) (hb:Below base w0 w) (hbase:base<=w.heap.size) (b1:n+1<=8796093022208)
  (hK:∀gu cap' w',Mo base w' gu (n+1) cap' (ps++[(u,v)])->Below base w0 w'->(w.alloc (.cells #[.int .i64 u,.int .i64 v] tt)).grownBy w' (a0e ao n cap).ownBlock->wpList P ops Q rest (a.put o.dst (a0e gu (n+1) cap')) w'):
  wpList P ops Q (o::rest) a (w.alloc (.cells #[.int .i64 u,.int .i64 v] tt)):=by
 have ho1:=hown.row.alloc (.cells #[.int .i64 u,.int .i64 v] tt);refine wpList_append_own _ hg s x t hop base 72 i z 2 16 h1 h2 h3 h4 h5 h6 (by decide) _ n (fq ps) hs ho1 ⟨w.heap.size,0,none⟩ 1 1 (fq [(u,v)]) hx rfl ?_ (qm _) (by unfold maxLen;omega) (by omega) (by simp;omega) ?_
 ·intro j q hj
  match j,hj with
  |0,hj=>
   simp[fq]at hj;subst hj;simp[a0b]
  |1,hj=>
   simp[fq]at hj;subst hj;simp[a0b]
  |j+2,hj=>simp[fq]at hj
 ·intro v' w' hown' hgrow _;obtain⟨gu,cap',rfl⟩:=rz hown';refine hK gu cap' w' ⟨by rw[oG];exact hown',b1,λp hp=>?_⟩ ((hb.alloc hbase _).grown hgrow (by simp;omega) λk hk=>(ho1.lt k hk).1) hgrow;rcases List.mem_append.1 hp with hp|hp
  ·exact hown.wf p hp
  ·simp at hp;subst hp;exact⟨hu,hv⟩
open Lib (hid)
theorem KF {lo:Int} {p:Int×Int} (h1:lo<p.1) (h2:p.1<=200) (h3:1<=p.2) (h4:p.2<=10000):El lo p=true:=by unfold El;simp[h1,h2,h3,h4]
theorem lU [Ol] (r:Bool) {ao:Option Addr} {n cap:Nat} {ps:List (Int×Int)} {w:World} (h:Ml w ao n cap ps) (hr:aZ 0 ps=r):
  Calls Tryz.prog 44 #[a0e ao n cap] w (cu (.bool r) w):=by
 have hle:=h.le;have hbig:=h.big;have HM:=hid h;clear h;go_enter Tryz.func44,Tryz.ntmps44;go_wp2;go_loopw [3] (λi wr=>∃k:Nat,k<=n/\ i= .int .i64 k/\ Hid (0<=Vs ps k)/\ Hid (aZ (Vs ps k) (ps.drop k)=r)/\ Hid (Ml wr ao n cap ps/\ Below w.heap.size w wr)) (λi _=>n-(intOf i).toNat)
 case atStart=>exact⟨0,a0s _,rfl,Int.le_refl 0,by rw[Hid,List.drop_zero];exact hr,HM.out,a0d _ _⟩
 case round=>
  clear HM;obtain⟨k,hk,rfl,HL,HR,HS⟩:=hrel;have HM:=hid HS.out.1;by_cases hkn:k<n
  ·obtain⟨b,off,rfl,hb,hc⟩:=HM.out.at (by omega);obtain⟨c1,c2⟩:=hc k hkn;have HR2:=hid ((DN ps k (Vs ps k) (by rw[HM.out.len];exact hkn)).symm.trans HR.out);clear HR;obtain⟨v,hv⟩:∃v,v=(ps.getD k (0,0)).1:=⟨_,rfl⟩;obtain⟨e,he⟩:∃v,v=(ps.getD k (0,0)).2:=⟨_,rfl⟩;rw[<-hv]at c1;rw[<-he]at c2;have HV:=hid hv;have HE:=hid he;have HC:=hid hc;clear hv he hc;by_cases g0:v<1
   ·have f0:decide (v<1)=true:=decide_eq_true (by omega)
    skip
    go_wp2;go_ret;exact⟨jd (by rw[<-HR2.out];unfold El;rw[<-HV.out,<-HE.out];have:=HL.out;simp;omega),HS.out.2⟩
   ·have f0:decide (v<1)=false:=decide_eq_false (by omega);by_cases g1:200<v
    ·have f1:decide (200<v)=true:=decide_eq_true (by omega)
     skip
     go_wp2;go_ret;exact⟨jd (by rw[<-HR2.out];unfold El;rw[<-HV.out,<-HE.out];have:=HL.out;simp;omega),HS.out.2⟩
    ·have f1:decide (200<v)=false:=decide_eq_false (by omega);by_cases g2:e<1
     ·have f2:decide (e<1)=true:=decide_eq_true (by omega)
      skip
      go_wp2;go_ret;exact⟨jd (by rw[<-HR2.out];unfold El;rw[<-HV.out,<-HE.out];have:=HL.out;simp;omega),HS.out.2⟩
     ·have f2:decide (e<1)=false:=decide_eq_false (by omega);by_cases g3:10000<e
      ·have f3:decide (10000<e)=true:=decide_eq_true (by omega)
       skip
       go_wp2;go_ret;exact⟨jd (by rw[<-HR2.out];unfold El;rw[<-HV.out,<-HE.out];have:=HL.out;simp;omega),HS.out.2⟩
      ·have f3:decide (10000<e)=false:=decide_eq_false (by omega);by_cases hk0:k=0
       ·subst hk0;simp only[Nat.zero_mul,Nat.add_zero]at c1 c2;go_wp2;go_quiet (fail);go_wp2;go_roundw
        case rel=>exact⟨1,by omega,by go_num,by show 0<=(ps.getD 0 (0,0)).1;rw[<-HV.out];omega,by rw[Hid,<-HR2.out,KF (show Vs ps 0<_ by rw[<-HV.out];show(0:Int)<v;omega) (by rw[<-HV.out];omega) (by rw[<-HE.out];omega) (by rw[<-HE.out];omega)];rfl,HM.out.below (a0a (a0d _ _) _),HS.out.2.trans (a0a (a0d _ _) _)⟩
        case measure=>simp[intOf];omega
       ·obtain⟨j,rfl⟩:∃j,k=j+1:=⟨k-1,by omega⟩;obtain⟨c3,_⟩:=HC.out j (by omega);obtain⟨u,hu⟩:∃v,v=(ps.getD j (0,0)).1:=⟨_,rfl⟩;rw[<-hu]at c3;have HU:Hid (Vs ps (j+1)=u):=hu.symm;clear hu;have j1:((j+1:Nat):Int)-1=(j:Int):=by omega
        have j2:j<n:=by omega
        have j3:IntKind.i64.wrap (((j+1:Nat):Int)-1)=(j:Int):=by rw[j1];exact IntWalk.i64_in _ ⟨by omega,by omega⟩
        by_cases g5:v<=u
        ·have f5:decide (v<=u)=true:=decide_eq_true g5;go_wp2;go_quiet (fail);go_wp2;go_ret;exact⟨jd (by rw[<-HR2.out,HU.out];unfold El;rw[<-HV.out];simp;omega),HS.out.2.trans (a0a (a0d _ _) _)⟩
        ·have f5:decide (v<=u)=false:=decide_eq_false g5;go_wp2;go_quiet (fail);go_wp2;go_roundw
         case rel=>exact⟨j+2,by omega,by go_num,by show 0<=(ps.getD (j+1) (0,0)).1;rw[<-HV.out];omega,by rw[Hid,<-HR2.out,KF (show Vs ps (j+1)<_ by rw[<-HV.out,HU.out];omega) (by rw[<-HV.out];omega) (by rw[<-HE.out];omega) (by rw[<-HE.out];omega)];rfl,HM.out.below (a0a (a0d _ _) _),HS.out.2.trans (a0a (a0d _ _) _)⟩
         case measure=>simp[intOf];omega
  ·obtain rfl:k=n:=by omega
   go_wp2;go_ret;have e2:=HR.out;rw[a0m (by rw[HM.out.len];exact a0q _)]at e2;exact⟨jd (by rw[<-e2];rfl),HS.out.2⟩
open Lib (hid)
theorem O4 [Ol] {a0 b0:Option Addr} {la ca lb cb:Nat} {xs ys:List (Int×Int)} {w:World} (ha:Ml w a0 la ca xs) (hb:Ml w b0 lb cb ys) (h:xs=ys):
  Calls Tryz.prog 67 #[a0e a0 la ca,a0e b0 lb cb] w (cu (.bool true) w):=by
 subst h;obtain rfl:la=lb:=by rw[<-ha.len,hb.len]
 have hle:=ha.le;have hle2:=hb.le;have hbig:=ha.big;have HA:=hid ha;have HB:=hid hb;clear ha hb;go_enter Tryz.func67,Tryz.ntmps67;go_wp2;go_loopw [5] (λi wr=>∃k:Nat,k<=la/\ i= .int .i64 k/\ Hid (Ml wr a0 la ca xs/\ Ml wr b0 la cb xs/\ Below w.heap.size w wr)) (λi _=>la-(intOf i).toNat)
 case atStart=>exact⟨0,a0s _,rfl,HA.out,HB.out,a0d _ _⟩
 case round=>
  clear HA HB;obtain⟨k,hk,rfl,HS⟩:=hrel;by_cases hkn:k<la
  ·obtain⟨b,off,rfl,hlt,hc⟩:=HS.out.1.at (by omega);obtain⟨c1,c2⟩:=hc k hkn;clear hc;obtain⟨b2,off2,rfl,hlt2,hc⟩:=HS.out.2.1.at (by omega);obtain⟨c3,c4⟩:=hc k hkn;clear hc;obtain⟨v,hv⟩:∃v,v=(xs.getD k (0,0)).1:=⟨_,rfl⟩;obtain⟨e,he⟩:∃v,v=(xs.getD k (0,0)).2:=⟨_,rfl⟩;rw[<-hv]at c1 c3;rw[<-he]at c2 c4;clear hv he;go_wp2;go_quiet (fail);go_wp2;go_roundw
   case rel=>exact⟨k+1,by omega,by go_num,HS.out.1.below (a0a (a0d _ _) _),HS.out.2.1.below (a0a (a0d _ _) _),HS.out.2.2.trans (a0a (a0d _ _) _)⟩
   case measure=>simp[intOf];omega
  ·obtain rfl:k=la:=by omega
   go_wp2;go_ret;exact⟨rfl,HS.out.2.2⟩
theorem VZ {xs ys:List (Int×Int)} {k:Nat} (h1:k<xs.length) (h2:k<ys.length) (h:xs.drop k≠ys.drop k) (he:xs.getD k (0,0)=ys.getD k (0,0)):xs.drop (k+1)≠ys.drop (k+1):=by
 intro hd;refine h ?_;rw[a0n h1,a0n h2,hd]
 congr 1
 simpa[a0j,a0k h1,a0k h2]using he
theorem Tq [Ol] {a0 b0:Option Addr} {la ca lb cb:Nat} {xs ys:List (Int×Int)} {w:World} (ha:Ml w a0 la ca xs) (hb:Ml w b0 lb cb ys) (h:xs≠ys):
  Calls Tryz.prog 67 #[a0e a0 la ca,a0e b0 lb cb] w (cu (.bool false) w):=by
 by_cases hl:la=lb
 ·subst hl;have hle:=ha.le;have hle2:=hb.le;have hbig:=ha.big;have HN:=hid h;have HA:=hid ha;have HB:=hid hb;clear ha hb h;go_enter Tryz.func67,Tryz.ntmps67;go_wp2;go_loopw [5] (λi wr=>∃k:Nat,k<=la/\ i= .int .i64 k/\ Hid (xs.drop k≠ys.drop k)/\ Hid (Ml wr a0 la ca xs/\ Ml wr b0 la cb ys/\ Below w.heap.size w wr)) (λi _=>la-(intOf i).toNat)
  case atStart=>exact⟨0,a0s _,rfl,by rw[Hid];simpa using HN.out,HA.out,HB.out,a0d _ _⟩
  case round=>
   clear HA HB HN;obtain⟨k,hk,rfl,HD,HS⟩:=hrel
   have hkn:k<la:=by
    rcases Nat.lt_or_ge k la with h|h
    ·exact h
    ·exact absurd (by rw[a0m (by rw[HS.out.1.len];exact h),a0m (by rw[HS.out.2.1.len];exact h)]) HD.out
   obtain⟨b,off,rfl,hlt,hc⟩:=HS.out.1.at (by omega);obtain⟨c1,c2⟩:=hc k hkn;clear hc;obtain⟨b2,off2,rfl,hlt2,hc⟩:=HS.out.2.1.at (by omega);obtain⟨c3,c4⟩:=hc k hkn;clear hc;have HD2:=hid (VZ (by rw[HS.out.1.len];exact hkn) (by rw[HS.out.2.1.len];exact hkn) HD.out);obtain⟨v,hv⟩:∃v,v=(xs.getD k (0,0)).1:=⟨_,rfl⟩;obtain⟨e,he⟩:∃v,v=(xs.getD k (0,0)).2:=⟨_,rfl⟩;obtain⟨v2,hv2⟩:∃v,v=(ys.getD k (0,0)).1:=⟨_,rfl⟩;obtain⟨e2,he2⟩:∃v,v=(ys.getD k (0,0)).2:=⟨_,rfl⟩;rw[<-hv]at c1;rw[<-he]at c2;rw[<-hv2]at c3;rw[<-he2]at c4;have HQ:Hid (v=v2->e=e2->xs.getD k (0,0)=ys.getD k (0,0)):=λh1 h2=>Prod.ext (by rw[<-hv,<-hv2,h1]) (by rw[<-he,<-he2,h2])
   clear hv he hv2 he2;by_cases g1:v=v2
   ·subst g1;by_cases g2:e=e2
    ·subst g2;go_wp2;go_quiet (fail);go_wp2;go_roundw
     case rel=>exact⟨k+1,by omega,by go_num,HD2.out (HQ.out (by simp) (by simp)),HS.out.1.below (a0a (a0d _ _) _),HS.out.2.1.below (a0a (a0d _ _) _),HS.out.2.2.trans (a0a (a0d _ _) _)⟩
     case measure=>simp[intOf];omega
    ·clear HD2 HQ;have f1:(e==e2)=false:=by simpa using g2
     clear g2;go_wp2;go_quiet (fail);go_wp2;go_ret;exact⟨rfl,HS.out.2.2.trans (a0a (a0d _ _) _)⟩
   ·clear HD2 HQ;have f1:(v==v2)=false:=by simpa using g1
    clear g1;go_wp2;go_quiet (fail);go_wp2;go_ret;exact⟨rfl,HS.out.2.2.trans (a0a (a0d _ _) _)⟩
 ·have f1:((la:Int)==(lb:Int))=false:=by simp;omega
  have f2:((la:Int) !=(lb:Int))=true:=by simp;omega
  go_enter Tryz.func67,Tryz.ntmps67;go_wp2;go_ret;exact⟨rfl,a0d _ _⟩
theorem MW [Ol] (r:Bool) {a0 b0:Option Addr} {la ca lb cb:Nat} {xs ys:List (Int×Int)} {w:World} (ha:Ml w a0 la ca xs) (hb:Ml w b0 lb cb ys) (h:decide (xs=ys)=r):
  Calls Tryz.prog 67 #[a0e a0 la ca,a0e b0 lb cb] w (cu (.bool r) w):=by
 subst h;by_cases h:xs=ys
 ·rw[decide_eq_true h];exact O4 ha hb h
 ·rw[decide_eq_false h];exact Tq ha hb h
def KW (ao:Option Addr) (n:Nat) (c:Nat):Prop:=0<n/\∃a,ao=some a/\ a.block=c
theorem vF (a:Addr) (k:Nat):(a.add k).block=a.block:=by unfold a0b;split<;>rfl
theorem Zj [Ol] {ao:Option Addr} {n cap:Nat} {ps:List (Int×Int)} (w w':World) (hh:∀c,KW ao n c->w'.heap[c]? =w.heap[c]?) (h:Ml w ao n cap ps):Ml w' ao n cap ps:=
 ⟨h.len,h.le,h.big,h.wf,h.nil,λad had t ht=>
  ⟨(a0h (a:=ad.add (t*2)) (by rw[vF];exact hh _ ⟨by omega,ad,had,rfl⟩)).trans (h.cells ad had t ht).1,
   (a0h (a:=ad.add (t*2+1)) (by rw[vF];exact hh _ ⟨by omega,ad,had,rfl⟩)).trans (h.cells ad had t ht).2⟩,λh0 ad had=>(h.kp h0 ad had).keep (hh _ ⟨h0,ad,had,rfl⟩)⟩
theorem ag0 [Ol] {ao:Option Addr} {n cap:Nat} {ps:List (Int×Int)} (w:World) (h:Ml w ao n cap ps) (c:Nat) (hc:KW ao n c):c<w.heap.size:=by
 obtain⟨h0,a,ha,rfl⟩:=hc;have h1:=(h.cells a ha 0 h0).1;have:=a0g w _ h1;rwa[vF]at this
def En.ml [Ol] (ao:Option Addr) (n cap:Nat) (ps:List (Int×Int)):En:=⟨λw=>Ml w ao n cap ps,KW ao n,Zj,λw h=>ag0 w h⟩
theorem iZ.ml [Ol] {w:World} {ao:Option Addr} {n cap:Nat} {ps:List (Int×Int)} {r:List En} (h:iZ w (.ml ao n cap ps::r)):Ml w ao n cap ps:=h.1
theorem Sx.ml [Ol] {w0 w:World} {N:List En} (s:Sx w0 w [] N) {ao:Option Addr} {n cap:Nat} {ps:List (Int×Int)} (h:Ml w ao n cap ps):Sx w0 w [] (.ml ao n cap ps::N):=
 s.add (.ml ao n cap ps) h (λv hv=>by cases hv)
def lH (f:Int->Int):List Value:=(List.range 201).map λ(i:Nat)=>Value.int .i64 (f (i:Int))
def upd (f:Int->Int) (v x:Int) (u:Int):Int:=if u=v then x else f u
theorem ic (f:Int->Int):(lH f).length=201:=by simp[lH]
theorem sH (f:Int->Int) (i:Nat) (h:i<201):(lH f)[i]? =some (.int .i64 (f (i:Int))):=by simp[lH,h]
theorem Tt (f:Int->Int):∀v∈lH f,v.oneCell'=true:=by
 intro v hv;obtain⟨i,_,rfl⟩:=List.mem_map.1 hv;rfl
theorem BL {f g:Int->Int} (h:∀v,0<=v->v<=200->f v=g v):lH f=lH g:=by
 unfold lH;refine List.map_congr_left λi hi=>?_
 have:=List.mem_range.1 hi;rw[h i (by omega) (by omega)]
theorem Tv (f:Int->Int) (v:Nat) (h:v<201) (x:Int):(lH f).set v (.int .i64 x)=lH (upd f v x):=by
 refine List.ext_getElem? λj=>?_
 rw[List.getElem?_set];by_cases hj:v=j
 ·subst hj;rw[if_pos rfl,if_pos (by rw[ic];exact h),sH _ _ h];simp[upd]
 ·rw[if_neg hj];by_cases h2:j<201
  ·rw[sH _ _ h2,sH _ _ h2];unfold upd;rw[if_neg (by omega)]
  ·rw[a0o (by rw[ic];omega),a0o (by rw[ic];omega)]
theorem Tryz.IQ:(Tryz.prog.info? 143).map (λi=>(i.zero,i.size))=some (some (.agg (lH λ_=>0).toArray),201):=by kernel_rfl
theorem rQ:∀w,(zeroValue 143).run Tryz.prog w= .ok (.agg (lH λ_=>0).toArray) w:=(zero_of_info Tryz.IQ).1
theorem wX:(Tryz.prog.info? 143).map (·.size)=some 201:=(zero_of_info Tryz.IQ).2
def Row (w:World) (b:Nat) (f:Int->Int):Prop:=w.heap[b]? =some (.cells (lH f).toArray 143 (0,0))
theorem Row.lt {w:World} {b:Nat} {f:Int->Int} (h:Row w b f):b<w.heap.size:=lt_of_block h
theorem Row.cell {w:World} {b:Nat} {f:Int->Int} (h:Row w b f) (i:Nat) (hi:i<201):w.cell? ⟨b,i,none⟩=some (.int .i64 (f i)):=by
 unfold Row at h;rw[<-sH f i hi];simp[World.cell?,h]
theorem Row.fz {w:World} {b:Nat} {f:Int->Int} (h:Row w b f) (i:Nat):w.frozen? ⟨b,i,none⟩=false:=by
 unfold Row at h;simp[World.frozen?,h]
theorem Row.keep {w w':World} {b:Nat} {f:Int->Int} (h:Row w b f) (e:w'.heap[b]? =w.heap[b]?):Row w' b f:=e.trans h
theorem Row.below {w w':World} {b:Nat} {f:Int->Int} (h:Row w b f) (hb:Below w.heap.size w w'):Row w' b f:=h.keep (hb.block b h.lt)
theorem Row.new (w:World) (f:Int->Int):Row (w.alloc (.cells (lH f).toArray 143)) w.heap.size f:=by
 show(w.heap.push _)[w.heap.size]? =_;rw[Array.getElem?_push_size]
theorem Row.new2 (w:World) (f:Int->Int) (b:Nat) (hb:b=w.heap.size):Row (w.alloc (.cells (lH f).toArray 143)) b f:=by subst hb;exact Row.new w f
theorem Row.set {w:World} {b:Nat} {f:Int->Int} (h:Row w b f) (v:Nat) (hv:v<201) (x:Int):Row (w.setCell ⟨b,v,none⟩ (.int .i64 x)) b (upd f v x):=by
 unfold Row at h ⊢;rw[<-Tv f v hv x];simp[World.setCell,Array.getElem?_modify,h]
theorem Row.far {w:World} {b c:Nat} {f:Int->Int} (h:Row w b f) (hc:c≠b) (o:Nat) (u:Value):Row (w.setCell ⟨c,o,none⟩ u) b f:=
 h.keep (Below.heap_setCell _ _ _ _ (λe=>hc e.symm))
theorem Row.congr {w:World} {b:Nat} {f g:Int->Int} (h:Row w b f) (e:∀v,0<=v->v<=200->f v=g v):Row w b g:=by
 unfold Row at h ⊢;rw[<-BL e];exact h
theorem Row.put {w:World} {b:Nat} {f:Int->Int} (h:Row w b f) (g:Int->Int):Row (w.setRow b (lH g).toArray) b g:=setRow_heap w b _ _ _ _ h
theorem Row.Rh {w:World} {b c:Nat} {f:Int->Int} (h:Row w b f) (hc:b≠c) (cs:Array Value):Row (w.setRow c cs) b f:=h.keep (setRow_other w c b cs hc)
theorem below_setRow {B:Nat} {a w:World} (h:Below B a w) {g:Nat} (hg:B<=g) (cs:Array Value):Below B a (w.setRow g cs):=
 h.trans ⟨rfl,rfl,rfl,by simp[World.setRow],λk hk=>setRow_other w g k cs (by omega)⟩
theorem Row.load {w:World} {b:Nat} {f:Int->Int} (h:Row w b f):(loadVar 143 ⟨b,0,none⟩).run Tryz.prog w= .ok (.agg (lH f).toArray) w:=
 run_loadVar_row w b _ 143 _ (0,0) _ h Tryz.underlying143 rfl (by rw[wX];simp[ic])
theorem nP {w:World} {ops:Array Oper} {rest:List Oper} {op:Oper} {a:Act} {Q:Exit->Act->World->Prop} (hgd:op.guard=none) (x:Operand) (ho:op.op= .load 143 x)
  (b:Nat) (hx:a.eval x= .pointer (some ⟨b,0,none⟩)) (f:Int->Int) (h:Row w b f)
  (hK:wpList Tryz.prog ops Q rest (a.put op.dst (.agg (lH f).toArray)) w):wpList Tryz.prog ops Q (op::rest) a w:=
 wpList_load_mid hgd 143 x ho b 0 hx (lH f) _ (λj v hv=>by
   rw[a0r];have hj:j<201:=by have:=(List.getElem?_eq_some_iff.1 hv).1;rwa[ic]at this
   rw[h.cell j hj,<-sH f j hj,hv])
  Tryz.underlying143 rfl (by rw[wX,ic]) hK
theorem fO {w:World} {ops:Array Oper} {rest:List Oper} {op:Oper} {a:Act} {Q:Exit->Act->World->Prop} (hgd:op.guard=none) (x y:Operand) (ho:op.op= .store 143 x y)
  (b:Nat) (hx:a.eval x= .pointer (some ⟨b,0,none⟩)) (f g:Int->Int) (hy:a.eval y= .agg (lH g).toArray) (h:Row w b f)
  (hK:wpList Tryz.prog ops Q rest (a.put op.dst undef) (w.setRow b (lH g).toArray)):wpList Tryz.prog ops Q (op::rest) a w:=by
 refine wpList_plain hgd λK hK'=>?_
 have hr:=run_storeVar_row (P:=Tryz.prog) w b _ 143 _ (lH g).toArray h (by rw[wX];simp[ic]) (by simp[ic]) (all_oneCell_toArray (Tt g));unfold Oper.wp execOp;simp only[ho,hx,hy,Instr.storeAt,Instr.sureAddr,Sem.run_bind,Sem.run_pure,Result.andThen_ok,hr];exact hK' _ _ hK
theorem yX {fn:Func} {p:Tmp} (h:fn.results= #[.cell p 143]) (tmps:Array Value) {w:World} {b:Nat} {f:Int->Int} (hr:Row w b f) (hp:tmps.getD p undef= .pointer (some ⟨b,0,none⟩)):(results fn tmps).run Tryz.prog w= .ok (.agg (lH f).toArray) w:=
 results_cell_row h tmps w b _ _ (0,0) _ hp hr Tryz.underlying143 rfl (by rw[wX];simp[ic])
def Zk (w:World) (f:Int->Int) (e:Ending) (w':World):Prop:=e= .returned (.agg (lH f).toArray)/\ Below w.heap.size w w'
open Lib (hid)
theorem Zl {ps:List (Int×Int)} (h:aZ 0 ps=false) (v:Int):nW ps v=0:=by unfold nW;rw[RX h];rfl
theorem qj {ps:List (Int×Int)} (h:aZ 0 ps=true):nW ps=aJ ps:=by funext v;unfold nW;rw[qg h]
theorem V7 [Ol] {ao:Option Addr} {n cap:Nat} {ps:List (Int×Int)} {w:World} (h:Ml w ao n cap ps) (hr:aZ 0 ps=false):
  Calls Tryz.prog 96 #[a0e ao n cap] w (Zk w (nW ps)):=by
 have zr:=rQ;have HM:=hid h;have HR:=hid hr;clear h hr;go_enter Tryz.func96,Tryz.ntmps96;go_upto_region 2 with(fail)
 refine aj (λW hW=>?_);have HB:Hid (Below w.heap.size w W):=by rw[hW];exact Below.steps (af _ _) (af _ _)
 have H2:Hid (Row W w.heap.size (λ_=>0)):=by rw[hW];exact(Row.new w _).below (af _ _)
 have H3:Hid (Row W (w.heap.size+1) (λ_=>0)):=by rw[hW];exact Row.new2 (w.alloc _) _ _ (by simp)
 clear hW zr;go_wp2_with fail;refine(lU false (HM.out.below HB.out) HR.out).mono ?_;rintro e w1 ⟨rfl,hB⟩;have HB1:=hid (Below.steps HB.out hB);have H21:=hid (H2.out.below hB);have H31:=hid (H3.out.below hB);clear hB HB H2 H3 HM;go_wp2_with (first|(refine nP rfl (.tmp 3) rfl _ rfl _ H31.out ?_)|(refine fO rfl (.tmp 2) (.tmp 8) rfl _ rfl _ _ rfl H21.out ?_));refine bodyPost_ret (v:= .agg (lH λ_=>0).toArray) (yX rfl _ (H21.out.put (λ_=>0)) rfl) rfl ⟨?_,below_setRow HB1.out (a0q _) _⟩;rw[BL (λv _ _=>Zl HR.out v)]
theorem O5 {ps:List (Int×Int)} (hr:aZ 0 ps=true) {k:Nat} (h:k<ps.length) (u:Int):aJ (ps.take (k+1)) u=upd (aJ (ps.take k)) (ps.getD k (0,0)).1 (ps.getD k (0,0)).2 u:=by
 have hlow:∀q∈ps.take k,q.1<(ps.getD k (0,0)).1:=by
  have H:∀(l:List (Int×Int)) (lo:Int) (k:Nat),aZ lo l=true->k<l.length->(lo<(l.getD k (0,0)).1)/\∀q∈l.take k,q.1<(l.getD k (0,0)).1:=by
   intro l;induction l with
   |nil=>intro lo k _ hk;simp at hk
   |cons p r ih=>
    intro lo k hm hk;unfold aZ El at hm;simp only[Bool.and_eq_true,decide_eq_true_eq]at hm;obtain⟨⟨h1,h2,h3,h4⟩,h5⟩:=hm;cases k with
    |zero=>simpa using h1
    |succ k=>
     have:=ih p.1 k h5 (by simpa using hk);refine⟨by have:=this.1;simp at this ⊢;omega,λq hq=>?_⟩;simp only[List.take_succ_cons,a0l]at hq;rcases hq with rfl|hq
     ·simpa using this.1
     ·simpa using this.2 q hq
  exact(H ps 0 k hr h).2
 rw[List.take_succ_eq_append_getElem h];have e:ps[k]=((ps.getD k (0,0)).1,(ps.getD k (0,0)).2):=by simp[a0j,a0k h]
 rw[e,sO hlow];rfl
theorem Tw [Ol] {ao:Option Addr} {n cap:Nat} {ps:List (Int×Int)} {w:World} (h:Ml w ao n cap ps) (hr:aZ 0 ps=true):
  Calls Tryz.prog 96 #[a0e ao n cap] w (Zk w (aJ ps)):=by
 have zr:=rQ;have hle:=h.le;have hbig:=h.big;have HM:=hid h;have HR:=hid hr;clear h hr;go_enter Tryz.func96,Tryz.ntmps96;go_upto_region 2 with(fail)
 refine aj (λW hW=>?_);have HB:Hid (Below w.heap.size w W):=by rw[hW];exact Below.steps (af _ _) (af _ _)
 have H2:Hid (Row W w.heap.size (λ_=>0)):=by rw[hW];exact(Row.new w _).below (af _ _)
 have H3:Hid (Row W (w.heap.size+1) (λ_=>0)):=by rw[hW];exact Row.new2 (w.alloc _) _ _ (by simp)
 clear hW zr;go_wp2_with fail;refine(lU true (HM.out.below HB.out) HR.out).mono ?_;rintro e w1 ⟨rfl,hB⟩;have HB1:=hid (Below.steps HB.out hB);have H21:=hid (H2.out.below hB);have H31:=hid (H3.out.below hB);clear hB HB H2 H3;go_wp2_with fail;go_loopw [4] (λi wr=>∃k:Nat,k<=n/\ i= .int .i64 k/\ Hid (Row wr w.heap.size (λ_=>0)/\ Row wr (w.heap.size+1) (aJ (ps.take k))/\ Below w.heap.size w wr)) (λi _=>n-(intOf i).toNat)
 case atStart=>exact⟨0,a0s _,rfl,H21.out,by rw[List.take_zero];exact H31.out,HB1.out⟩
 case round=>
  clear H21 H31 HB1;obtain⟨k,hk,rfl,HS⟩:=hrel;by_cases hkn:k<n
  ·obtain⟨b,off,rfl,hb,_⟩:=HM.out.at (by omega);have hl:=HM.out.len;have hmem:=qA HR.out (Int.le_refl 0) _ (Ml.Tp (by rw[hl];exact hkn));have HE:=hid (O5 HR.out (by rw[hl];exact hkn))
   have hc:∀V:World,Below w.heap.size w V->V.cell? ⟨b,off+k*2,none⟩=some (.int .i64 (ps.getD k (0,0)).1)/\ V.cell? ⟨b,off+k*2+1,none⟩=some (.int .i64 (ps.getD k (0,0)).2):=by
    intro V hV;have h1:=(HM.out.below hV).cells _ rfl k hkn;rw[a0c,a0c,<-a0p]at h1;exact h1
   obtain⟨p,hp⟩:∃p,p=ps.getD k (0,0):=⟨_,rfl⟩;rw[<-hp]at hc HE hmem;clear hp hl;obtain⟨u,x⟩:=p;obtain⟨v,rfl⟩:∃v:Nat,u=(v:Int):=⟨u.toNat,by have:=hmem.1.1;simp at this;omega⟩;have hv:v<201:=by have:=hmem.1.2;simp at this;omega
   have hv2:(v:Int)<201:=by omega
   have hv3:(0:Int)<=v:=by omega
   have HC:=hid hc;clear hmem hc;have c3:=HS.out.2.1.cell v hv;have c4:=HS.out.2.1.fz v;obtain⟨old,ho⟩:∃o,o=aJ (ps.take k) v:=⟨_,rfl⟩;rw[<-ho]at c3;clear ho;go_upto_region 7 with(fail)
   refine wp_region_held_drew (S:=λw'=>w'.cell? ⟨b,off+k*2,none⟩=some (.int .i64 v)/\ w'.cell? ⟨b,off+k*2+1,none⟩=some (.int .i64 x)) (by kernel_rfl) (HC.out _ HS.out.2.2.drew) (λhH=>?_);refine aQ 0 hH ?_;try simp only[ax]
   refine aQ 1 hH ?_;try simp only[ax]
   refine aQ 2 hH ?_;try simp only[ax]
   refine aQ 3 hH ?_;try simp only[ax]
   refine aQ 4 hH ?_;try simp only[ax]
   refine aQ 5 hH ?_;try simp only[ax]
   refine aQ 6 hH ?_;try simp only[ax]
   refine aQ 7 hH ?_;try simp only[ax]
   refine aQ 8 hH ?_;try simp only[ax]
   refine aQ 9 hH ?_;try simp only[ax]
   refine aQ 10 hH ?_;try simp only[ax]
   refine ah 11 rfl (by kernel_rfl) (λK hK=>?_);go_simp;refine hK.out _ _ (HC.out _ (HS.out.2.2.drew.setCell (by simp) _)) (λh2=>?_);clear hK K hH h2
   try simp only[ax]
   refine wpAnyH_done (by kernel_rfl) ?_ _
   go_wp2_with fail;go_roundw
   case rel=>exact⟨k+1,by omega,by go_num,HS.out.1.far (by omega) _ _,(HS.out.2.1.set v hv x).congr (λz _ _=>(HE.out z).symm),HS.out.2.2.drew.setCell (by simp) _⟩
   case measure=>simp[intOf];omega
  ·obtain rfl:k=n:=by omega
   have H3:Hid (Row wr (w.heap.size+1) (aJ ps)):=by have:=HS.out.2.1;rwa[List.take_of_length_le (by rw[HM.out.len];exact a0q _)]at this
   go_wp2_with (first|(refine nP rfl (.tmp 3) rfl _ rfl _ H3.out ?_)|(refine fO rfl (.tmp 2) (.tmp 26) rfl _ rfl _ _ rfl HS.out.1 ?_));exact bodyPost_ret (v:= .agg (lH (aJ ps)).toArray) (yX rfl _ (HS.out.1.put (aJ ps)) rfl) rfl ⟨rfl,below_setRow HS.out.2.2 (a0q _) _⟩
theorem rR [Ol] {ao:Option Addr} {n cap:Nat} {ps:List (Int×Int)} {w:World} (h:Ml w ao n cap ps):
  Calls Tryz.prog 96 #[a0e ao n cap] w (Zk w (nW ps)):=by
 cases hr:aZ 0 ps with
 |true=>rw[qj hr];exact Tw h hr
 |false=>exact V7 h hr
open Lib (hid)
theorem yI {P:Program} {f:FuncId} {args:Array Value} {w:World} {Q:Ending->World->Prop} (h:∀W,W=w->Calls P f args W Q):Calls P f args w Q:=h w rfl
theorem Row.grown {B:Nat} {w w':World} {o:Obj} {ao:Option Addr} {n cap:Nat} {ps:List (Int×Int)} {b:Nat} {f:Int->Int} (h:Row w b f) (hM:Mo B w ao n cap ps) (hG:(w.alloc o).grownBy w' (a0e ao n cap).ownBlock):Row w' b f:=by
 refine(h.below (af w o)).keep (hG.block b (by have:=h.lt;simp;omega) λe=>?_);rcases hM.parts with⟨rfl,_⟩|⟨g,cur,rfl,_,_,_,hh⟩
 ·cases e
 ·have e':b=g:=Option.some.inj e;subst e';unfold Row at h;rw[h]at hh;cases hh
theorem O6 (g:Int->Int) (k:Nat):vB g (k+1)=vB g k++if 0<g ((k:Int)+1)then[((k:Int)+1,g ((k:Int)+1))]else[]:=rfl
theorem V8 [Ol] (g:Int->Int) (hg:∀v,1<=v->v<=200->gQ (g v)) (w:World):
  Calls Tryz.prog 195 #[.agg (lH g).toArray] w (YP w (Xi g)):=by
 obtain⟨i0,hi,hz0,hz1,hz2⟩:=info_parts Tryz.rA;have HG:=hid hg;obtain⟨qs,Z4⟩:∃qs,qs=Xi g:=⟨_,rfl⟩;have HQ:Hid (qs=vB g 200):=Z4.trans (by unfold Xi;rw[show lim=200 from rfl]);rw[<-Z4];clear hg Z4;go_enter Tryz.func195,Tryz.ntmps195;go_upto_region 1 with(fail)
 refine aj (λW hW=>?_);have HB:Hid (Below w.heap.size w W):=by rw[hW];exact af _ _
 have H1:Hid (Row W w.heap.size g):=by rw[hW];exact Row.new w _
 clear hW;go_wp2;go_loopw [3,4] (λo i wr=>∃(k m cap:Nat) (ao:Option Addr),k<=200/\ i= .int .i64 ((k+1:Nat):Int)/\ o=a0e ao m cap/\ Hid (Mo w.heap.size wr ao m cap (vB g k))/\ Hid (Row wr w.heap.size g/\ Below w.heap.size w wr)) (λ_ i _=>201-(intOf i).toNat)
 case atStart=>exact⟨0,0,0,none,by omega,rfl,rfl,Mo.nil _ _,H1.out,HB.out⟩
 case round=>
  clear H1 HB;obtain⟨k,m,cap,ao,hk,rfl,rfl,HM,HS⟩:=hrel;by_cases hk2:k<200
  ·have c1:=HS.out.1.cell (k+1) (by omega);have hml:=HM.out.len;have Pp:=Ic g k;have hm4:m<=200:=by omega
   have HU:=hid (O6 g k);have ek:((k:Int)+1)=((k+1:Nat):Int):=by omega
   rw[ek]at HU;have HI:=hid (HG.out ((k+1:Nat):Int) (by omega) (by omega));obtain⟨z,hz⟩:∃z,z=g ((k+1:Nat):Int):=⟨_,rfl⟩;rw[<-hz]at c1 HU HI;clear hml Pp ek hz;obtain⟨j,hj⟩:∃j,j=k+1:=⟨_,rfl⟩;rw[<-hj]at c1 HU ⊢;have HJ:=hid hj;have hj1:1<=j:=by omega
   have hj2:j<=200:=by omega
   clear hj hk hk2;by_cases hp:0<z
   ·have f1:decide (0<z)=true:=decide_eq_true hp;have HV:Hid (gQ (j:Int)):=by unfold gQ;show _/\ _;omega
    have HP:=hid hp;clear hp;go_wp2_with (at_builtin;refine wO wr w rfl (.tmp 13) (.tmp 19) 68 rfl w.heap.size i0 (.agg #[.int .i64 0,.int .i64 0]) Tryz.underlying68 hi hz0 hz1 hz2 rfl ao m cap (vB g k) rfl HM.out (j:Int) z HV.out HI.out _ rfl HS.out.2 HS.out.2.size (by omega) ?_;intro Il cap2 w2 hM2 hB2 hG2;have HM2:=hid hM2;have HB2:=hid hB2;have HR2:=hid (HS.out.1.grown HM.out hG2);clear hM2 hB2 hG2 c1);go_roundw
    case rel=>exact⟨k+1,m+1,cap2,Il,by have:=HJ.out;omega,by rw[HJ.out];go_num,rfl,by rw[Hid,<-HJ.out,HU.out,if_pos HP.out];exact HM2.out,HR2.out,HB2.out⟩
    case measure=>simp[intOf];omega
   ·have f1:decide (0<z)=false:=decide_eq_false hp;have HP:=hid hp;clear hp;go_wp2;go_roundw
    case rel=>exact⟨k+1,m,cap,ao,by have:=HJ.out;omega,by rw[HJ.out];go_num,rfl,by rw[Hid,<-HJ.out,HU.out,if_neg HP.out,List.append_nil];exact HM.out,HS.out⟩
    case measure=>simp[intOf];omega
  ·obtain rfl:k=200:=by omega
   go_wp2;go_ret;exact⟨_,_,_,rfl,by rw[HQ.out];exact HM.out.ml,HS.out.2⟩
open Lib (hid)
theorem Tx {f:Int->Int->Int} (f0:f 0 0=0) {er:Int} {xs ys:List (Int×Int)} (hx:aZ 0 xs=true) (hy:aZ 0 ys=true) {G:Int->Int} (h:∀v,1<=v->v<=200->0<=f (aJ xs v) (aJ ys v)/\ f (aJ xs v) (aJ ys v)<=10000) (hG:∀v,1<=v->v<=200->G v=f (aJ xs v) (aJ ys v)):
  kU f er xs ys=(Xi G,0):=by
 have hm:aZ 0 (joinL f xs ys)=true:=(Av f0 hx hy).2 λv=>by
  by_cases hv:1<=v/\ v<=200
  ·exact h v hv.1 hv.2
  ·rw[lJ hx (by omega),lJ hy (by omega),f0];omega
 unfold kU;rw[if_pos ⟨hx,hy⟩,if_pos hm];have e:Xi G=joinL f xs ys:=YM (AV f0 hx hy) (λv h1 h2=>by rw[pI f0 hx hy,hG v h1 h2]) (λv h1 h2=>by rw[hG v h1 h2];exact(h v h1 h2).1);rw[e]
theorem O7 {f:Int->Int->Int} (f0:f 0 0=0) {er:Int} {xs ys:List (Int×Int)} (hx:aZ 0 xs=true) (hy:aZ 0 ys=true) (v:Int) (h:¬(0<=f (aJ xs v) (aJ ys v)/\ f (aJ xs v) (aJ ys v)<=10000)):
  kU f er xs ys=([],er):=by
 unfold kU;rw[if_pos ⟨hx,hy⟩,if_neg (λhm=>h ((Av f0 hx hy).1 hm v))]
theorem IU [Ol] {a0 b0:Option Addr} {la ca lc cc:Nat} {xs:List (Int×Int)} {w:World} (ha:Ml w a0 la ca xs) (hx:aZ 0 xs=false):
  Calls Tryz.prog 145 #[a0e a0 la ca,a0e b0 lc cc] w (wP w [] 2):=by
 go_enter Tryz.func145,Tryz.ntmps145;go_wp2_with fail;refine(lU false ha hx).mono ?_;rintro e w1 ⟨rfl,hB⟩;go_wp2_with fail;go_ret2;exact⟨none,0,0,rfl,Ml.zero _,hB⟩
theorem IV [Ol] {a0 b0:Option Addr} {la ca lc cc:Nat} {xs ys:List (Int×Int)} {w:World} (ha:Ml w a0 la ca xs) (hb:Ml w b0 lc cc ys) (hx:aZ 0 xs=true) (hy:aZ 0 ys=false):
  Calls Tryz.prog 145 #[a0e a0 la ca,a0e b0 lc cc] w (wP w [] 2):=by
 have vS:=hid hb;clear hb;go_enter Tryz.func145,Tryz.ntmps145;go_wp2_with fail;refine(lU true ha hx).mono ?_;rintro e w1 ⟨rfl,hB⟩;have HB:=hid hB;have HY:=hid (vS.out.below hB);clear hB ha hx vS;go_wp2_with fail;refine(lU false HY.out hy).mono ?_;rintro e w2 ⟨rfl,hB⟩;go_wp2_with fail;go_ret2;exact⟨none,0,0,rfl,Ml.zero _,Below.steps HB.out hB⟩
theorem IW [Ol] {a0 b0:Option Addr} {la ca lc cc:Nat} {xs ys:List (Int×Int)} {w:World} (ha:Ml w a0 la ca xs) (hb:Ml w b0 lc cc ys) (hx:aZ 0 xs=true) (hy:aZ 0 ys=true) (R:List (Int×Int)×Int) (hR:kU (λx y=>x+y) 8 xs ys=R):
  Calls Tryz.prog 145 #[a0e a0 la ca,a0e b0 lc cc] w (wP w R.1 R.2):=by
 have zr:=rQ;have HX:=hid hx;have HY:=hid hy;have HR:=hid hR;have Vx:=hid ha;have HB0:=hid hb;clear hx hy hR ha hb;go_enter Tryz.func145,Tryz.ntmps145;go_wp2_with fail;refine(lU true Vx.out HX.out).mono ?_;rintro e v1 ⟨rfl,hB⟩;have HBa:=hid hB;have HA1:=hid (Vx.out.below hB);have Hg:=hid (HB0.out.below hB);clear hB Vx HB0;go_wp2_with fail;refine(lU true Hg.out HY.out).mono ?_;rintro e v2 ⟨rfl,hB⟩;have HB:=hid (Below.steps HBa.out hB);have HA:=hid (HA1.out.below hB);have vS:=hid (Hg.out.below hB);clear hB HBa HA1 Hg;go_wp2_with fail;refine(rR HA.out).mono ?_;rintro e w1 ⟨rfl,hB⟩;have HB1:=hid (Below.steps HB.out hB);have Hg:=hid (vS.out.below hB);clear hB HA vS HB;go_wp2_with (refine fO rfl (.tmp 6) (.tmp 18) rfl _ rfl _ _ rfl (Row.new w1 _) ?_);refine yI (λW1 hW=>?_);have Yp:Hid (Row W1 w1.heap.size (nW xs)):=by rw[hW];exact(Row.new w1 _).put _
 have HB2:Hid (Below w.heap.size w W1):=by rw[hW];exact below_setRow (Below.steps HB1.out (af _ _)) HB1.out.size _
 have Rf:Hid (Ml W1 b0 lc cc ys):=by rw[hW];exact(Hg.out.below (below_setRow (af w1 _) (a0q _) _))
 have hx2:=HB1.out.size;clear hW HB1 Hg;refine(rR Rf.out).mono ?_;rintro e w2 ⟨rfl,hB⟩;have HB3:=hid (Below.steps HB2.out hB);have JG:=hid (Yp.out.below hB);clear hB Yp HB2 Rf;go_wp2_with (refine fO rfl (.tmp 7) (.tmp 20) rfl _ rfl _ _ rfl (Row.new w2 _) ?_);have hy2:=HB3.out.size;have hxy:=JG.out.lt;refine aj (λW2 hW=>?_);have HX4:Hid (Row W2 w1.heap.size (nW xs)):=by rw[hW];exact(JG.out.below (af _ _)).Rh (by omega) _
 have Yq:Hid (Row W2 w2.heap.size (nW ys)):=by rw[hW];exact(Row.new w2 _).put _
 have qP:Hid (Below w.heap.size w W2):=by rw[hW];exact below_setRow (Below.steps HB3.out (af _ _)) hy2 _
 obtain⟨by',hby⟩:∃b,b=w2.heap.size:=⟨_,rfl⟩;rw[<-hby]at Yq hy2 hxy
 try rw[<-hby]
 clear hW JG HB3 hby zr;go_wp2;go_loopw [8] (λi wr=>∃k:Nat,1<=k/\ k<=201/\ i= .int .i64 k/\ Hid (∀u:Int,1<=u->u<k->0<=aJ xs u+aJ ys u/\ aJ xs u+aJ ys u<=10000)/\ Hid (Row wr w1.heap.size (λu=>if 1<=u/\ u<k then aJ xs u+aJ ys u else aJ xs u)/\ Row wr by' (aJ ys)/\ Below w.heap.size w wr)) (λi _=>201-(intOf i).toNat)
 case atStart=>exact⟨1,by omega,by omega,rfl,λu h1 h2=>by omega,HX4.out.congr (λu _ _=>by rw[qj HX.out,if_neg (by omega)]),by have:=Yq.out;rwa[qj HY.out]at this,qP.out⟩
 case round=>
  clear HX4 Yq qP;obtain⟨k,h1,hk,rfl,HT,HS⟩:=hrel;by_cases hk2:k<=200
  ·have hk3:(k:Int)<=200:=by omega
   have hk4:(k:Int)<201:=by omega
   have hk5:(0:Int)<=k:=by omega
   have c1:=HS.out.1.cell k (by omega);have c2:=HS.out.2.1.cell k (by omega);have f1:=HS.out.1.fz k;rw[if_neg (by omega)]at c1;have b1:=fE HX.out (k:Int);have b2:=fE HY.out (k:Int)
   have HK:Hid (∀(u:Int),0<=u->u<=200->upd (λu=>if 1<=u/\ u<(k:Int)then aJ xs u+aJ ys u else aJ xs u) k (aJ xs k+aJ ys k) u=(λu=>if 1<=u/\ u<((k+1:Nat):Int)then aJ xs u+aJ ys u else aJ xs u) u):=by
    intro u _ _;unfold upd;by_cases hu:u=(k:Int)
    ·subst hu;rw[if_pos rfl];show _=if _ then _ else _;rw[if_pos ⟨by omega,by omega⟩]
    ·rw[if_neg hu];show(if _ then _ else _)=if _ then _ else _
     by_cases hc:1<=u/\ u<(k:Int)
     ·rw[if_pos hc,if_pos ⟨hc.1,by omega⟩]
     ·rw[if_neg hc,if_neg (λhd=>hc ⟨hd.1,by omega⟩)]
   have HY9:Hid (∀z,(wr.drew.setCell ⟨w1.heap.size,k,none⟩ z).cell? ⟨by',k,none⟩=some (.int .i64 (aJ ys k))):=λz=>((show Row wr.drew by' _ from HS.out.2.1).far (by omega) _ _).cell k (by omega)
   have HP:Hid (∀(u:Int),1<=u->u<((k+1:Nat):Int)->(0<=aJ xs k+aJ ys k/\ aJ xs k+aJ ys k<=10000)->0<=aJ xs u+aJ ys u/\ aJ xs u+aJ ys u<=10000):=by
    intro u h2 h3 h4;by_cases hu:u=(k:Int)
    ·subst hu;exact h4
    ·exact HT.out u h2 (by omega)
   have HN:Hid (¬(0<=aJ xs k+aJ ys k/\ aJ xs k+aJ ys k<=10000)->R=([],8)):=λh=>by rw[<-HR.out];exact O7 (f:=(λx y=>x+y)) rfl HX.out HY.out k h
   obtain⟨p,hp⟩:∃p,p=aJ xs k:=⟨_,rfl⟩;obtain⟨q,hq⟩:∃q,q=aJ ys k:=⟨_,rfl⟩;rw[<-hp]at c1 b1 HK HP HN;rw[<-hq]at c2 b2 HK HP HN HY9;obtain⟨b1,b3⟩:=b1;obtain⟨b2,b4⟩:=b2;have ws:IntKind.i64.wrap (p+q)=p+q:=IntWalk.i64_in _ ⟨by omega,by omega⟩;clear hp hq hk2;go_upto_region 8 with(fail)
   refine wp_region_held_drew (S:=λw'=>w'.cell? ⟨by',k,none⟩=some (.int .i64 q)) (by kernel_rfl) c2 (λhH=>?_);refine aQ 0 hH ?_;try simp only[ax]
   refine aQ 1 hH ?_;try simp only[ax]
   refine aQ 2 hH ?_;try simp only[ax]
   refine aQ 4 hH ?_;try simp only[ax]
   refine aQ 5 hH ?_;try simp only[ax]
   refine aQ 6 hH ?_;try simp only[ax]
   refine ah 3 rfl (by kernel_rfl) (λK hK=>?_);go_simp;refine hK.out _ _ c2 (λh2=>?_);clear hK K hH;have hH:=h2;clear h2
   try simp only[ax]
   refine aQ 7 hH ?_;try simp only[ax]
   refine aQ 8 hH ?_;try simp only[ax]
   refine ah 9 rfl (by kernel_rfl) (λK hK=>?_);go_simp;refine hK.out _ _ (HY9.out _) (λh2=>?_);clear hK K hH h2
   try simp only[ax]
   refine wpAnyH_done (by kernel_rfl) ?_ _
   clear c2 f1;have oP:Hid (Below w.heap.size w (wr.drew.setCell ⟨w1.heap.size,k,none⟩ (.int .i64 (p+q)))):=HS.out.2.2.drew.setCell hx2 _;by_cases g:10000<p+q
   ·have g1:decide (10000<p+q)=true:=decide_eq_true g;have HR2:Hid (R=([],8)):=HN.out (by omega);clear HN HP HT HK g ws;go_wp2;go_ret2;exact⟨none,0,0,by rw[HR2.out];rfl,by rw[HR2.out];exact Ml.zero _,oP.out⟩
   ·have g1:decide (10000<p+q)=false:=decide_eq_false g;have HG:Hid (0<=p+q/\ p+q<=10000):=by show _/\ _;omega
    clear g;go_wp2_with fail;go_roundw
    case rel=>exact⟨k+1,by omega,by omega,by go_num,λu h2 h3=>HP.out u h2 h3 HG.out,((show Row wr.drew w1.heap.size _ from HS.out.1).set k (by omega) (p+q)).congr HK.out,(show Row wr.drew by' _ from HS.out.2.1).far (by omega) _ _,oP.out⟩
    case measure=>simp[intOf];omega
  ·obtain rfl:k=201:=by omega
   obtain⟨G,hG⟩:∃G:Int->Int,G=λu=>if 1<=u/\ u<((201:Nat):Int)then aJ xs u+aJ ys u else aJ xs u:=⟨_,rfl⟩
   have hG1:∀v,1<=v->v<=200->G v=aJ xs v+aJ ys v:=λv h1 h2=>by rw[hG];show(if _ then _ else _)=_;rw[if_pos ⟨h1,by omega⟩]
   have HQ:Hid (R=(Xi G,0)):=by
    rw[Hid,<-HR.out];exact Tx (f:=(λx y=>x+y)) rfl HX.out HY.out (λv h1 h2=>HT.out v h1 (by omega)) hG1
   have HI:Hid (∀v,1<=v->v<=200->gQ (G v)):=λv h1 h2=>by
    rw[hG1 v h1 h2];have:=HT.out v h1 (by omega);unfold gQ;omega
   have H1:Hid (Row wr w1.heap.size G):=by rw[hG];exact HS.out.1
   have og:=hid HS.out.2.2;clear hG hG1 HT HS HX HY HR hk2;go_wp2_with (refine nP rfl (.tmp 6) rfl _ rfl _ H1.out ?_);refine(V8 G HI.out _).mono ?_;rintro e w9 ⟨qo,n,cap,rfl,hM,hB⟩;have HM:=hid hM;have xD:=hid (Below.steps og.out hB);clear hM hB og;go_wp2_with fail;go_ret2;exact⟨_,_,_,by rw[HQ.out];rfl,by rw[HQ.out];exact HM.out,xD.out⟩
theorem JJ [Ol] {a0 b0:Option Addr} {la ca lc cc:Nat} {xs ys:List (Int×Int)} {w:World} (ha:Ml w a0 la ca xs) (hb:Ml w b0 lc cc ys):
  Calls Tryz.prog 145 #[a0e a0 la ca,a0e b0 lc cc] w (wP w (kU (λx y=>x+y) 8 xs ys).1 (kU (λx y=>x+y) 8 xs ys).2):=by
 cases hx:aZ 0 xs with
 |false=>rw[show kU (λx y=>x+y) 8 xs ys=([],2)from if_neg (by simp[hx])];exact IU ha hx
 |true=>
  cases hy:aZ 0 ys with
  |false=>rw[show kU (λx y=>x+y) 8 xs ys=([],2)from if_neg (by simp[hy])];exact IV ha hb hx hy
  |true=>exact IW ha hb hx hy _ rfl
end Go.Proofs.YtmenbpmciblnlaaGreatDoor

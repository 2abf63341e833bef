/- Ml, MMay, MSame, MEn, MRow, MExps, MOf, MRTimes -/
import Derived.Test.YtmenbpmciblnlaaGreatDoorMPlain
import Derived.Laws.AppendOwnNone
import Derived.Deep.QuietTactic
import Derived.BigQuiet
import Derived.Test.YtmenbpmciblnlaaGreatDoorGSt
import Derived.Deep.WholeRow
import Derived.Deep.MidRow
import Derived.Deep.Cut
import Derived.Deep.CutRange
set_option maxHeartbeats 40000000
set_option maxRecDepth 100000
namespace Go.Proofs.YtmenbpmciblnlaaGreatDoor
open Go.RowKit
def jL (z:Int):Prop:= -9223372036854775808<=z/\ z<=9223372036854775807
structure Ml [Ol] (w:World) (ao:Option Addr) (n cap:Nat) (ps:List (Int×Int)):Prop where
 len:ps.length=n
 le:n<=cap
 big:n<=8796093022208
 wf:∀p∈ps,jL p.1/\ jL p.2
 nil:ao=none->cap=0
 cells:∀ad,ao=some ad->∀t,t<n->w.cell? (ad.add (t*2))=some (.int .i64 (ps.getD t (0,0)).1)/\ w.cell? (ad.add (t*2+1))=some (.int .i64 (ps.getD t (0,0)).2)
 kp:0<n->∀ad,ao=some ad->Kp w ad.block
theorem Ml.at [Ol] {w:World} {ao:Option Addr} {n cap:Nat} {ps:List (Int×Int)} (h:Ml w ao n cap ps) (hn:0<n):
  ∃b off,ao=some ⟨b,off,none⟩/\ b<w.heap.size/\∀t,t<n->w.cell? ⟨b,off+t*2,none⟩=some (.int .i64 (ps.getD t (0,0)).1)/\ w.cell? ⟨b,off+t*2+1,none⟩=some (.int .i64 (ps.getD t (0,0)).2):=by
 cases hao:ao with
 |none=>have:=h.nil hao;have:=h.le;omega
 |some ad=>
  obtain⟨b,off,s⟩:=ad;have h0:=(h.cells _ hao 0 hn).1;have hs:s=none:=by simpa[Addr.add]using World.cell?_spot h0
  subst hs;refine⟨b,off,rfl,?_,fun t ht=>?_⟩
  ·simpa[Addr.add]using World.block_lt_of_cell? w _ h0
  ·have:=h.cells _ hao t ht;rw[Addr.add_lit,Addr.add_lit,<-Nat.add_assoc]at this;exact this
theorem Ml.of_cells [Ol] {w:World} {b off n cap:Nat} {ps:List (Int×Int)} (h1:ps.length=n) (h2:n<=cap) (h3:n<=8796093022208) (h4:∀p∈ps,jL p.1/\ jL p.2) (h5:0<n->Kp w b)
  (hc:∀t,t<n->w.cell? ⟨b,off+t*2,none⟩=some (.int .i64 (ps.getD t (0,0)).1)/\ w.cell? ⟨b,off+t*2+1,none⟩=some (.int .i64 (ps.getD t (0,0)).2)):Ml w (some ⟨b,off,none⟩) n cap ps:=
 ⟨h1,h2,h3,h4,(fun h=>by cases h),fun ad had t ht=>by cases had;rw[Addr.add_lit,Addr.add_lit,<-Nat.add_assoc];exact hc t ht,fun h0 ad had=>by cases had;exact h5 h0⟩
theorem Ml.blt [Ol] {w:World} {ao:Option Addr} {n cap:Nat} {ps:List (Int×Int)} (h:Ml w ao n cap ps) (h0:0<n) {ad:Addr} (had:ao=some ad):ad.block<w.heap.size:=by
 obtain⟨b,off,e,hb,_⟩:=h.at h0;rw[e]at had;cases had;exact hb
theorem Ml.int [Ol] {w:World} {ao:Option Addr} {n cap:Nat} {ps:List (Int×Int)} (h:Ml w ao n cap ps) (h0:0<n) {ad:Addr} (had:ao=some ad):∃x,w.cell? ad=some (.int .i64 x):=by
 obtain⟨b,off,e,hb,hc⟩:=h.at h0;rw[e]at had;cases had;exact⟨_,(hc 0 h0).1⟩
theorem Ml.zero [Ol] (w:World):Ml w none 0 0 []:=
 ⟨rfl,Nat.le_refl _,by omega,(fun _ h=>by cases h),(fun _=>rfl),(fun _ h=>by cases h),fun _ _ h=>by cases h⟩
theorem Ml.below [Ol] {w w':World} {ao:Option Addr} {n cap:Nat} {ps:List (Int×Int)} (h:Ml w ao n cap ps) (hb:Below w.heap.size w w'):Ml w' ao n cap ps:=
 ⟨h.len,h.le,h.big,h.wf,h.nil,fun ad had t ht=>by
  have h0:=h.cells ad had t ht;rw[hb.cell (World.block_lt_of_cell? w _ h0.1),hb.cell (World.block_lt_of_cell? w _ h0.2)];exact h0,fun h0 ad had=>(h.kp h0 ad had).keep (hb.block _ (h.blt h0 had))⟩
theorem Ml.empty [Ol] {w:World} {ao:Option Addr} {n cap:Nat} {ps:List (Int×Int)} (h:Ml w ao n cap ps) (hn:n=0):ps=[]:=List.eq_nil_of_length_eq_zero (by rw[h.len,hn])
theorem Ml.PS {ps:List (Int×Int)} {t:Nat} (h:t<ps.length):ps.getD t (0,0)∈ps:=by
 simp only[List.getD,List.getElem?_eq_getElem h,Option.getD_some];exact List.getElem_mem h
theorem Sw [Ol] {w:World} {b off n cap:Nat} {p:Int×Int} {r:List (Int×Int)} (h:Ml w (some ⟨b,off,none⟩) (n+1) cap (p::r)):Ml w (some ⟨b,off+2,none⟩) n (cap-1) r:=by
 have hle:=h.le;have hlen:=h.len;have hbig:=h.big;simp at hlen;refine Ml.of_cells hlen (by omega) (by omega) (fun q hq=>h.wf q (by simp[hq])) (fun _=>h.kp (by omega) _ rfl) fun t ht=>?_
 have:=h.cells _ rfl (t+1) (by omega);rw[Addr.add_lit,Addr.add_lit]at this;rw[show off+2+t*2=off+(t+1)*2 by omega,show off+(t+1)*2+1=off+((t+1)*2+1)by omega];simpa using this
theorem Py [Ol] {w:World} {ao:Option Addr} {n cap:Nat} {p:Int×Int} {r:List (Int×Int)} (h:Ml w ao (n+1) cap (p::r)) (hc:cap=1):Ml w ao 0 0 r/\ n=0:=by
 have hle:=h.le;have hlen:=h.len;simp at hlen;have hn:n=0:=by omega
 have hr:r=[]:=List.eq_nil_of_length_eq_zero (by omega);subst hr;exact⟨⟨rfl,Nat.le_refl _,by omega,(fun _ h=>by cases h),(fun _=>rfl),(fun _ _ t ht=>by omega),fun h0=>by omega⟩,hn⟩
def eP:List (Int×Int)->List Value
 |[]=>[]
 |p::r=> .int .i64 p.1:: .int .i64 p.2::eP r
theorem kD:∀ps:List (Int×Int),(eP ps).length=ps.length*2
 |[]=>rfl
 |p::r=>by simp[eP,kD r];omega
theorem mX:∀xs ys:List (Int×Int),eP (xs++ys)=eP xs++eP ys
 |[],_=>rfl
 |p::r,ys=>by simp[eP,mX r ys]
theorem tK:∀(ps:List (Int×Int)) (t:Nat),t<ps.length->(eP ps)[t*2]? =some (.int .i64 (ps.getD t (0,0)).1)/\ (eP ps)[t*2+1]? =some (.int .i64 (ps.getD t (0,0)).2)
 |[],_,h=>by simp at h
 |p::r,0,_=>by simp[eP]
 |p::r,t+1,h=>by
  have ih:=tK r t (by simpa using h);rw[show(t+1)*2=t*2+1+1 by omega];simpa[eP]using ih
theorem oM:∀(ps:List (Int×Int)),∀v∈eP ps,v.oneCell'=true
 |[],_,h=>by cases h
 |p::r,v,h=>by
  simp only[eP,List.mem_cons]at h;rcases h with rfl|rfl|h
  ·rfl
  ·rfl
  ·exact oM r v h
structure Mo (B:Nat) (w:World) (ao:Option Addr) (n cap:Nat) (ps:List (Int×Int)):Prop where
 row:w.ownsRow B 72 2 (.slice ao n cap) n (eP ps)
 big:n<=8796093022208
 wf:∀p∈ps,jL p.1/\ jL p.2
theorem Mo.nil (B:Nat) (w:World):Mo B w none 0 0 []:=
 ⟨World.ownsRow_nil _ _ _ _,by omega,fun _ h=>by cases h⟩
theorem Mo.len {B:Nat} {w:World} {ao:Option Addr} {n cap:Nat} {ps:List (Int×Int)} (h:Mo B w ao n cap ps):ps.length=n:=by
 have:=h.row.1;rw[kD]at this;omega
theorem Mo.parts {B:Nat} {w:World} {ao:Option Addr} {n cap:Nat} {ps:List (Int×Int)} (h:Mo B w ao n cap ps):
  (ao=none/\ n=0/\ cap=0/\ ps=[])∨ ∃g cur,ao=some ⟨g,0,none⟩/\ B<=g/\ g<w.heap.size/\ n<=cap/\ w.heap[g]? =some (.cells cur 72 (0,0)):=by
 rcases h.row.2 with⟨hv,h0⟩|⟨g,cap',cur,hv,hg,hh,hn,_⟩
 ·simp only[Value.slice.injEq]at hv;exact .inl ⟨hv.1,hv.2.1,hv.2.2,List.eq_nil_of_length_eq_zero (by rw[h.len,h0])⟩
 ·simp only[Value.slice.injEq,true_and]at hv;obtain⟨rfl,rfl⟩:=hv;exact .inr ⟨g,cur,rfl,hg,lt_of_block hh,hn,hh⟩
theorem Mo.ml [Ol] {B:Nat} {w:World} {ao:Option Addr} {n cap:Nat} {ps:List (Int×Int)} (h:Mo B w ao n cap ps):Ml w ao n cap ps:=by
 rcases h.parts with⟨rfl,rfl,rfl,rfl⟩|⟨g,cur,rfl,hg,hlt,hn,hcur⟩
 ·exact Ml.zero w
 ·refine Ml.of_cells h.len hn h.big h.wf (fun _=>Kp.mk hcur (by decide)) fun t ht=>?_
  have h2:=tK ps t (by rw[h.len];exact ht);rw[Nat.zero_add,h.row.cellAt (t*2) (by omega),h.row.cellAt (t*2+1) (by omega)];exact h2
theorem Mo.below {B:Nat} {w w':World} {ao:Option Addr} {n cap:Nat} {ps:List (Int×Int)} (h:Mo B w ao n cap ps) (hb:Below w.heap.size w w'):Mo B w' ao n cap ps:=by
 refine⟨⟨h.row.1,?_⟩,h.big,h.wf⟩;rcases h.row.2 with h2|⟨g,cap',cur,hv,hg,hh,r⟩
 ·exact .inl h2
 ·exact .inr ⟨g,cap',cur,hv,hg,by rw[hb.block g (lt_of_block hh)];exact hh,r⟩
theorem Mo.keep {B:Nat} {w w':World} {ao:Option Addr} {n cap:Nat} {ps:List (Int×Int)} (h:Mo B w ao n cap ps) (hb:∀a,ao=some a->w'.heap[a.block]? =w.heap[a.block]?):Mo B w' ao n cap ps:=by
 refine⟨⟨h.row.1,?_⟩,h.big,h.wf⟩;rcases h.row.2 with h2|⟨g,cap',cur,hv,hg,hh,r⟩
 ·exact .inl h2
 ·simp only[Value.slice.injEq,true_and]at hv;obtain⟨rfl,rfl⟩:=hv;exact .inr ⟨g,cap,cur,rfl,hg,by rw[hb _ rfl];exact hh,r⟩
theorem Mo.mono {B B':Nat} {w:World} {ao:Option Addr} {n cap:Nat} {ps:List (Int×Int)} (h:Mo B w ao n cap ps) (hB:B'<=B):Mo B' w ao n cap ps:=by
 refine⟨⟨h.row.1,?_⟩,h.big,h.wf⟩;rcases h.row.2 with h2|⟨g,cap',cur,hv,hg,r⟩
 ·exact .inl h2
 ·exact .inr ⟨g,cap',cur,hv,by omega,r⟩
def YK [Ol] (w:World) (ps:List (Int×Int)) (e:Ending) (w':World):Prop:=
 ∃ao n cap,e= .returned (.slice ao n cap)/\ Ml w' ao n cap ps/\ Below w.heap.size w w'
def JA [Ol] (w:World) (ps:List (Int×Int)) (er:Int) (e:Ending) (w':World):Prop:=
 ∃ao n cap,e= .returned (.tuple #[.slice ao n cap,.int .i64 er])/\ Ml w' ao n cap ps/\ Below w.heap.size w w'
theorem Tryz.yw:(Tryz.prog.info? 72).map (fun i=>(i.zero,i.size,i.bytes))=some (some (.agg #[.int .i64 0,.int .i64 0]),2,16):=by kernel_rfl
theorem pY {w:World} {base:Nat} {e:TypeId} {v:Value} {n s:Nat} {xs:List Value} (h:w.ownsRow base e s v n xs):∃ao cap,v= .slice ao n cap:=by
 rcases h.2 with⟨hv,h0⟩|⟨g,cap,cur,hv,_⟩
 ·exact⟨none,0,by rw[hv,h0]⟩
 ·exact⟨_,_,hv⟩
theorem Dr {P:Program} (w w0:World) {ops:Array Oper} {rest:List Oper} {o:Oper} {a:Act} {Q:Exit->Act->World->Prop}
  (hg:o.guard=none) (s x:Operand) (t:TypeId) (hop:o.op=Op.call { callee:=Callee.builtin Builtin.append,args:= #[s,x],argTypes:= #[t,t] })
  (base:Nat) (i:TypeInfo) (z:Value) (h1:P.underlying t=some (.slice 72)) (h2:P.info? 72=some i) (h3:i.zero=some z) (h4:i.size=2) (h5:i.bytes=16) (h6:z.cells.size=2)
  (ao:Option Addr) (n cap:Nat) (ps:List (Int×Int)) (hs:a.eval s= .slice ao n cap) (hown:Mo base w ao n cap ps)
  (u v:Int) (hu:jL u) (hv:jL v) (tt:TypeId) (hx:a.eval x= .slice (some ⟨w.heap.size,0,none⟩) 1 1) (hb:Below base w0 w) (hbase:base<=w.heap.size) (b1:n+1<=8796093022208)
  (hK:∀iB cap' w',Mo base w' iB (n+1) cap' (ps++[(u,v)])->Below base w0 w'->(w.alloc (.cells #[.int .i64 u,.int .i64 v] tt)).grownBy w' (Value.slice ao n cap).ownBlock->wpList P ops Q rest (a.put o.dst (.slice iB (n+1) cap')) w'):
  wpList P ops Q (o::rest) a (w.alloc (.cells #[.int .i64 u,.int .i64 v] tt)):=by
 have ho1:=hown.row.alloc (.cells #[.int .i64 u,.int .i64 v] tt);refine wpList_append_own _ hg s x t hop base 72 i z 2 16 h1 h2 h3 h4 h5 h6 (by decide) _ n (eP ps) hs ho1 ⟨w.heap.size,0,none⟩ 1 1 (eP [(u,v)]) hx rfl ?_ (oM _) (by unfold maxLen;omega) (by omega) (by simp;omega) ?_
 ·intro j q hj
  match j,hj with
  |0,hj=>
   simp[eP]at hj;subst hj;simp[Addr.add]
  |1,hj=>
   simp[eP]at hj;subst hj;simp[Addr.add]
  |j+2,hj=>simp[eP]at hj
 ·intro v' w' hown' hgrow _;obtain⟨iB,cap',rfl⟩:=pY hown';refine hK iB cap' w' ⟨by rw[mX];exact hown',b1,fun p hp=>?_⟩ ((hb.alloc hbase _).grown hgrow (by simp;omega) fun k hk=>(ho1.lt k hk).1) hgrow;rcases List.mem_append.1 hp with hp|hp
  ·exact hown.wf p hp
  ·simp at hp;subst hp;exact⟨hu,hv⟩
open Lib (hid)
theorem IA {lo:Int} {p:Int×Int} (h1:lo<p.1) (h2:p.1<=200) (h3:1<=p.2) (h4:p.2<=10000):DL lo p=true:=by unfold DL;simp[h1,h2,h3,h4]
theorem mG [Ol] (r:Bool) {ao:Option Addr} {n cap:Nat} {ps:List (Int×Int)} {w:World} (h:Ml w ao n cap ps) (hr:bA 0 ps=r):
  Calls Tryz.prog 44 #[.slice ao n cap] w (dI (.bool r) w):=by
 have hle:=h.le;have hbig:=h.big;have HM:=hid h;clear h;go_enter Tryz.func44,Tryz.ntmps44;go_wp2;go_loopw [3] (fun i wr=>∃k:Nat,k<=n/\ i= .int .i64 k/\ Hid (0<=Sv ps k)/\ Hid (bA (Sv ps k) (ps.drop k)=r)/\ Hid (Ml wr ao n cap ps/\ Below w.heap.size w wr)) (fun i _=>n-(intOf i).toNat)
 case atStart=>exact⟨0,Nat.zero_le _,rfl,Int.le_refl 0,by rw[Hid,List.drop_zero];exact hr,HM.out,Below.refl _ _⟩
 case round=>
  clear HM;obtain⟨k,hk,rfl,HL,HR,HS⟩:=hrel;have HM:=hid HS.out.1;by_cases hkn:k<n
  ·obtain⟨b,off,rfl,hb,hc⟩:=HM.out.at (by omega);obtain⟨c1,c2⟩:=hc k hkn;have HR2:=hid ((BU ps k (Sv ps k) (by rw[HM.out.len];exact hkn)).symm.trans HR.out);clear HR;obtain⟨v,hv⟩:∃v,v=(ps.getD k (0,0)).1:=⟨_,rfl⟩;obtain⟨e,he⟩:∃v,v=(ps.getD k (0,0)).2:=⟨_,rfl⟩;rw[<-hv]at c1;rw[<-he]at c2;have HV:=hid hv;have HE:=hid he;have HC:=hid hc;clear hv he hc;by_cases g0:v<1
   ·have f0:decide (v<1)=true:=decide_eq_true (by omega)
    skip
    go_wp2;go_ret;exact⟨iM (by rw[<-HR2.out];unfold DL;rw[<-HV.out,<-HE.out];have:=HL.out;simp;omega),HS.out.2⟩
   ·have f0:decide (v<1)=false:=decide_eq_false (by omega);by_cases g1:200<v
    ·have f1:decide (200<v)=true:=decide_eq_true (by omega)
     skip
     go_wp2;go_ret;exact⟨iM (by rw[<-HR2.out];unfold DL;rw[<-HV.out,<-HE.out];have:=HL.out;simp;omega),HS.out.2⟩
    ·have f1:decide (200<v)=false:=decide_eq_false (by omega);by_cases g2:e<1
     ·have f2:decide (e<1)=true:=decide_eq_true (by omega)
      skip
      go_wp2;go_ret;exact⟨iM (by rw[<-HR2.out];unfold DL;rw[<-HV.out,<-HE.out];have:=HL.out;simp;omega),HS.out.2⟩
     ·have f2:decide (e<1)=false:=decide_eq_false (by omega);by_cases g3:10000<e
      ·have f3:decide (10000<e)=true:=decide_eq_true (by omega)
       skip
       go_wp2;go_ret;exact⟨iM (by rw[<-HR2.out];unfold DL;rw[<-HV.out,<-HE.out];have:=HL.out;simp;omega),HS.out.2⟩
      ·have f3:decide (10000<e)=false:=decide_eq_false (by omega);by_cases hk0:k=0
       ·subst hk0;simp only[Nat.zero_mul,Nat.add_zero]at c1 c2;go_wp2;go_quiet (fail);go_wp2;go_roundw
        case rel=>exact⟨1,by omega,by go_num,by show 0<=(ps.getD 0 (0,0)).1;rw[<-HV.out];omega,by rw[Hid,<-HR2.out,IA (show Sv ps 0<_ by rw[<-HV.out];show(0:Int)<v;omega) (by rw[<-HV.out];omega) (by rw[<-HE.out];omega) (by rw[<-HE.out];omega)];rfl,HM.out.below (_root_.Go.below_drewN (Below.refl _ _) _),HS.out.2.trans (_root_.Go.below_drewN (Below.refl _ _) _)⟩
        case measure=>simp[intOf];omega
       ·obtain⟨j,rfl⟩:∃j,k=j+1:=⟨k-1,by omega⟩;obtain⟨c3,_⟩:=HC.out j (by omega);obtain⟨u,hu⟩:∃v,v=(ps.getD j (0,0)).1:=⟨_,rfl⟩;rw[<-hu]at c3;have HU:Hid (Sv ps (j+1)=u):=hu.symm;clear hu;have j1:((j+1:Nat):Int)-1=(j:Int):=by omega
        have j2:j<n:=by omega
        have j3:IntKind.i64.wrap (((j+1:Nat):Int)-1)=(j:Int):=by rw[j1];exact IntWalk.i64_in _ ⟨by omega,by omega⟩
        by_cases g5:v<=u
        ·have f5:decide (v<=u)=true:=decide_eq_true g5;go_wp2;go_quiet (fail);go_wp2;go_ret;exact⟨iM (by rw[<-HR2.out,HU.out];unfold DL;rw[<-HV.out];simp;omega),HS.out.2.trans (_root_.Go.below_drewN (Below.refl _ _) _)⟩
        ·have f5:decide (v<=u)=false:=decide_eq_false g5;go_wp2;go_quiet (fail);go_wp2;go_roundw
         case rel=>exact⟨j+2,by omega,by go_num,by show 0<=(ps.getD (j+1) (0,0)).1;rw[<-HV.out];omega,by rw[Hid,<-HR2.out,IA (show Sv ps (j+1)<_ by rw[<-HV.out,HU.out];omega) (by rw[<-HV.out];omega) (by rw[<-HE.out];omega) (by rw[<-HE.out];omega)];rfl,HM.out.below (_root_.Go.below_drewN (Below.refl _ _) _),HS.out.2.trans (_root_.Go.below_drewN (Below.refl _ _) _)⟩
         case measure=>simp[intOf];omega
  ·obtain rfl:k=n:=by omega
   go_wp2;go_ret;have e2:=HR.out;rw[List.drop_eq_nil_of_le (by rw[HM.out.len];exact Nat.le_refl _)]at e2;exact⟨iM (by rw[<-e2];rfl),HS.out.2⟩
open Lib (hid)
theorem LX [Ol] {a0 b0:Option Addr} {la ca lb cb:Nat} {xs ys:List (Int×Int)} {w:World} (ha:Ml w a0 la ca xs) (hb:Ml w b0 lb cb ys) (h:xs=ys):
  Calls Tryz.prog 67 #[.slice a0 la ca,.slice b0 lb cb] w (dI (.bool true) w):=by
 subst h;obtain rfl:la=lb:=by rw[<-ha.len,hb.len]
 have hle:=ha.le;have hle2:=hb.le;have hbig:=ha.big;have HA:=hid ha;have HB:=hid hb;clear ha hb;go_enter Tryz.func67,Tryz.ntmps67;go_wp2;go_loopw [5] (fun i wr=>∃k:Nat,k<=la/\ i= .int .i64 k/\ Hid (Ml wr a0 la ca xs/\ Ml wr b0 la cb xs/\ Below w.heap.size w wr)) (fun i _=>la-(intOf i).toNat)
 case atStart=>exact⟨0,Nat.zero_le _,rfl,HA.out,HB.out,Below.refl _ _⟩
 case round=>
  clear HA HB;obtain⟨k,hk,rfl,HS⟩:=hrel;by_cases hkn:k<la
  ·obtain⟨b,off,rfl,hlt,hc⟩:=HS.out.1.at (by omega);obtain⟨c1,c2⟩:=hc k hkn;clear hc;obtain⟨b2,off2,rfl,hlt2,hc⟩:=HS.out.2.1.at (by omega);obtain⟨c3,c4⟩:=hc k hkn;clear hc;obtain⟨v,hv⟩:∃v,v=(xs.getD k (0,0)).1:=⟨_,rfl⟩;obtain⟨e,he⟩:∃v,v=(xs.getD k (0,0)).2:=⟨_,rfl⟩;rw[<-hv]at c1 c3;rw[<-he]at c2 c4;clear hv he;go_wp2;go_quiet (fail);go_wp2;go_roundw
   case rel=>exact⟨k+1,by omega,by go_num,HS.out.1.below (_root_.Go.below_drewN (Below.refl _ _) _),HS.out.2.1.below (_root_.Go.below_drewN (Below.refl _ _) _),HS.out.2.2.trans (_root_.Go.below_drewN (Below.refl _ _) _)⟩
   case measure=>simp[intOf];omega
  ·obtain rfl:k=la:=by omega
   go_wp2;go_ret;exact⟨rfl,HS.out.2.2⟩
theorem SC {xs ys:List (Int×Int)} {k:Nat} (h1:k<xs.length) (h2:k<ys.length) (h:xs.drop k≠ys.drop k) (he:xs.getD k (0,0)=ys.getD k (0,0)):xs.drop (k+1)≠ys.drop (k+1):=by
 intro hd;refine h ?_;rw[List.drop_eq_getElem_cons h1,List.drop_eq_getElem_cons h2,hd]
 congr 1
 simpa[List.getD,List.getElem?_eq_getElem h1,List.getElem?_eq_getElem h2]using he
theorem PU [Ol] {a0 b0:Option Addr} {la ca lb cb:Nat} {xs ys:List (Int×Int)} {w:World} (ha:Ml w a0 la ca xs) (hb:Ml w b0 lb cb ys) (h:xs≠ys):
  Calls Tryz.prog 67 #[.slice a0 la ca,.slice b0 lb cb] w (dI (.bool false) w):=by
 by_cases hl:la=lb
 ·subst hl;have hle:=ha.le;have hle2:=hb.le;have hbig:=ha.big;have HN:=hid h;have HA:=hid ha;have HB:=hid hb;clear ha hb h;go_enter Tryz.func67,Tryz.ntmps67;go_wp2;go_loopw [5] (fun i wr=>∃k:Nat,k<=la/\ i= .int .i64 k/\ Hid (xs.drop k≠ys.drop k)/\ Hid (Ml wr a0 la ca xs/\ Ml wr b0 la cb ys/\ Below w.heap.size w wr)) (fun i _=>la-(intOf i).toNat)
  case atStart=>exact⟨0,Nat.zero_le _,rfl,by rw[Hid];simpa using HN.out,HA.out,HB.out,Below.refl _ _⟩
  case round=>
   clear HA HB HN;obtain⟨k,hk,rfl,HD,HS⟩:=hrel
   have hkn:k<la:=by
    rcases Nat.lt_or_ge k la with h|h
    ·exact h
    ·exact absurd (by rw[List.drop_eq_nil_of_le (by rw[HS.out.1.len];exact h),List.drop_eq_nil_of_le (by rw[HS.out.2.1.len];exact h)]) HD.out
   obtain⟨b,off,rfl,hlt,hc⟩:=HS.out.1.at (by omega);obtain⟨c1,c2⟩:=hc k hkn;clear hc;obtain⟨b2,off2,rfl,hlt2,hc⟩:=HS.out.2.1.at (by omega);obtain⟨c3,c4⟩:=hc k hkn;clear hc;have HD2:=hid (SC (by rw[HS.out.1.len];exact hkn) (by rw[HS.out.2.1.len];exact hkn) HD.out);obtain⟨v,hv⟩:∃v,v=(xs.getD k (0,0)).1:=⟨_,rfl⟩;obtain⟨e,he⟩:∃v,v=(xs.getD k (0,0)).2:=⟨_,rfl⟩;obtain⟨v2,hv2⟩:∃v,v=(ys.getD k (0,0)).1:=⟨_,rfl⟩;obtain⟨e2,he2⟩:∃v,v=(ys.getD k (0,0)).2:=⟨_,rfl⟩;rw[<-hv]at c1;rw[<-he]at c2;rw[<-hv2]at c3;rw[<-he2]at c4;have HQ:Hid (v=v2->e=e2->xs.getD k (0,0)=ys.getD k (0,0)):=fun h1 h2=>Prod.ext (by rw[<-hv,<-hv2,h1]) (by rw[<-he,<-he2,h2])
   clear hv he hv2 he2;by_cases g1:v=v2
   ·subst g1;by_cases g2:e=e2
    ·subst g2;go_wp2;go_quiet (fail);go_wp2;go_roundw
     case rel=>exact⟨k+1,by omega,by go_num,HD2.out (HQ.out (by simp) (by simp)),HS.out.1.below (_root_.Go.below_drewN (Below.refl _ _) _),HS.out.2.1.below (_root_.Go.below_drewN (Below.refl _ _) _),HS.out.2.2.trans (_root_.Go.below_drewN (Below.refl _ _) _)⟩
     case measure=>simp[intOf];omega
    ·clear HD2 HQ;have f1:(e==e2)=false:=by simpa using g2
     clear g2;go_wp2;go_quiet (fail);go_wp2;go_ret;exact⟨rfl,HS.out.2.2.trans (_root_.Go.below_drewN (Below.refl _ _) _)⟩
   ·clear HD2 HQ;have f1:(v==v2)=false:=by simpa using g1
    clear g1;go_wp2;go_quiet (fail);go_wp2;go_ret;exact⟨rfl,HS.out.2.2.trans (_root_.Go.below_drewN (Below.refl _ _) _)⟩
 ·have f1:((la:Int)==(lb:Int))=false:=by simp;omega
  have f2:((la:Int) !=(lb:Int))=true:=by simp;omega
  go_enter Tryz.func67,Tryz.ntmps67;go_wp2;go_ret;exact⟨rfl,Below.refl _ _⟩
theorem KQ [Ol] (r:Bool) {a0 b0:Option Addr} {la ca lb cb:Nat} {xs ys:List (Int×Int)} {w:World} (ha:Ml w a0 la ca xs) (hb:Ml w b0 lb cb ys) (h:decide (xs=ys)=r):
  Calls Tryz.prog 67 #[.slice a0 la ca,.slice b0 lb cb] w (dI (.bool r) w):=by
 subst h;by_cases h:xs=ys
 ·rw[decide_eq_true h];exact LX ha hb h
 ·rw[decide_eq_false h];exact PU ha hb h
def IG (ao:Option Addr) (n:Nat) (c:Nat):Prop:=0<n/\∃a,ao=some a/\ a.block=c
theorem tX (a:Addr) (k:Nat):(a.add k).block=a.block:=by unfold Addr.add;split<;>rfl
theorem VE [Ol] {ao:Option Addr} {n cap:Nat} {ps:List (Int×Int)} (w w':World) (hh:∀c,IG ao n c->w'.heap[c]? =w.heap[c]?) (h:Ml w ao n cap ps):Ml w' ao n cap ps:=
 ⟨h.len,h.le,h.big,h.wf,h.nil,fun ad had t ht=>
  ⟨(World.cell?_of_block (a:=ad.add (t*2)) (by rw[tX];exact hh _ ⟨by omega,ad,had,rfl⟩)).trans (h.cells ad had t ht).1,
   (World.cell?_of_block (a:=ad.add (t*2+1)) (by rw[tX];exact hh _ ⟨by omega,ad,had,rfl⟩)).trans (h.cells ad had t ht).2⟩,fun h0 ad had=>(h.kp h0 ad had).keep (hh _ ⟨h0,ad,had,rfl⟩)⟩
theorem YN [Ol] {ao:Option Addr} {n cap:Nat} {ps:List (Int×Int)} (w:World) (h:Ml w ao n cap ps) (c:Nat) (hc:IG ao n c):c<w.heap.size:=by
 obtain⟨h0,a,ha,rfl⟩:=hc;have h1:=(h.cells a ha 0 h0).1;have:=World.block_lt_of_cell? w _ h1;rwa[tX]at this
def En.ml [Ol] (ao:Option Addr) (n cap:Nat) (ps:List (Int×Int)):En:=⟨fun w=>Ml w ao n cap ps,IG ao n,VE,fun w h=>YN w h⟩
theorem iJ.ml [Ol] {w:World} {ao:Option Addr} {n cap:Nat} {ps:List (Int×Int)} {r:List En} (h:iJ w (.ml ao n cap ps::r)):Ml w ao n cap ps:=h.1
theorem Sx.ml [Ol] {w0 w:World} {N:List En} (s:Sx w0 w [] N) {ao:Option Addr} {n cap:Nat} {ps:List (Int×Int)} (h:Ml w ao n cap ps):Sx w0 w [] (.ml ao n cap ps::N):=
 s.add (.ml ao n cap ps) h (fun v hv=>by cases hv)
def ku (f:Int->Int):List Value:=(List.range 201).map fun(i:Nat)=>Value.int .i64 (f (i:Int))
def upd (f:Int->Int) (v x:Int) (u:Int):Int:=if u=v then x else f u
theorem gQ (f:Int->Int):(ku f).length=201:=by simp[ku]
theorem qR (f:Int->Int) (i:Nat) (h:i<201):(ku f)[i]? =some (.int .i64 (f (i:Int))):=by simp[ku,h]
theorem PV (f:Int->Int):∀v∈ku f,v.oneCell'=true:=by
 intro v hv;obtain⟨i,_,rfl⟩:=List.mem_map.1 hv;rfl
theorem Ac {f g:Int->Int} (h:∀v,0<=v->v<=200->f v=g v):ku f=ku g:=by
 unfold ku;refine List.map_congr_left fun i hi=>?_
 have:=List.mem_range.1 hi;rw[h i (by omega) (by omega)]
theorem PW (f:Int->Int) (v:Nat) (h:v<201) (x:Int):(ku f).set v (.int .i64 x)=ku (upd f v x):=by
 refine List.ext_getElem? fun j=>?_
 rw[List.getElem?_set];by_cases hj:v=j
 ·subst hj;rw[if_pos rfl,if_pos (by rw[gQ];exact h),qR _ _ h];simp[upd]
 ·rw[if_neg hj];by_cases h2:j<201
  ·rw[qR _ _ h2,qR _ _ h2];unfold upd;rw[if_neg (by omega)]
  ·rw[List.getElem?_eq_none (by rw[gQ];omega),List.getElem?_eq_none (by rw[gQ];omega)]
theorem Tryz.FU:(Tryz.prog.info? 143).map (fun i=>(i.zero,i.size))=some (some (.agg (ku fun _=>0).toArray),201):=by kernel_rfl
theorem vo:∀w,(zeroValue 143).run Tryz.prog w= .ok (.agg (ku fun _=>0).toArray) w:=(zero_of_info Tryz.FU).1
theorem vB:(Tryz.prog.info? 143).map (·.size)=some 201:=(zero_of_info Tryz.FU).2
def Row (w:World) (b:Nat) (f:Int->Int):Prop:=w.heap[b]? =some (.cells (ku f).toArray 143 (0,0))
theorem Row.lt {w:World} {b:Nat} {f:Int->Int} (h:Row w b f):b<w.heap.size:=lt_of_block h
theorem Row.cell {w:World} {b:Nat} {f:Int->Int} (h:Row w b f) (i:Nat) (hi:i<201):w.cell? ⟨b,i,none⟩=some (.int .i64 (f i)):=by
 unfold Row at h;rw[<-qR f i hi];simp[World.cell?,h]
theorem Row.fz {w:World} {b:Nat} {f:Int->Int} (h:Row w b f) (i:Nat):w.frozen? ⟨b,i,none⟩=false:=by
 unfold Row at h;simp[World.frozen?,h]
theorem Row.keep {w w':World} {b:Nat} {f:Int->Int} (h:Row w b f) (e:w'.heap[b]? =w.heap[b]?):Row w' b f:=e.trans h
theorem Row.below {w w':World} {b:Nat} {f:Int->Int} (h:Row w b f) (hb:Below w.heap.size w w'):Row w' b f:=h.keep (hb.block b h.lt)
theorem Row.new (w:World) (f:Int->Int):Row (w.alloc (.cells (ku f).toArray 143)) w.heap.size f:=by
 show(w.heap.push _)[w.heap.size]? =_;rw[Array.getElem?_push_size]
theorem Row.new2 (w:World) (f:Int->Int) (b:Nat) (hb:b=w.heap.size):Row (w.alloc (.cells (ku f).toArray 143)) b f:=by subst hb;exact Row.new w f
theorem Row.set {w:World} {b:Nat} {f:Int->Int} (h:Row w b f) (v:Nat) (hv:v<201) (x:Int):Row (w.setCell ⟨b,v,none⟩ (.int .i64 x)) b (upd f v x):=by
 unfold Row at h ⊢;rw[<-PW f v hv x];simp[World.setCell,Array.getElem?_modify,h]
theorem Row.far {w:World} {b c:Nat} {f:Int->Int} (h:Row w b f) (hc:c≠b) (o:Nat) (u:Value):Row (w.setCell ⟨c,o,none⟩ u) b f:=
 h.keep (Below.heap_setCell _ _ _ _ (fun e=>hc e.symm))
theorem Row.congr {w:World} {b:Nat} {f g:Int->Int} (h:Row w b f) (e:∀v,0<=v->v<=200->f v=g v):Row w b g:=by
 unfold Row at h ⊢;rw[<-Ac e];exact h
theorem Row.put {w:World} {b:Nat} {f:Int->Int} (h:Row w b f) (g:Int->Int):Row (w.setRow b (ku g).toArray) b g:=setRow_heap w b _ _ _ _ h
theorem Row.O4 {w:World} {b c:Nat} {f:Int->Int} (h:Row w b f) (hc:b≠c) (cs:Array Value):Row (w.setRow c cs) b f:=h.keep (setRow_other w c b cs hc)
theorem below_setRow {B:Nat} {a w:World} (h:Below B a w) {g:Nat} (hg:B<=g) (cs:Array Value):Below B a (w.setRow g cs):=
 h.trans ⟨rfl,rfl,rfl,by simp[World.setRow],fun k hk=>setRow_other w g k cs (by omega)⟩
theorem Row.load {w:World} {b:Nat} {f:Int->Int} (h:Row w b f):(loadVar 143 ⟨b,0,none⟩).run Tryz.prog w= .ok (.agg (ku f).toArray) w:=
 run_loadVar_row w b _ 143 _ (0,0) _ h Tryz.underlying143 rfl (by rw[vB];simp[gQ])
theorem mH {w:World} {ops:Array Oper} {rest:List Oper} {op:Oper} {a:Act} {Q:Exit->Act->World->Prop} (hgd:op.guard=none) (x:Operand) (ho:op.op= .load 143 x)
  (b:Nat) (hx:a.eval x= .pointer (some ⟨b,0,none⟩)) (f:Int->Int) (h:Row w b f)
  (hK:wpList Tryz.prog ops Q rest (a.put op.dst (.agg (ku f).toArray)) w):wpList Tryz.prog ops Q (op::rest) a w:=
 wpList_load_mid hgd 143 x ho b 0 hx (ku f) _ (fun j v hv=>by
   rw[Nat.zero_add];have hj:j<201:=by have:=(List.getElem?_eq_some_iff.1 hv).1;rwa[gQ]at this
   rw[h.cell j hj,<-qR f j hj,hv])
  Tryz.underlying143 rfl (by rw[vB,gQ]) hK
theorem gG {w:World} {ops:Array Oper} {rest:List Oper} {op:Oper} {a:Act} {Q:Exit->Act->World->Prop} (hgd:op.guard=none) (x y:Operand) (ho:op.op= .store 143 x y)
  (b:Nat) (hx:a.eval x= .pointer (some ⟨b,0,none⟩)) (f g:Int->Int) (hy:a.eval y= .agg (ku g).toArray) (h:Row w b f)
  (hK:wpList Tryz.prog ops Q rest (a.put op.dst undef) (w.setRow b (ku g).toArray)):wpList Tryz.prog ops Q (op::rest) a w:=by
 refine wpList_plain hgd fun K hK'=>?_
 have hr:=run_storeVar_row (P:=Tryz.prog) w b _ 143 _ (ku g).toArray h (by rw[vB];simp[gQ]) (by simp[gQ]) (all_oneCell_toArray (PV g));unfold Oper.wp execOp;simp only[ho,hx,hy,Instr.storeAt,Instr.sureAddr,Sem.run_bind,Sem.run_pure,Result.andThen_ok,hr];exact hK' _ _ hK
theorem xk {fn:Func} {p:Tmp} (h:fn.results= #[.cell p 143]) (tmps:Array Value) {w:World} {b:Nat} {f:Int->Int} (hr:Row w b f) (hp:tmps.getD p undef= .pointer (some ⟨b,0,none⟩)):(results fn tmps).run Tryz.prog w= .ok (.agg (ku f).toArray) w:=
 results_cell_row h tmps w b _ _ (0,0) _ hp hr Tryz.underlying143 rfl (by rw[vB];simp[gQ])
def VF (w:World) (f:Int->Int) (e:Ending) (w':World):Prop:=e= .returned (.agg (ku f).toArray)/\ Below w.heap.size w w'
open Lib (hid)
theorem VG {ps:List (Int×Int)} (h:bA 0 ps=false) (v:Int):si ps v=0:=by unfold si;rw[Pv h];rfl
theorem uP {ps:List (Int×Int)} (h:bA 0 ps=true):si ps=aH ps:=by funext v;unfold si;rw[rz h]
theorem SE [Ol] {ao:Option Addr} {n cap:Nat} {ps:List (Int×Int)} {w:World} (h:Ml w ao n cap ps) (hr:bA 0 ps=false):
  Calls Tryz.prog 96 #[.slice ao n cap] w (VF w (si ps)):=by
 have zr:=vo;have HM:=hid h;have HR:=hid hr;clear h hr;go_enter Tryz.func96,Tryz.ntmps96;go_upto_region 2 with(fail)
 refine aj (fun W hW=>?_);have HB:Hid (Below w.heap.size w W):=by rw[hW];exact Below.steps (af _ _) (af _ _)
 have H2:Hid (Row W w.heap.size (fun _=>0)):=by rw[hW];exact(Row.new w _).below (af _ _)
 have H3:Hid (Row W (w.heap.size+1) (fun _=>0)):=by rw[hW];exact Row.new2 (w.alloc _) _ _ (by simp)
 clear hW zr;go_wp2_with fail;refine(mG false (HM.out.below HB.out) HR.out).mono ?_;rintro e w1 ⟨rfl,hB⟩;have HB1:=hid (Below.steps HB.out hB);have YO:=hid (H2.out.below hB);have Zo:=hid (H3.out.below hB);clear hB HB H2 H3 HM;go_wp2_with (first|(refine mH rfl (.tmp 3) rfl _ rfl _ Zo.out ?_)|(refine gG rfl (.tmp 2) (.tmp 8) rfl _ rfl _ _ rfl YO.out ?_));refine bodyPost_ret (v:= .agg (ku fun _=>0).toArray) (xk rfl _ (YO.out.put (fun _=>0)) rfl) rfl ⟨?_,below_setRow HB1.out (Nat.le_refl _) _⟩;rw[Ac (fun v _ _=>VG HR.out v)]
theorem LY {ps:List (Int×Int)} (hr:bA 0 ps=true) {k:Nat} (h:k<ps.length) (u:Int):aH (ps.take (k+1)) u=upd (aH (ps.take k)) (ps.getD k (0,0)).1 (ps.getD k (0,0)).2 u:=by
 have hlow:∀q∈ps.take k,q.1<(ps.getD k (0,0)).1:=by
  have H:∀(l:List (Int×Int)) (lo:Int) (k:Nat),bA lo l=true->k<l.length->(lo<(l.getD k (0,0)).1)/\∀q∈l.take k,q.1<(l.getD k (0,0)).1:=by
   intro l;induction l with
   |nil=>intro lo k _ hk;simp at hk
   |cons p r ih=>
    intro lo k hm hk;unfold bA DL at hm;simp only[Bool.and_eq_true,decide_eq_true_eq]at hm;obtain⟨⟨h1,h2,h3,h4⟩,h5⟩:=hm;cases k with
    |zero=>simpa using h1
    |succ k=>
     have:=ih p.1 k h5 (by simpa using hk);refine⟨by have:=this.1;simp at this ⊢;omega,fun q hq=>?_⟩;simp only[List.take_succ_cons,List.mem_cons]at hq;rcases hq with rfl|hq
     ·simpa using this.1
     ·simpa using this.2 q hq
  exact(H ps 0 k hr h).2
 rw[List.take_succ_eq_append_getElem h];have e:ps[k]=((ps.getD k (0,0)).1,(ps.getD k (0,0)).2):=by simp[List.getD,List.getElem?_eq_getElem h]
 rw[e,wB hlow];rfl
theorem PX [Ol] {ao:Option Addr} {n cap:Nat} {ps:List (Int×Int)} {w:World} (h:Ml w ao n cap ps) (hr:bA 0 ps=true):
  Calls Tryz.prog 96 #[.slice ao n cap] w (VF w (aH ps)):=by
 have zr:=vo;have hle:=h.le;have hbig:=h.big;have HM:=hid h;have HR:=hid hr;clear h hr;go_enter Tryz.func96,Tryz.ntmps96;go_upto_region 2 with(fail)
 refine aj (fun W hW=>?_);have HB:Hid (Below w.heap.size w W):=by rw[hW];exact Below.steps (af _ _) (af _ _)
 have H2:Hid (Row W w.heap.size (fun _=>0)):=by rw[hW];exact(Row.new w _).below (af _ _)
 have H3:Hid (Row W (w.heap.size+1) (fun _=>0)):=by rw[hW];exact Row.new2 (w.alloc _) _ _ (by simp)
 clear hW zr;go_wp2_with fail;refine(mG true (HM.out.below HB.out) HR.out).mono ?_;rintro e w1 ⟨rfl,hB⟩;have HB1:=hid (Below.steps HB.out hB);have YO:=hid (H2.out.below hB);have Zo:=hid (H3.out.below hB);clear hB HB H2 H3;go_wp2_with fail;go_loopw [4] (fun i wr=>∃k:Nat,k<=n/\ i= .int .i64 k/\ Hid (Row wr w.heap.size (fun _=>0)/\ Row wr (w.heap.size+1) (aH (ps.take k))/\ Below w.heap.size w wr)) (fun i _=>n-(intOf i).toNat)
 case atStart=>exact⟨0,Nat.zero_le _,rfl,YO.out,by rw[List.take_zero];exact Zo.out,HB1.out⟩
 case round=>
  clear YO Zo HB1;obtain⟨k,hk,rfl,HS⟩:=hrel;by_cases hkn:k<n
  ·obtain⟨b,off,rfl,hb,_⟩:=HM.out.at (by omega);have hl:=HM.out.len;have hmem:=Ch HR.out (Int.le_refl 0) _ (Ml.PS (by rw[hl];exact hkn));have HE:=hid (LY HR.out (by rw[hl];exact hkn))
   have hc:∀V:World,Below w.heap.size w V->V.cell? ⟨b,off+k*2,none⟩=some (.int .i64 (ps.getD k (0,0)).1)/\ V.cell? ⟨b,off+k*2+1,none⟩=some (.int .i64 (ps.getD k (0,0)).2):=by
    intro V hV;have h1:=(HM.out.below hV).cells _ rfl k hkn;rw[Addr.add_lit,Addr.add_lit,<-Nat.add_assoc]at h1;exact h1
   obtain⟨p,hp⟩:∃p,p=ps.getD k (0,0):=⟨_,rfl⟩;rw[<-hp]at hc HE hmem;clear hp hl;obtain⟨u,x⟩:=p;obtain⟨v,rfl⟩:∃v:Nat,u=(v:Int):=⟨u.toNat,by have:=hmem.1.1;simp at this;omega⟩;have hv:v<201:=by have:=hmem.1.2;simp at this;omega
   have hv2:(v:Int)<201:=by omega
   have hv3:(0:Int)<=v:=by omega
   have HC:=hid hc;clear hmem hc;have c3:=HS.out.2.1.cell v hv;have c4:=HS.out.2.1.fz v;obtain⟨old,ho⟩:∃o,o=aH (ps.take k) v:=⟨_,rfl⟩;rw[<-ho]at c3;clear ho;go_upto_region 7 with(fail)
   refine wp_region_held_drew (S:=fun w'=>w'.cell? ⟨b,off+k*2,none⟩=some (.int .i64 v)/\ w'.cell? ⟨b,off+k*2+1,none⟩=some (.int .i64 x)) (by kernel_rfl) (HC.out _ HS.out.2.2.drew) (fun hH=>?_);refine bC 0 hH ?_;try simp only[aI]
   refine bC 1 hH ?_;try simp only[aI]
   refine bC 2 hH ?_;try simp only[aI]
   refine bC 3 hH ?_;try simp only[aI]
   refine bC 4 hH ?_;try simp only[aI]
   refine bC 5 hH ?_;try simp only[aI]
   refine bC 6 hH ?_;try simp only[aI]
   refine bC 7 hH ?_;try simp only[aI]
   refine bC 8 hH ?_;try simp only[aI]
   refine bC 9 hH ?_;try simp only[aI]
   refine bC 10 hH ?_;try simp only[aI]
   refine ah 11 rfl (by kernel_rfl) (fun K hK=>?_);go_simp;refine hK.out _ _ (HC.out _ (HS.out.2.2.drew.setCell (by simp) _)) (fun h2=>?_);clear hK K hH h2
   try simp only[aI]
   refine wpAnyH_done (by kernel_rfl) ?_ _
   go_wp2_with fail;go_roundw
   case rel=>exact⟨k+1,by omega,by go_num,HS.out.1.far (by omega) _ _,(HS.out.2.1.set v hv x).congr (fun z _ _=>(HE.out z).symm),HS.out.2.2.drew.setCell (by simp) _⟩
   case measure=>simp[intOf];omega
  ·obtain rfl:k=n:=by omega
   have H3:Hid (Row wr (w.heap.size+1) (aH ps)):=by have:=HS.out.2.1;rwa[List.take_of_length_le (by rw[HM.out.len];exact Nat.le_refl _)]at this
   go_wp2_with (first|(refine mH rfl (.tmp 3) rfl _ rfl _ H3.out ?_)|(refine gG rfl (.tmp 2) (.tmp 26) rfl _ rfl _ _ rfl HS.out.1 ?_));exact bodyPost_ret (v:= .agg (ku (aH ps)).toArray) (xk rfl _ (HS.out.1.put (aH ps)) rfl) rfl ⟨rfl,below_setRow HS.out.2.2 (Nat.le_refl _) _⟩
theorem vv [Ol] {ao:Option Addr} {n cap:Nat} {ps:List (Int×Int)} {w:World} (h:Ml w ao n cap ps):
  Calls Tryz.prog 96 #[.slice ao n cap] w (VF w (si ps)):=by
 cases hr:bA 0 ps with
 |true=>rw[uP hr];exact PX h hr
 |false=>exact SE h hr
open Lib (hid)
theorem wZ {P:Program} {f:FuncId} {args:Array Value} {w:World} {Q:Ending->World->Prop} (h:∀W,W=w->Calls P f args W Q):Calls P f args w Q:=h w rfl
theorem Row.grown {B:Nat} {w w':World} {o:Obj} {ao:Option Addr} {n cap:Nat} {ps:List (Int×Int)} {b:Nat} {f:Int->Int} (h:Row w b f) (hM:Mo B w ao n cap ps) (hG:(w.alloc o).grownBy w' (Value.slice ao n cap).ownBlock):Row w' b f:=by
 refine(h.below (af w o)).keep (hG.block b (by have:=h.lt;simp;omega) fun e=>?_);rcases hM.parts with⟨rfl,_⟩|⟨g,cur,rfl,_,_,_,hh⟩
 ·cases e
 ·have e':b=g:=Option.some.inj e;subst e';unfold Row at h;rw[h]at hh;cases hh
theorem LZ (g:Int->Int) (k:Nat):tT g (k+1)=tT g k++if 0<g ((k:Int)+1)then[((k:Int)+1,g ((k:Int)+1))]else[]:=rfl
theorem SF [Ol] (g:Int->Int) (hg:∀v,1<=v->v<=200->jL (g v)) (w:World):
  Calls Tryz.prog 195 #[.agg (ku g).toArray] w (YK w (TQ g)):=by
 obtain⟨i0,hi,hz0,hz1,hz2⟩:=info_parts Tryz.yw;have HG:=hid hg;obtain⟨qs,Wo⟩:∃qs,qs=TQ g:=⟨_,rfl⟩;have HQ:Hid (qs=tT g 200):=Wo.trans (by unfold TQ;rw[show lim=200 from rfl]);rw[<-Wo];clear hg Wo;go_enter Tryz.func195,Tryz.ntmps195;go_upto_region 1 with(fail)
 refine aj (fun W hW=>?_);have HB:Hid (Below w.heap.size w W):=by rw[hW];exact af _ _
 have H1:Hid (Row W w.heap.size g):=by rw[hW];exact Row.new w _
 clear hW;go_wp2;go_loopw [3,4] (fun o i wr=>∃(k m cap:Nat) (ao:Option Addr),k<=200/\ i= .int .i64 ((k+1:Nat):Int)/\ o= .slice ao m cap/\ Hid (Mo w.heap.size wr ao m cap (tT g k))/\ Hid (Row wr w.heap.size g/\ Below w.heap.size w wr)) (fun _ i _=>201-(intOf i).toNat)
 case atStart=>exact⟨0,0,0,none,by omega,rfl,rfl,Mo.nil _ _,H1.out,HB.out⟩
 case round=>
  clear H1 HB;obtain⟨k,m,cap,ao,hk,rfl,rfl,HM,HS⟩:=hrel;by_cases hk2:k<200
  ·have c1:=HS.out.1.cell (k+1) (by omega);have hml:=HM.out.len;have Mc:=FM g k;have hm4:m<=200:=by omega
   have HU:=hid (LZ g k);have ek:((k:Int)+1)=((k+1:Nat):Int):=by omega
   rw[ek]at HU;have HI:=hid (HG.out ((k+1:Nat):Int) (by omega) (by omega));obtain⟨z,hz⟩:∃z,z=g ((k+1:Nat):Int):=⟨_,rfl⟩;rw[<-hz]at c1 HU HI;clear hml Mc ek hz;obtain⟨j,hj⟩:∃j,j=k+1:=⟨_,rfl⟩;rw[<-hj]at c1 HU ⊢;have HJ:=hid hj;have hj1:1<=j:=by omega
   have hj2:j<=200:=by omega
   clear hj hk hk2;by_cases hp:0<z
   ·have f1:decide (0<z)=true:=decide_eq_true hp;have HV:Hid (jL (j:Int)):=by unfold jL;show _/\ _;omega
    have HP:=hid hp;clear hp;go_wp2_with (at_builtin;refine Dr wr w rfl (.tmp 13) (.tmp 19) 68 rfl w.heap.size i0 (.agg #[.int .i64 0,.int .i64 0]) Tryz.underlying68 hi hz0 hz1 hz2 rfl ao m cap (tT g k) rfl HM.out (j:Int) z HV.out HI.out _ rfl HS.out.2 HS.out.2.size (by omega) ?_;intro M7 cap2 w2 hM2 hB2 hG2;have HM2:=hid hM2;have HB2:=hid hB2;have HR2:=hid (HS.out.1.grown HM.out hG2);clear hM2 hB2 hG2 c1);go_roundw
    case rel=>exact⟨k+1,m+1,cap2,M7,by have:=HJ.out;omega,by rw[HJ.out];go_num,rfl,by rw[Hid,<-HJ.out,HU.out,if_pos HP.out];exact HM2.out,HR2.out,HB2.out⟩
    case measure=>simp[intOf];omega
   ·have f1:decide (0<z)=false:=decide_eq_false hp;have HP:=hid hp;clear hp;go_wp2;go_roundw
    case rel=>exact⟨k+1,m,cap,ao,by have:=HJ.out;omega,by rw[HJ.out];go_num,rfl,by rw[Hid,<-HJ.out,HU.out,if_neg HP.out,List.append_nil];exact HM.out,HS.out⟩
    case measure=>simp[intOf];omega
  ·obtain rfl:k=200:=by omega
   go_wp2;go_ret;exact⟨_,_,_,rfl,by rw[HQ.out];exact HM.out.ml,HS.out.2⟩
open Lib (hid)
theorem PY {f:Int->Int->Int} (f0:f 0 0=0) {er:Int} {xs ys:List (Int×Int)} (hx:bA 0 xs=true) (hy:bA 0 ys=true) {G:Int->Int} (h:∀v,1<=v->v<=200->0<=f (aH xs v) (aH ys v)/\ f (aH xs v) (aH ys v)<=10000) (hG:∀v,1<=v->v<=200->G v=f (aH xs v) (aH ys v)):
  oq f er xs ys=(TQ G,0):=by
 have hm:bA 0 (joinL f xs ys)=true:=(zS f0 hx hy).2 fun v=>by
  by_cases hv:1<=v/\ v<=200
  ·exact h v hv.1 hv.2
  ·rw[rQ hx (by omega),rQ hy (by omega),f0];omega
 unfold oq;rw[if_pos ⟨hx,hy⟩,if_pos hm];have e:TQ G=joinL f xs ys:=Vz (y9 f0 hx hy) (fun v h1 h2=>by rw[oh f0 hx hy,hG v h1 h2]) (fun v h1 h2=>by rw[hG v h1 h2];exact(h v h1 h2).1);rw[e]
theorem L6 {f:Int->Int->Int} (f0:f 0 0=0) {er:Int} {xs ys:List (Int×Int)} (hx:bA 0 xs=true) (hy:bA 0 ys=true) (v:Int) (h:¬(0<=f (aH xs v) (aH ys v)/\ f (aH xs v) (aH ys v)<=10000)):
  oq f er xs ys=([],er):=by
 unfold oq;rw[if_pos ⟨hx,hy⟩,if_neg (fun hm=>h ((zS f0 hx hy).1 hm v))]
theorem FV [Ol] {a0 b0:Option Addr} {la ca lc cc:Nat} {xs:List (Int×Int)} {w:World} (ha:Ml w a0 la ca xs) (hx:bA 0 xs=false):
  Calls Tryz.prog 145 #[.slice a0 la ca,.slice b0 lc cc] w (JA w [] 2):=by
 go_enter Tryz.func145,Tryz.ntmps145;go_wp2_with fail;refine(mG false ha hx).mono ?_;rintro e w1 ⟨rfl,hB⟩;go_wp2_with fail;go_ret2;exact⟨none,0,0,rfl,Ml.zero _,hB⟩
theorem FW [Ol] {a0 b0:Option Addr} {la ca lc cc:Nat} {xs ys:List (Int×Int)} {w:World} (ha:Ml w a0 la ca xs) (hb:Ml w b0 lc cc ys) (hx:bA 0 xs=true) (hy:bA 0 ys=false):
  Calls Tryz.prog 145 #[.slice a0 la ca,.slice b0 lc cc] w (JA w [] 2):=by
 have yP:=hid hb;clear hb;go_enter Tryz.func145,Tryz.ntmps145;go_wp2_with fail;refine(mG true ha hx).mono ?_;rintro e w1 ⟨rfl,hB⟩;have HB:=hid hB;have HY:=hid (yP.out.below hB);clear hB ha hx yP;go_wp2_with fail;refine(mG false HY.out hy).mono ?_;rintro e w2 ⟨rfl,hB⟩;go_wp2_with fail;go_ret2;exact⟨none,0,0,rfl,Ml.zero _,Below.steps HB.out hB⟩
theorem FX [Ol] {a0 b0:Option Addr} {la ca lc cc:Nat} {xs ys:List (Int×Int)} {w:World} (ha:Ml w a0 la ca xs) (hb:Ml w b0 lc cc ys) (hx:bA 0 xs=true) (hy:bA 0 ys=true) (R:List (Int×Int)×Int) (hR:oq (fun x y=>x+y) 8 xs ys=R):
  Calls Tryz.prog 145 #[.slice a0 la ca,.slice b0 lc cc] w (JA w R.1 R.2):=by
 have zr:=vo;have HX:=hid hx;have HY:=hid hy;have HR:=hid hR;have RU:=hid ha;have HB0:=hid hb;clear hx hy hR ha hb;go_enter Tryz.func145,Tryz.ntmps145;go_wp2_with fail;refine(mG true RU.out HX.out).mono ?_;rintro e v1 ⟨rfl,hB⟩;have HBa:=hid hB;have HA1:=hid (RU.out.below hB);have LA:=hid (HB0.out.below hB);clear hB RU HB0;go_wp2_with fail;refine(mG true LA.out HY.out).mono ?_;rintro e v2 ⟨rfl,hB⟩;have HB:=hid (Below.steps HBa.out hB);have HA:=hid (HA1.out.below hB);have yP:=hid (LA.out.below hB);clear hB HBa HA1 LA;go_wp2_with fail;refine(vv HA.out).mono ?_;rintro e w1 ⟨rfl,hB⟩;have HB1:=hid (Below.steps HB.out hB);have LA:=hid (yP.out.below hB);clear hB HA yP HB;go_wp2_with (refine gG rfl (.tmp 6) (.tmp 18) rfl _ rfl _ _ rfl (Row.new w1 _) ?_);refine wZ (fun W1 hW=>?_);have Uy:Hid (Row W1 w1.heap.size (si xs)):=by rw[hW];exact(Row.new w1 _).put _
 have HB2:Hid (Below w.heap.size w W1):=by rw[hW];exact below_setRow (Below.steps HB1.out (af _ _)) HB1.out.size _
 have TK:Hid (Ml W1 b0 lc cc ys):=by rw[hW];exact(LA.out.below (below_setRow (af w1 _) (Nat.le_refl _) _))
 have hx2:=HB1.out.size;clear hW HB1 LA;refine(vv TK.out).mono ?_;rintro e w2 ⟨rfl,hB⟩;have HB3:=hid (Below.steps HB2.out hB);have Gb:=hid (Uy.out.below hB);clear hB Uy HB2 TK;go_wp2_with (refine gG rfl (.tmp 7) (.tmp 20) rfl _ rfl _ _ rfl (Row.new w2 _) ?_);have hy2:=HB3.out.size;have hxy:=Gb.out.lt;refine aj (fun W2 hW=>?_);have Yy:Hid (Row W2 w1.heap.size (si xs)):=by rw[hW];exact(Gb.out.below (af _ _)).O4 (by omega) _
 have Vi:Hid (Row W2 w2.heap.size (si ys)):=by rw[hW];exact(Row.new w2 _).put _
 have oJ:Hid (Below w.heap.size w W2):=by rw[hW];exact below_setRow (Below.steps HB3.out (af _ _)) hy2 _
 obtain⟨by',hby⟩:∃b,b=w2.heap.size:=⟨_,rfl⟩;rw[<-hby]at Vi hy2 hxy
 try rw[<-hby]
 clear hW Gb HB3 hby zr;go_wp2;go_loopw [8] (fun i wr=>∃k:Nat,1<=k/\ k<=201/\ i= .int .i64 k/\ Hid (∀u:Int,1<=u->u<k->0<=aH xs u+aH ys u/\ aH xs u+aH ys u<=10000)/\ Hid (Row wr w1.heap.size (fun u=>if 1<=u/\ u<k then aH xs u+aH ys u else aH xs u)/\ Row wr by' (aH ys)/\ Below w.heap.size w wr)) (fun i _=>201-(intOf i).toNat)
 case atStart=>exact⟨1,by omega,by omega,rfl,fun u h1 h2=>by omega,Yy.out.congr (fun u _ _=>by rw[uP HX.out,if_neg (by omega)]),by have:=Vi.out;rwa[uP HY.out]at this,oJ.out⟩
 case round=>
  clear Yy Vi oJ;obtain⟨k,h1,hk,rfl,HT,HS⟩:=hrel;by_cases hk2:k<=200
  ·have hk3:(k:Int)<=200:=by omega
   have hk4:(k:Int)<201:=by omega
   have hk5:(0:Int)<=k:=by omega
   have c1:=HS.out.1.cell k (by omega);have c2:=HS.out.2.1.cell k (by omega);have f1:=HS.out.1.fz k;rw[if_neg (by omega)]at c1;have b1:=fT HX.out (k:Int);have b2:=fT HY.out (k:Int)
   have HK:Hid (∀(u:Int),0<=u->u<=200->upd (fun u=>if 1<=u/\ u<(k:Int)then aH xs u+aH ys u else aH xs u) k (aH xs k+aH ys k) u=(fun u=>if 1<=u/\ u<((k+1:Nat):Int)then aH xs u+aH ys u else aH xs u) u):=by
    intro u _ _;unfold upd;by_cases hu:u=(k:Int)
    ·subst hu;rw[if_pos rfl];show _=if _ then _ else _;rw[if_pos ⟨by omega,by omega⟩]
    ·rw[if_neg hu];show(if _ then _ else _)=if _ then _ else _
     by_cases hc:1<=u/\ u<(k:Int)
     ·rw[if_pos hc,if_pos ⟨hc.1,by omega⟩]
     ·rw[if_neg hc,if_neg (fun hd=>hc ⟨hd.1,by omega⟩)]
   have HY9:Hid (∀z,(wr.drew.setCell ⟨w1.heap.size,k,none⟩ z).cell? ⟨by',k,none⟩=some (.int .i64 (aH ys k))):=fun z=>((show Row wr.drew by' _ from HS.out.2.1).far (by omega) _ _).cell k (by omega)
   have HP:Hid (∀(u:Int),1<=u->u<((k+1:Nat):Int)->(0<=aH xs k+aH ys k/\ aH xs k+aH ys k<=10000)->0<=aH xs u+aH ys u/\ aH xs u+aH ys u<=10000):=by
    intro u h2 h3 h4;by_cases hu:u=(k:Int)
    ·subst hu;exact h4
    ·exact HT.out u h2 (by omega)
   have HN:Hid (¬(0<=aH xs k+aH ys k/\ aH xs k+aH ys k<=10000)->R=([],8)):=fun h=>by rw[<-HR.out];exact L6 (f:=(fun x y=>x+y)) rfl HX.out HY.out k h
   obtain⟨p,hp⟩:∃p,p=aH xs k:=⟨_,rfl⟩;obtain⟨q,hq⟩:∃q,q=aH ys k:=⟨_,rfl⟩;rw[<-hp]at c1 b1 HK HP HN;rw[<-hq]at c2 b2 HK HP HN HY9;obtain⟨b1,b3⟩:=b1;obtain⟨b2,b4⟩:=b2;have ws:IntKind.i64.wrap (p+q)=p+q:=IntWalk.i64_in _ ⟨by omega,by omega⟩;clear hp hq hk2;go_upto_region 8 with(fail)
   refine wp_region_held_drew (S:=fun w'=>w'.cell? ⟨by',k,none⟩=some (.int .i64 q)) (by kernel_rfl) c2 (fun hH=>?_);refine bC 0 hH ?_;try simp only[aI]
   refine bC 1 hH ?_;try simp only[aI]
   refine bC 2 hH ?_;try simp only[aI]
   refine bC 4 hH ?_;try simp only[aI]
   refine bC 5 hH ?_;try simp only[aI]
   refine bC 6 hH ?_;try simp only[aI]
   refine ah 3 rfl (by kernel_rfl) (fun K hK=>?_);go_simp;refine hK.out _ _ c2 (fun h2=>?_);clear hK K hH;have hH:=h2;clear h2
   try simp only[aI]
   refine bC 7 hH ?_;try simp only[aI]
   refine bC 8 hH ?_;try simp only[aI]
   refine ah 9 rfl (by kernel_rfl) (fun K hK=>?_);go_simp;refine hK.out _ _ (HY9.out _) (fun h2=>?_);clear hK K hH h2
   try simp only[aI]
   refine wpAnyH_done (by kernel_rfl) ?_ _
   clear c2 f1;have nH:Hid (Below w.heap.size w (wr.drew.setCell ⟨w1.heap.size,k,none⟩ (.int .i64 (p+q)))):=HS.out.2.2.drew.setCell hx2 _;by_cases g:10000<p+q
   ·have g1:decide (10000<p+q)=true:=decide_eq_true g;have HR2:Hid (R=([],8)):=HN.out (by omega);clear HN HP HT HK g ws;go_wp2;go_ret2;exact⟨none,0,0,by rw[HR2.out];rfl,by rw[HR2.out];exact Ml.zero _,nH.out⟩
   ·have g1:decide (10000<p+q)=false:=decide_eq_false g;have HG:Hid (0<=p+q/\ p+q<=10000):=by show _/\ _;omega
    clear g;go_wp2_with fail;go_roundw
    case rel=>exact⟨k+1,by omega,by omega,by go_num,fun u h2 h3=>HP.out u h2 h3 HG.out,((show Row wr.drew w1.heap.size _ from HS.out.1).set k (by omega) (p+q)).congr HK.out,(show Row wr.drew by' _ from HS.out.2.1).far (by omega) _ _,nH.out⟩
    case measure=>simp[intOf];omega
  ·obtain rfl:k=201:=by omega
   obtain⟨G,hG⟩:∃G:Int->Int,G=fun u=>if 1<=u/\ u<((201:Nat):Int)then aH xs u+aH ys u else aH xs u:=⟨_,rfl⟩
   have hG1:∀v,1<=v->v<=200->G v=aH xs v+aH ys v:=fun v h1 h2=>by rw[hG];show(if _ then _ else _)=_;rw[if_pos ⟨h1,by omega⟩]
   have HQ:Hid (R=(TQ G,0)):=by
    rw[Hid,<-HR.out];exact PY (f:=(fun x y=>x+y)) rfl HX.out HY.out (fun v h1 h2=>HT.out v h1 (by omega)) hG1
   have HI:Hid (∀v,1<=v->v<=200->jL (G v)):=fun v h1 h2=>by
    rw[hG1 v h1 h2];have:=HT.out v h1 (by omega);unfold jL;omega
   have H1:Hid (Row wr w1.heap.size G):=by rw[hG];exact HS.out.1
   have pJ:=hid HS.out.2.2;clear hG hG1 HT HS HX HY HR hk2;go_wp2_with (refine mH rfl (.tmp 6) rfl _ rfl _ H1.out ?_);refine(SF G HI.out _).mono ?_;rintro e w9 ⟨qo,n,cap,rfl,hM,hB⟩;have HM:=hid hM;have x9:=hid (Below.steps pJ.out hB);clear hM hB pJ;go_wp2_with fail;go_ret2;exact⟨_,_,_,by rw[HQ.out];rfl,by rw[HQ.out];exact HM.out,x9.out⟩
theorem Ho [Ol] {a0 b0:Option Addr} {la ca lc cc:Nat} {xs ys:List (Int×Int)} {w:World} (ha:Ml w a0 la ca xs) (hb:Ml w b0 lc cc ys):
  Calls Tryz.prog 145 #[.slice a0 la ca,.slice b0 lc cc] w (JA w (oq (fun x y=>x+y) 8 xs ys).1 (oq (fun x y=>x+y) 8 xs ys).2):=by
 cases hx:bA 0 xs with
 |false=>rw[show oq (fun x y=>x+y) 8 xs ys=([],2)from if_neg (by simp[hx])];exact FV ha hx
 |true=>
  cases hy:bA 0 ys with
  |false=>rw[show oq (fun x y=>x+y) 8 xs ys=([],2)from if_neg (by simp[hy])];exact FW ha hb hx hy
  |true=>exact FX ha hb hx hy _ rfl
end Go.Proofs.YtmenbpmciblnlaaGreatDoor

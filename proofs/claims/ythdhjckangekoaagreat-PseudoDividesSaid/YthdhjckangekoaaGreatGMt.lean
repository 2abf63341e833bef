/- MtP, MtSync, MtOnce, MtLen, MtProg, MtProg2 -/
import Derived.Test.YthdhjckangekoaaGreatGP1
import Derived.Laws.LoneSync
import Derived.Laws.NewBlocks
import Derived.Defers
import Derived.RegionCalls
set_option maxHeartbeats 40000000
set_option maxRecDepth 100000
namespace Go.Proofs.YthdhjckangekoaaGreat
open Go.RowKit
structure MS where
 fu:Int
 li:Int
 te:Int
 pi:Int
 st:Int
 pc:Int
 wh:Int
 n:Int
def MS.new (fu li te pi:Int):MS:=⟨fu,li,te,pi,0,0,0,0⟩
def MS.refuse (s:MS) (e n:Int):MS:=⟨s.fu,s.li,s.te,s.pi,s.st,s.pc,if s.wh=0 then e else s.wh,if s.wh=0 then n else s.n⟩
def MS.step (s:MS):MS:=if s.fu<=s.st then s.refuse 9 (s.fu+1)else⟨s.fu,s.li,s.te,s.pi,s.st+1,s.pc,s.wh,s.n⟩
def MS.j6 (s:MS):Int:=if s.fu<=s.st then 9 else 0
def fB:List (List Nat)->Nat
 |[]=>0
 |x::r=>max (nl x) (fB r)
def MS.keep (s:MS) (p:List (List Nat)):MS:=if s.li<(fB p:Nat)then s.refuse 10 (fB p:Nat)else if s.te<(p.length:Nat)then s.refuse 11 (p.length:Nat)else s
def MS.je (s:MS) (p:List (List Nat)):Int:=if s.li<(fB p:Nat)then 10 else if s.te<(p.length:Nat)then 11 else 0
structure MS.Ok (s:MS):Prop where
 f0:0<=s.fu
 f1:s.fu<=1000000
 p0:0<=s.pi
 p1:s.pi<=1000
 s0:0<=s.st
 s1:s.st<=s.fu
 c0:0<=s.pc
 c1:s.pc<=s.pi
theorem MS.Ok.refuse {s:MS} (h:s.Ok) (e n:Int):(s.refuse e n).Ok:=⟨h.f0,h.f1,h.p0,h.p1,h.s0,h.s1,h.c0,h.c1⟩
theorem MS.Ok.step {s:MS} (h:s.Ok):s.step.Ok:=by
 unfold MS.step;split
 ·exact h.refuse _ _
 ·exact⟨h.f0,h.f1,h.p0,h.p1,by have:=h.s0;show 0<=s.st+1;omega,by show s.st+1<=s.fu;omega,h.c0,h.c1⟩
theorem MS.Ok.keep {s:MS} (h:s.Ok) (p:List (List Nat)):(s.keep p).Ok:=by
 unfold MS.keep;split
 ·exact h.refuse _ _
 ·split
  ·exact h.refuse _ _
  ·exact h
def zH (s:MS) (d lk:Int) (u v:Int):List Value:=
 [.int .i64 s.fu,.int .i64 s.li,.int .i64 s.te,.int .i64 s.pi,.int .i64 s.st,.int .i64 s.pc,.int .u32 d,.int .i32 lk,.int .u32 0,.int .i64 u,.int .i64 v]
def mc (s:MS):List Value:=zH s (if s.wh=0 then 0 else 1) 0 s.wh s.n
def rc (s:MS):List Value:=[.int .i64 s.fu,.int .i64 s.li,.int .i64 s.te,.int .i64 s.pi,.int .i64 s.st,.int .i64 s.pc,.int .i64 s.wh,.int .i64 s.n]
theorem xL (ps:List (List Nat)) (k:Nat) (h:k<ps.length):fB (ps.take (k+1))=max (fB (ps.take k)) (nl (ps.getD k [])):=by
 induction ps generalizing k with
 |nil=>simp at h
 |cons x r ih=>
  cases k with
  |zero=>simp[fB]
  |succ k=>
   have:=ih k (by simpa using h);simp only[List.take_succ_cons,fB];rw[this];simp only[List.getD_cons_succ];omega
def TmL (w:World) (vs:List Value) (xs:List Nat):Prop:=∃m ao n cap bo k cb,vs=[.bool m,.slice ao n cap,.slice bo k cb]/\ Sl w ao n cap xs
theorem TmL.below {w w':World} {vs:List Value} {xs:List Nat} (h:TmL w vs xs) (hb:Below w.heap.size w w'):TmL w' vs xs:=by
 obtain⟨m,ao,n,cap,bo,k,cb,h1,h4⟩:=h;exact⟨m,ao,n,cap,bo,k,cb,h1,h4.below hb⟩
structure Lp [Ol] (w:World) (ao:Option Addr) (n cap:Nat) (ps:List (List Nat)):Prop where
 ex:∃aW,Gl 3 w ao n cap aW/\ bG (TmL w) aW ps
theorem Lp.len [Ol] {w:World} {ao:Option Addr} {n cap:Nat} {p:List (List Nat)} (h:Lp w ao n cap p):p.length=n:=by
 obtain⟨aW,h1,h2⟩:=h.ex;rw[<-h2.len,h1.len]
theorem Lp.big [Ol] {w:World} {ao:Option Addr} {n cap:Nat} {p:List (List Nat)} (h:Lp w ao n cap p):n<=4398046511104:=by
 obtain⟨aW,h1,h2⟩:=h.ex;exact h1.big
theorem Lp.le [Ol] {w:World} {ao:Option Addr} {n cap:Nat} {p:List (List Nat)} (h:Lp w ao n cap p):n<=cap:=by
 obtain⟨aW,h1,h2⟩:=h.ex;exact h1.le
theorem Lp.below [Ol] {w w':World} {ao:Option Addr} {n cap:Nat} {p:List (List Nat)} (h:Lp w ao n cap p) (hb:Below w.heap.size w w'):Lp w' ao n cap p:=by
 obtain⟨aW,h1,h2⟩:=h.ex;exact⟨aW,h1.below hb,h2.imp fun v a h=>h.below hb⟩
theorem Lp.at [Ol] {w:World} {ao:Option Addr} {n cap:Nat} {p:List (List Nat)} (h:Lp w ao n cap p) {k:Nat} (hk:k<n):
  ∃b off m bo l c co e cc,ao=some ⟨b,off,none⟩/\ b<w.heap.size/\ Sl w bo l c (p.getD k [])/\
   ∀V:World,Below w.heap.size w V->V.cell? ⟨b,off+k*3,none⟩=some (.bool m)/\ V.cell? ⟨b,off+k*3+1,none⟩=some (.slice bo l c)/\ V.cell? ⟨b,off+k*3+2,none⟩=some (.slice co e cc):=by
 have hl:=h.len;obtain⟨aW,h1,h2⟩:=h.ex;obtain⟨b,off,rfl,hb,hc⟩:=h1.at (by omega);obtain⟨m,bo,l,c,co,e,cc,hv,hs⟩:=bG.get [] h2 k (by omega);refine⟨b,off,m,bo,l,c,co,e,cc,rfl,hb,hs,fun V hV=>?_⟩;have a0:=hc V hV k hk 0 (by omega);have a1:=hc V hV k hk 1 (by omega);have a2:=hc V hV k hk 2 (by omega);rw[hv]at a0 a1 a2;exact⟨a0,a1,a2⟩
def wK (b:Nat) (vs:List Value) (v:Value) (w:World) (e:Ending) (w':World):Prop:=e= .returned v/\ Cells w' b vs/\ w.grownBy w' (some b)
theorem Dz (w:World):(callFunc 188 #[]).run Tryz.prog w= .ok (.value (.tuple #[])) w:=run_call_mark0 Tryz.func188 (by kernel_rfl) (by kernel_rfl) (by kernel_rfl) .disable (by kernel_rfl) w
theorem I8 (w:World):(callFunc 190 #[]).run Tryz.prog w= .ok (.value (.tuple #[])) w:=run_call_mark0 Tryz.func190 (by kernel_rfl) (by kernel_rfl) (by kernel_rfl) .enable (by kernel_rfl) w
theorem Nw (a:Addr) (w:World):(callFunc 191 #[.pointer (some a)]).run Tryz.prog w= .ok (.value (.tuple #[])) w:=run_call_marked Tryz.func191 (by kernel_rfl) (by kernel_rfl) (by kernel_rfl) .acquire (by kernel_rfl) a w
theorem Ny (a:Addr) (w:World):(callFunc 193 #[.pointer (some a)]).run Tryz.prog w= .ok (.value (.tuple #[])) w:=run_call_marked Tryz.func193 (by kernel_rfl) (by kernel_rfl) (by kernel_rfl) .releaseMerge (by kernel_rfl) a w
theorem uO (a:Addr) {x:Int} {w:World} (hc:w.cell? a=some (.int .i64 x)):
  Calls Tryz.prog 66 #[.pointer (some a)] w fun e w'=>e= .returned (.int .i64 x)/\ w=w':=by
 have hl:=run_call_load (P:=Tryz.prog) Tryz.func102 (by kernel_rfl) (by kernel_rfl) (by kernel_rfl) .i64 (by kernel_rfl) hc;go_enter Tryz.func66,Tryz.ntmps66;go_wp2;go_ret;exact⟨rfl,rfl⟩
theorem Nz (a:Addr) {x y s:Int} {w:World} (hc:w.cell? a=some (.int .i64 x)) (hz:w.frozen? a=false) (hs:IntKind.i64.wrap (x+y)=s):
  Calls Tryz.prog 119 #[.pointer (some a),.int .i64 y] w fun e w'=>e= .returned (.int .i64 s)/\ w'=w.setCell a (.int .i64 s):=by
 have hl:=run_call_add (P:=Tryz.prog) Tryz.func144 (by kernel_rfl) (by kernel_rfl) (by kernel_rfl) .i64 (by kernel_rfl) (y:=y) (s:=s) hc hz (by rw[<-hs];rfl);go_enter Tryz.func119,Tryz.ntmps119;go_wp2;go_ret;exact⟨rfl,rfl⟩
theorem Gq (a:Addr) (x:Value) (u:FrameMode) (w:World) (hc:w.cell? a=some x) (hz:w.frozen? a=false):
  CallsD Tryz.prog 169 #[.pointer (some a),.bool true] u w fun e u' w'=>u'=u/\ (e= .returned (.tuple #[])/\ w'=w.drew.setCell a (.int .u32 1)):=by
 have c1:w.drew.cell? a=some x:=by go_simp
 have z1:w.drew.frozen? a=false:=by go_simp
 have hst:=run_call_store (P:=Tryz.prog) Tryz.func181 (by kernel_rfl) (by kernel_rfl) (by kernel_rfl) (by kernel_rfl) (k:= .u32) (y:=1) c1 z1;go_enter_d Tryz.func169,Tryz.ntmps169;go_wp2;go_region_calls
 all_goals (go_end0;exact⟨rfl,rfl⟩)
theorem Gr (a:Addr) (u:FrameMode) (w:World) (hc:w.cell? a=some (.int .i32 1)) (hz:w.frozen? a=false):
  CallsD Tryz.prog 168 #[.pointer (some a)] u w fun e u' w'=>u'=u/\ (e= .returned (.tuple #[])/\ w'=w.setCell a (.int .i32 0)):=by
 have hd:=Dz;have he:=I8;have hr:=Ny;have hadd:=run_call_add (P:=Tryz.prog) Tryz.func194 (by kernel_rfl) (by kernel_rfl) (by kernel_rfl) .i32 (by kernel_rfl) (y:= -1) (s:=0) hc hz (by simp[go_sem];rfl);have hcv:=run_convert_to_unsafe (P:=Tryz.prog) Tryz.underlying238 Tryz.underlying242 (by kernel_rfl) hc;go_enter_d Tryz.func168,Tryz.ntmps168;go_wp2;go_end0;go_wp2;go_end0;exact⟨rfl,rfl⟩
theorem NA (a:Addr) (w:World) (hc:w.cell? a=some (.int .i32 0)) (hz:w.frozen? a=false):
  Calls Tryz.prog 167 #[.pointer (some a)] w fun e w'=>e= .returned (.tuple #[])/\ w'=w.setCell a (.int .i32 1):=by
 have hd:=Dz;have he:=I8;have ha:=Nw;have hcas:=run_call_cas_hit (P:=Tryz.prog) Tryz.func189 (by kernel_rfl) (by kernel_rfl) (by kernel_rfl) .i32 (by kernel_rfl) (y:=1) hc hz;have c1:(w.setCell a (.int .i32 1)).cell? a=some (.int .i32 1):=World.cell?_setCell_same w a _ hc
 have hcv:=run_convert_to_unsafe (P:=Tryz.prog) Tryz.underlying238 Tryz.underlying242 (by kernel_rfl) c1;go_enter Tryz.func167,Tryz.ntmps167;go_wp2
 first|go_end0|(simp only[Exit.inBlock,Exit.then];refine bodyPost_ret (results_none rfl _ _ _) rfl ?_)|refine bodyPost_ret (results_none rfl _ _ _) rfl ?_
 go_wp2;go_end0;exact⟨rfl,rfl⟩
open Lib (hid)
theorem oF (w:World) (b o:Nat) (v:Value):w.grownBy (w.setCell ⟨b,o,none⟩ v) (some b):=
 ⟨rfl,rfl,rfl,by simp[World.setCell],fun k _ hne=>Below.heap_setCell _ _ _ _ (fun e=>hne (by rw[e]))⟩
theorem fQ {w v u:World} {r:Option Nat} (h:w.grownBy v r) (k:v.grownBy u r):w.grownBy u r:=
 ⟨k.os.trans h.os,k.tape.trans h.tape,k.output.trans h.output,Nat.le_trans h.size k.size,fun i hi hne=>(k.block i (Nat.lt_of_lt_of_le hi h.size) hne).trans (h.block i hi hne)⟩
theorem jf {w w1:World} (r:Option Nat) (h:Below w.heap.size w w1):w.grownBy w1 r:=⟨h.os,h.tape,h.output,h.size,fun k hk _=>h.block k hk⟩
theorem BN {w v:World} {r:Option Nat} (h:w.grownBy v r):w.grownBy v.drew r:=⟨h.os,h.tape,h.output,h.size,h.block⟩
theorem tu {w v:World} {b c:Nat} {vs:List Value} (h:w.grownBy v (some b)) (hc:Cells w c vs) (hne:c≠b):Cells v c vs:=hc.keep (h.block c hc.lt (by simpa using hne))
theorem NC {w v:World} {b B:Nat} (h:w.grownBy v (some b)) (hB:B<=b) (hw:B<=w.heap.size):Below B w v:=(Below.refl B w).grown h hw (fun k e=>by cases e;exact hB)
theorem Cells.mt {w:World} {b:Nat} {s:MS} {d lk u v:Int} (h:Cells w b (zH s d lk u v)):
  (w.cell? ⟨b,0,none⟩=some (.int .i64 s.fu)/\ w.cell? ⟨b,1,none⟩=some (.int .i64 s.li)/\ w.cell? ⟨b,2,none⟩=some (.int .i64 s.te)/\ w.cell? ⟨b,3,none⟩=some (.int .i64 s.pi))/\
  (w.cell? ⟨b,4,none⟩=some (.int .i64 s.st)/\ w.cell? ⟨b,5,none⟩=some (.int .i64 s.pc)/\ w.cell? ⟨b,6,none⟩=some (.int .u32 d)/\ w.cell? ⟨b,7,none⟩=some (.int .i32 lk))/\
  w.cell? ⟨b,9,none⟩=some (.int .i64 u)/\ w.cell? ⟨b,10,none⟩=some (.int .i64 v):=
 ⟨⟨h.cell 0,h.cell 1,h.cell 2,h.cell 3⟩,⟨h.cell 4,h.cell 5,h.cell 6,h.cell 7⟩,h.cell 9,h.cell 10⟩
theorem DC (a:Addr) {w:World} (hc:w.cell? a=some (.int .u32 0)):
  Calls Tryz.prog 142 #[.pointer (some a)] w fun e w'=>e= .returned (.bool false)/\ w=w':=by
 have hl:=run_call_load (P:=Tryz.prog) Tryz.func166 (by kernel_rfl) (by kernel_rfl) (by kernel_rfl) .u32 (by kernel_rfl) hc;go_enter Tryz.func142,Tryz.ntmps142;go_wp2;go_ret;exact⟨rfl,rfl⟩
theorem Ko (a:Addr) {w:World} (hc:w.cell? a=some (.int .u32 1)):
  Calls Tryz.prog 142 #[.pointer (some a)] w fun e w'=>e= .returned (.bool true)/\ w=w':=by
 have hl:=run_call_load (P:=Tryz.prog) Tryz.func166 (by kernel_rfl) (by kernel_rfl) (by kernel_rfl) .u32 (by kernel_rfl) hc;go_enter Tryz.func142,Tryz.ntmps142;go_wp2;go_ret;exact⟨rfl,rfl⟩
theorem Q0 {b c0 c1 c2:Nat} {s:MS} {d lk u v e n:Int} {w:World} (h:Cells w b (zH s d lk u v)) (h0:Cells w c0 [.pointer (some ⟨b,0,none⟩)]) (h1:Cells w c1 [.int .i64 e]) (h2:Cells w c2 [.int .i64 n]):
  Calls Tryz.prog 118 #[.pointer (some ⟨c1,0,none⟩),.pointer (some ⟨c2,0,none⟩),.pointer (some ⟨c0,0,none⟩)] w (wK b (zH s d lk e n) (.tuple #[]) w):=by
 obtain⟨_,_,m9,m10⟩:=h.mt;have z9:=h.fz 9;have z10:=h.fz 10;have k0:=h0.c1;have k1:=h1.c1;have k2:=h2.c1;have HC:=hid h;clear h h0 h1 h2;go_enter Tryz.func118,Tryz.ntmps118;go_wp2;go_end0;refine⟨rfl,(HC.out.set 9 _).set 10 _,fQ (oF _ _ _ _) (oF _ _ _ _)⟩
section
variable {b c0 c1 c2:Nat} {s:MS} {u v e n:Int} {w:World}
theorem ND (h:Cells w b (zH s 0 0 u v)) (h0:Cells w c0 [.pointer (some ⟨b,0,none⟩)]) (h1:Cells w c1 [.int .i64 e]) (h2:Cells w c2 [.int .i64 n]) (d0:c0≠b) (d1:c1≠b) (d2:c2≠b):
  Calls Tryz.prog 143 #[.pointer (some ⟨b,6,none⟩),.func (.func 118) #[] #[.pointer (some ⟨c1,0,none⟩),.pointer (some ⟨c2,0,none⟩),.pointer (some ⟨c0,0,none⟩)]] w (wK b (zH s 1 0 e n) (.tuple #[]) w):=by
 have m7:w.cell? ⟨b,7,none⟩=some (.int .i32 0):=h.cell 7;have HC:=hid h;have H0:=hid h0;have H1:=hid h1;have H2:=hid h2;have z7:=h.fz 7;clear h h0 h1 h2;go_enter_defers Tryz.func143,Tryz.ntmps143;go_wp2_with fail;refine(NA ⟨b,7,none⟩ _ m7 z7).mono ?_;rintro e1 w1 ⟨rfl,hw⟩;have C1:Hid (Cells w1 b (zH s 0 1 u v)):=by rw[hw];exact HC.out.set 7 _
 have G1:Hid (w.grownBy w1 (some b)):=by rw[hw];exact oF _ _ _ _
 clear hw m7 z7;have m6:w1.cell? ⟨b,6,none⟩=some (.int .u32 0):=C1.out.cell 6;go_wp2_with fail;refine(DC ⟨b,6,none⟩ m6).mono ?_;rintro e2 w2 ⟨rfl,rfl⟩;go_wp2_with fail;refine(Q0 C1.out (tu G1.out H0.out d0) (tu G1.out H1.out d1) (tu G1.out H2.out d2)).mono ?_;rintro e2 w2 ⟨rfl,hC,hG⟩;have C2:=hid hC;have G2:=hid (fQ G1.out hG);clear hC hG m6;go_wp2_with fail;refine leaves_cons (f:=169) (args:= #[.pointer (some ⟨b,6,none⟩),.bool true]) (by simp) (by simp[go_sem]) ?_;refine(Gq ⟨b,6,none⟩ (.int .u32 0) .returning _ (C2.out.cell 6) (C2.out.fz 6)).mono ?_;rintro e3 u3 w3 ⟨rfl,rfl,hw⟩;have C3:Hid (Cells w3 b (zH s 1 1 e n)):=by rw[hw];exact(C2.out.keep rfl:Cells w2.drew b _).set 6 _
 have G3:Hid (w.grownBy w3 (some b)):=by rw[hw];exact fQ (BN G2.out) (oF _ _ _ _)
 clear hw C2 G2;refine leaves_cons (f:=168) (args:= #[.pointer (some ⟨b,7,none⟩)]) (by simp[settle]) (by simp[go_sem]) ?_;refine(Gr ⟨b,7,none⟩ _ _ (C3.out.cell 7) (C3.out.fz 7)).mono ?_;rintro e4 u4 w4 ⟨rfl,rfl,hw⟩;have C4:Cells w4 b (zH s 1 0 e n):=by rw[hw];exact C3.out.set 7 _
 have G4:w.grownBy w4 (some b):=by rw[hw];exact fQ G3.out (oF _ _ _ _)
 clear hw;have hr:wK b (zH s 1 0 e n) (.tuple #[]) w (.returned (.tuple #[])) w4:=⟨rfl,C4,G4⟩;simpa[Leaves,settle,results,Tryz.results143]using hr
theorem NE (h:Cells w b (zH s 0 0 u v)) (h0:Cells w c0 [.pointer (some ⟨b,0,none⟩)]) (h1:Cells w c1 [.int .i64 e]) (h2:Cells w c2 [.int .i64 n]) (d0:c0≠b) (d1:c1≠b) (d2:c2≠b):
  Calls Tryz.prog 117 #[.pointer (some ⟨b,6,none⟩),.func (.func 118) #[] #[.pointer (some ⟨c1,0,none⟩),.pointer (some ⟨c2,0,none⟩),.pointer (some ⟨c0,0,none⟩)]] w (wK b (zH s 1 0 e n) (.tuple #[]) w):=by
 have m6:w.cell? ⟨b,6,none⟩=some (.int .u32 0):=h.cell 6;have HS:=hid (ND h h0 h1 h2 d0 d1 d2);clear h h0 h1 h2;go_enter Tryz.func117,Tryz.ntmps117;go_wp2_with fail;refine(DC ⟨b,6,none⟩ m6).mono ?_;rintro e2 w2 ⟨rfl,rfl⟩;clear m6;go_wp2_with fail;refine HS.out.mono ?_;rintro e2 w2 ⟨rfl,hC,hG⟩;have H2:=hid (And.intro hC hG);clear hC hG;go_wp2_with fail;go_end0;exact⟨rfl,H2.out.1,H2.out.2⟩
theorem Q5 (h:Cells w b (zH s 1 0 u v)) (f:Value):Calls Tryz.prog 117 #[.pointer (some ⟨b,6,none⟩),f] w fun e w'=>e= .returned (.tuple #[])/\ w=w':=by
 have m6:w.cell? ⟨b,6,none⟩=some (.int .u32 1):=h.cell 6;clear h;go_enter Tryz.func117,Tryz.ntmps117;go_wp2_with fail;refine(Ko ⟨b,6,none⟩ m6).mono ?_;rintro e2 w2 ⟨rfl,rfl⟩;clear m6;go_wp2_with fail;go_end0;exact⟨rfl,rfl⟩
theorem qh (h:Cells w b (mc s)) (he:e≠0):
  Calls Tryz.prog 86 #[.pointer (some ⟨b,0,none⟩),.int .i64 e,.int .i64 n] w (wK b (mc (s.refuse e n)) (.int .i64 e) w):=by
 have HC:=hid h;have hb:=h.lt;clear h;go_enter Tryz.func86,Tryz.ntmps86;go_upto_region 1 with(fail)
 refine au (fun W hW=>?_);have k0:=Cells.new w w.heap.size [.pointer (some ⟨b,0,none⟩)] 28 rfl;obtain⟨w1,h1⟩:∃w1,w1=w.alloc (.cells #[.pointer (some ⟨b,0,none⟩)] 28):=⟨_,rfl⟩;have s1:w1.heap.size=w.heap.size+1:=by rw[h1];simp
 have b1:Below w.heap.size w w1:=by rw[h1];exact af _ _
 rw[show([Value.pointer (some ⟨b,0,none⟩)]:List Value).toArray= #[.pointer (some ⟨b,0,none⟩)]from rfl,<-h1]at k0;rw[<-h1]at hW;have k1:=Cells.new w1 (w.heap.size+1) [.int .i64 e] 32 s1.symm;obtain⟨w2,h2⟩:∃w2,w2=w1.alloc (.cells #[.int .i64 e] 32):=⟨_,rfl⟩;have s2:w2.heap.size=w.heap.size+1+1:=by rw[h2];simp[s1]
 have b2:Below w1.heap.size w1 w2:=by rw[h2];exact af _ _
 rw[show([Value.int .i64 e]:List Value).toArray= #[.int .i64 e]from rfl,<-h2]at k1;rw[<-h2]at hW;have k2:=Cells.new w2 (w.heap.size+1+1) [.int .i64 n] 3 s2.symm;have b3:Below w2.heap.size w2 W:=by rw[hW];exact af _ _
 rw[show([Value.int .i64 n]:List Value).toArray= #[.int .i64 n]from rfl,<-hW]at k2;have B1:Below w.heap.size w W:=Below.steps (Below.steps b1 b2) b3;have q0:Cells W w.heap.size [.pointer (some ⟨b,0,none⟩)]:=k0.keep ((Below.steps b2 b3).block _ (by omega));have q1:Cells W (w.heap.size+1) [.int .i64 e]:=k1.keep (b3.block _ (by omega));have G1:w.grownBy W (some b):=jf _ B1;have HQ:=hid (And.intro q0 (And.intro q1 (And.intro k2 (And.intro (HC.out.keep (B1.block _ hb)) G1))));have p0:=q0.c1;have p1:=q1.c1;clear k0 k1 k2 h1 h2 s1 s2 b1 b2 b3 hW B1 q0 q1 G1 w1 w2 HC;have Vb:∀(fn:Fn) (first cap:Array Value) (w:World),(Instr.makeFunc fn first cap).run Tryz.prog w= .ok (.func fn first cap) w:=fun _ _ _ _=>rfl
 have hne0:w.heap.size≠b:=by omega
 have hne1:w.heap.size+1≠b:=by omega
 have hne2:w.heap.size+1+1≠b:=by omega
 by_cases h0:s.wh=0
 ·have e1:mc s=zH s 0 0 s.wh s.n:=by unfold mc;rw[if_pos h0]
  have e2:mc (s.refuse e n)=zH s 1 0 e n:=by
   unfold mc MS.refuse zH;simp[h0,he]
  rw[e1]at HQ;have HE:=hid e2;clear e1 e2;go_wp2_with fail;refine(NE HQ.out.2.2.2.1 HQ.out.1 HQ.out.2.1 HQ.out.2.2.1 hne0 hne1 hne2).mono ?_;rintro e2 w2 ⟨rfl,hC,hG⟩;have p1:=(tu hG HQ.out.2.1 hne1).c1;have HR:=hid (And.intro hC (fQ HQ.out.2.2.2.2 hG));clear hC hG HQ p0;go_wp2_with fail;go_ret;rw[HE.out];exact⟨rfl,HR.out.1,HR.out.2⟩
 ·have e1:mc s=zH s 1 0 s.wh s.n:=by unfold mc;rw[if_neg h0]
  have e2:s.refuse e n=s:=by unfold MS.refuse;rw[if_neg h0,if_neg h0]
  rw[e1]at HQ;have HE:=hid (And.intro e1 e2);clear e1 e2;go_wp2_with fail;refine(Q5 HQ.out.2.2.2.1 _).mono ?_;rintro e2 w2 ⟨rfl,rfl⟩;have HR:=hid (And.intro HQ.out.2.2.2.1 HQ.out.2.2.2.2);clear HQ p0;go_wp2_with fail;go_ret;rw[HE.out.2,HE.out.1];exact⟨rfl,HR.out.1,HR.out.2⟩
end
theorem DF (ao:Option Addr) (n cap:Nat) (xs:List Nat) (w:World) (h:Sl w ao n cap xs):
  Calls Tryz.prog 85 #[.slice ao n cap] w fun e w'=>e= .returned (.int .i64 (nl xs:Nat))/\ w=w':=by
 have hle:=h.le;have hbig:=h.big;have HT:Hid (xs.take n=xs):=eX xs n h.len;go_enter Tryz.func85,Tryz.ntmps85;go_wp2;go_loop [3] (fun i=>∃k:Nat,k<=n/\ i= .int .i64 k/\ Hid (nl (xs.take k)=nl xs)) (fun i=>(intOf i).toNat)
 case atStart=>exact⟨n,Nat.le_refl _,rfl,by rw[Hid,HT.out]⟩
 case round=>
  obtain⟨k,hk,rfl,hnl⟩:=hrel;by_cases hk0:k=0
  ·subst hk0;go_wp2;go_ret;refine⟨dZ ?_,rfl⟩;have:=hnl.out;simp only[List.take_zero,NF]at this;rw[<-this];rfl
  ·obtain⟨b,off,rfl,hb,hc⟩:=h.at (by omega);obtain⟨j,rfl⟩:∃j,k=j+1:=⟨k-1,by omega⟩;have hlen:=h.len;have hcell:=hc j (by omega);clear hc hlen;obtain⟨x,hx⟩:∃x,x=xs.getD j 0:=⟨_,rfl⟩;rw[<-hx]at hcell;have HX:Hid (x=xs.getD j 0):=hx;clear hx;by_cases hz:x=0
   ·subst hz
    have H1:Hid (nl (xs.take j)=nl xs):=by
     rw[Hid,<-hnl.out,jy xs j (by have:=h.len;omega) HX.out.symm]
    clear hnl;go_wp2;go_round
    case rel=>exact⟨j,by omega,by go_num,H1⟩
    case measure=>simp[intOf]
   ·have hb0:(((x:Nat):Int)==0)=false:=by simp;omega
    have H1:Hid (nl xs=j+1):=by
     rw[Hid,<-hnl.out,mh xs j (by have:=h.len;omega) (by rw[<-HX.out];exact hz)]
    clear hnl hz;go_wp2;go_ret;exact⟨dZ (by rw[H1.out];rfl),rfl⟩
theorem Gs (m:Nat) (ao:Option Addr) (n cap:Nat) (xs:List Nat) (w:World) (h:Sl w ao n cap xs) (hm:Hid (nl xs=m)):
  Calls Tryz.prog 85 #[.slice ao n cap] w fun e w'=>e= .returned (.int .i64 (m:Nat))/\ w=w':=by
 rw[<-hm.out];exact DF ao n cap xs w h
open Lib (hid)
theorem oG (r:Bool) (a m:Int) {w:World} (h:(decide (0<=a)&&decide (a<=m))=r):Calls Tryz.prog 44 #[.int .i64 a,.int .i64 m] w fun e w'=>e= .returned (.bool r)/\ w=w':=by
 by_cases h0:0<=a
 ·have hd:decide (0<=a)=true:=decide_eq_true h0;rw[hd,Bool.true_and]at h;have HR:=hid h;obtain⟨q,hq⟩:∃q,decide (a<=m)=q:=⟨_,rfl⟩;have HQ:=hid hq;clear h h0;go_enter Tryz.func44,Tryz.ntmps44;go_wp2;go_ret;exact⟨by rw[<-HR.out,HQ.out];rfl,rfl⟩
 ·have hd:decide (0<=a)=false:=decide_eq_false h0;rw[hd,Bool.false_and]at h;subst h;clear h0;go_enter Tryz.func44,Tryz.ntmps44;go_wp2;go_ret;exact⟨rfl,rfl⟩
def DI (fu li te pi:Int):Bool:=(decide (0<=fu)&&decide (fu<=1000000))&&((decide (0<=li)&&decide (li<=10000))&&((decide (0<=te)&&decide (te<=100000))&&(decide (0<=pi)&&decide (pi<=1000))))
theorem Q6 {fu li te pi:Int} (h:DI fu li te pi=true):(MS.new fu li te pi).Ok:=by
 unfold DI at h;simp only[Bool.and_eq_true,decide_eq_true_eq]at h;exact⟨h.1.1,h.1.2,h.2.2.2.1,h.2.2.2.2,by simp[MS.new],h.1.1,by simp[MS.new],h.2.2.2.1⟩
def Zr (s:MS) (w:World) (e:Ending) (w':World):Prop:=∃b,e= .returned (.tuple #[.pointer (some ⟨b,0,none⟩),.int .i64 0])/\ Cells w' b (mc s)/\ w.heap.size<=b/\ Below w.heap.size w w'
theorem NG {fu li te pi:Int} {w:World} (h:DI fu li te pi=true):Calls Tryz.prog 23 #[.agg #[.int .i64 fu,.int .i64 li,.int .i64 te,.int .i64 pi]] w (Zr (MS.new fu li te pi) w):=by
 unfold DI at h;simp only[Bool.and_eq_true]at h;have HA:Hid (∀W,Calls Tryz.prog 44 #[.int .i64 fu,.int .i64 1000000] W fun e w'=>e= .returned (.bool true)/\ W=w'):=fun W=>oG true fu 1000000 (by rw[h.1.1,h.1.2];rfl)
 have HB:Hid (∀W,Calls Tryz.prog 44 #[.int .i64 li,.int .i64 10000] W fun e w'=>e= .returned (.bool true)/\ W=w'):=fun W=>oG true li 10000 (by rw[h.2.1.1,h.2.1.2];rfl)
 have HC:Hid (∀W,Calls Tryz.prog 44 #[.int .i64 te,.int .i64 100000] W fun e w'=>e= .returned (.bool true)/\ W=w'):=fun W=>oG true te 100000 (by rw[h.2.2.1.1,h.2.2.1.2];rfl)
 have HD:Hid (∀W,Calls Tryz.prog 44 #[.int .i64 pi,.int .i64 1000] W fun e w'=>e= .returned (.bool true)/\ W=w'):=fun W=>oG true pi 1000 (by rw[h.2.2.2.1,h.2.2.2.2];rfl)
 clear h;have hB:=hid (af w (.cells #[.int .i64 fu,.int .i64 li,.int .i64 te,.int .i64 pi] 25));go_enter Tryz.func23,Tryz.ntmps23;go_wp2_with fail;refine(HA.out _).mono ?_;rintro e w2 ⟨rfl,rfl⟩;go_wp2_with fail;refine(HB.out _).mono ?_;rintro e w2 ⟨rfl,rfl⟩;go_wp2_with fail;refine(HC.out _).mono ?_;rintro e w2 ⟨rfl,rfl⟩;go_wp2_with fail;refine(HD.out _).mono ?_;rintro e w2 ⟨rfl,rfl⟩;go_wp2_with fail;go_ret2;refine⟨_,rfl,?_,?_,Below.steps hB.out (af _ _)⟩
 ·have e1:mc (MS.new fu li te pi)=[.int .i64 fu,.int .i64 li,.int .i64 te,.int .i64 pi,.int .i64 0,.int .i64 0,.int .u32 0,.int .i32 0,.int .u32 0,.int .i64 0,.int .i64 0]:=by simp[mc,MS.new,zH]
  rw[e1];exact Cells.new _ _ _ _ (by simp)
 ·simp
theorem DJ {b:Nat} {s:MS} {w:World} (h:Cells w b (mc s)) (hk:s.Ok):
  Calls Tryz.prog 87 #[.pointer (some ⟨b,0,none⟩),.pointer (some ⟨b,4,none⟩),.int .i64 s.fu,.int .i64 9] w (wK b (mc s.step) (.int .i64 s.j6) w):=by
 have HC:=hid h;have c4:w.cell? ⟨b,4,none⟩=some (.int .i64 s.st):=h.cell 4;have f4:=h.fz 4;have h0:=hk.f0;have h1:=hk.f1;have h2:=hk.s0;have h3:=hk.s1;have hw:IntKind.i64.wrap (s.fu+1)=s.fu+1:=IntWalk.i64_in _ ⟨by omega,by omega⟩;have hw2:IntKind.i64.wrap (s.st+1)=s.st+1:=IntWalk.i64_in _ ⟨by omega,by omega⟩;have HW2:=hid hw2;clear h hk h0 h1 h2 h3 hw2;by_cases hc:s.fu<=s.st
 ·have HE:Hid (s.step=s.refuse 9 (s.fu+1)/\ s.j6=9):=⟨by unfold MS.step;rw[if_pos hc],by unfold MS.j6;rw[if_pos hc]⟩;go_enter Tryz.func87,Tryz.ntmps87;go_wp2_with fail;refine(uO ⟨b,4,none⟩ c4).mono ?_;rintro e w2 ⟨rfl,rfl⟩;go_wp2_with fail;refine(qh HC.out (by omega)).mono ?_;rintro e w2 ⟨rfl,hC,hG⟩;have HR:=hid (And.intro hC hG);clear hC hG c4 f4;go_wp2_with fail;go_ret;rw[HE.out.1,HE.out.2];exact⟨rfl,HR.out⟩
 ·have HE:Hid (s.step=⟨s.fu,s.li,s.te,s.pi,s.st+1,s.pc+0,s.wh,s.n⟩/\ s.j6=0):=⟨by unfold MS.step;rw[if_neg hc];simp,by unfold MS.j6;rw[if_neg hc]⟩;go_enter Tryz.func87,Tryz.ntmps87;go_wp2_with fail;refine(uO ⟨b,4,none⟩ c4).mono ?_;rintro e w2 ⟨rfl,rfl⟩;go_wp2_with fail;refine(Nz ⟨b,4,none⟩ c4 f4 HW2.out).mono ?_;rintro e w2 ⟨rfl,hw⟩;have HR:Hid (Cells w2 b (mc ⟨s.fu,s.li,s.te,s.pi,s.st+1,s.pc+0,s.wh,s.n⟩)/\ w.grownBy w2 (some b)):=⟨by rw[hw];simpa[mc,zH]using HC.out.set 4 (.int .i64 (s.st+1)),by rw[hw];exact oF _ _ _ _⟩;clear hw c4 f4;go_wp2_with fail;go_ret;rw[HE.out.1,HE.out.2];exact⟨rfl,HR.out⟩
theorem Kr {w:World}:Calls Tryz.prog 50 #[.pointer none] w fun e w'=>e= .returned (.int .i64 0)/\ w=w':=by
 go_enter Tryz.func50,Tryz.ntmps50;go_wp2;go_ret;exact⟨rfl,rfl⟩
theorem Kt {b:Nat} {s:MS} {w:World} (h:Cells w b (mc s)) (hk:s.Ok):Calls Tryz.prog 50 #[.pointer (some ⟨b,0,none⟩)] w (wK b (mc s.step) (.int .i64 s.j6) w):=by
 have HC:=hid h;have HK:=hid hk;clear h hk;go_enter Tryz.func50,Tryz.ntmps50;go_upto_region 3 with(fail)
 refine wp_region_held_drew (S:=fun w'=>w'.cell? ⟨b,0,none⟩=some (.int .i64 s.fu)) (by kernel_rfl) (HC.out.cell 0) (fun hH=>?_);refine ak (fun w1 hW=>?_);have wR:Hid (Cells w1 b (mc s)/\ w.grownBy w1 (some b)):=by rw[hW];exact⟨HC.out.keep rfl,BN (World.grownBy.refl _ _)⟩
 rw[<-hW]at hH;clear hW HC;refine aB 0 hH ?_
 try simp only[ai]
 refine aB 1 hH ?_
 try simp only[ai]
 refine aB 2 hH ?_
 try simp only[ai]
 refine aB 3 hH ?_
 try simp only[ai]
 refine aB 4 hH ?_
 try simp only[ai]
 refine aB 5 hH ?_
 try simp only[ai]
 refine aB 6 hH ?_
 try simp only[ai]
 refine aB 7 hH ?_
 try simp only[ai]
 refine aB 8 hH ?_
 try simp only[ai]
 refine aj 9 rfl (by kernel_rfl) (fun KK hK=>?_);go_simp;refine(DJ wR.out.1 HK.out).mono ?_;rintro e w2 ⟨rfl,hC,hG⟩;have HR:=hid (And.intro hC (fQ wR.out.2 hG));clear hC hG wR;go_wp2_with fail
 refine hK.out _ _ (by have e:s.step.fu=s.fu:=by(unfold MS.step;split<;>rfl)
                       rw[<-e];exact HR.out.1.cell 0) (fun h2=>?_)
 clear hK KK hH;have hH:=h2;clear h2
 try simp only[ai]
 refine aB 10 hH ?_
 try simp only[ai]
 refine wpAnyH_done (by kernel_rfl) ?_ _
 go_wp2_with fail;go_ret;exact⟨rfl,HR.out⟩
open Lib (hid)
theorem Ku {b:Nat} {s:MS} {w:World} (h:Cells w b (mc s)):Calls Tryz.prog 40 #[.pointer (some ⟨b,0,none⟩)] w fun e w'=>e= .returned (.int .i64 s.st)/\ w=w':=by
 have c4:w.cell? ⟨b,4,none⟩=some (.int .i64 s.st):=h.cell 4;clear h;go_enter Tryz.func40,Tryz.ntmps40;go_wp2_with fail;refine(uO ⟨b,4,none⟩ c4).mono ?_;rintro e w2 ⟨rfl,rfl⟩;go_wp2_with fail;go_ret;exact⟨rfl,rfl⟩
theorem Kv {b:Nat} {s:MS} {w:World} (h:Cells w b (mc s)):Calls Tryz.prog 41 #[.pointer (some ⟨b,0,none⟩)] w (bN (.agg #[.int .i64 s.wh,.int .i64 s.n]) w):=by
 have hb:=h.lt;have c0:w.cell? ⟨b,9,none⟩=some (.int .i64 s.wh):=h.cell 9;have c1:w.cell? ⟨b,10,none⟩=some (.int .i64 s.n):=h.cell 10;clear h;go_enter Tryz.func41,Tryz.ntmps41;go_wp2_with fail;refine bodyPost_ret (v:= .agg #[.int .i64 s.wh,.int .i64 s.n]) (by simp[results,Tryz.results41,go_sem]) rfl ?_;exact⟨rfl,af _ _⟩
theorem Gt [Ol] {cp:Nat} {ao:Option Addr} {n cap:Nat} {ps:List (List Nat)} {w:World} (h:Lp w ao n cap ps) (hc:Cells w cp [.slice ao n cap]):
  Calls Tryz.prog 84 #[.pointer (some ⟨cp,0,none⟩)] w (bN (.tuple #[.int .i64 (fB ps:Nat),.int .i64 n]) w):=by
 have HP:=hid h;have HL:=hid h.len;have HCB:=hid hc;have hbig:=h.big;have c0:=hc.c1;clear h hc;go_enter Tryz.func84,Tryz.ntmps84;go_wp2;go_loopw [1,7] (fun m i wr=>∃k:Nat,m= .int .i64 (fB (ps.take k):Nat)/\ i= .int .i64 k/\ k<=n/\ Hid (Below w.heap.size w wr)) (fun _ i _=>n-(intOf i).toNat)
 case atStart=>exact⟨0,by simp[fB],rfl,Nat.zero_le _,Below.refl _ _⟩
 case round=>
  clear c0;obtain⟨k,rfl,rfl,hk,HB⟩:=hrel;by_cases hkn:k<n
  ·obtain⟨b,off,m,bo,l,c,co,e,cc,rfl,_,hs,hcl⟩:=HP.out.at hkn;obtain⟨a0,a1,a2⟩:=hcl wr HB.out;obtain⟨x,hx⟩:∃x,x=nl (ps.getD k []):=⟨_,rfl⟩;obtain⟨y,hy⟩:∃y,y=fB (ps.take k):=⟨_,rfl⟩;rw[<-hy];have HX:Hid (fB (ps.take (k+1))=max y x):=by rw[Hid,hx,hy];exact xL ps k (by rw[HL.out];exact hkn)
   have HN:Hid (∀V,Below w.heap.size w V->Calls Tryz.prog 85 #[.slice bo l c] V fun e w'=>e= .returned (.int .i64 (x:Nat))/\ V=w'):=fun V hV=>Gs x bo l c (ps.getD k []) V (hs.below hV) hx.symm
   have hki:(k:Int)<(n:Int):=by omega
   clear hcl hs hx hy;go_wp2_with fail;refine(HN.out _ (Below.steps HB.out (af _ _))).mono ?_;rintro e w2 ⟨rfl,rfl⟩;go_wp2_with fail;go_roundw
   case rel=>exact⟨k+1,by rw[HX.out];go_num,by go_num,by omega,Below.steps HB.out (af _ _)⟩
   case measure=>simp[intOf];omega
  ·obtain rfl:k=n:=by omega
   have HE:Hid (fB (ps.take k)=fB ps):=by rw[Hid,List.take_of_length_le (by rw[HL.out];exact Nat.le_refl _)]
   have cE:wr.cell? ⟨cp,0,none⟩=some (.slice ao k cap):=(HCB.out.keep (HB.out.block _ HCB.out.lt)).c1;go_wp2_with fail;go_quiet (fail);go_wp2_with fail;go_ret2;rw[HE.out];exact⟨rfl,HB.out.trans (_root_.Go.below_drewN (Below.refl _ _) _)⟩
theorem Kw {ao:Option Addr} {n cap:Nat} {w:World}:Calls Tryz.prog 49 #[.pointer none,.slice ao n cap] w (bN (.int .i64 0) w):=by
 go_enter Tryz.func49,Tryz.ntmps49;go_wp2;go_ret;exact⟨rfl,af _ _⟩
theorem Ky [Ol] {b:Nat} {s:MS} {ao:Option Addr} {n cap:Nat} {ps:List (List Nat)} {w:World} (h:Cells w b (mc s)) (hp:Lp w ao n cap ps):
  Calls Tryz.prog 49 #[.pointer (some ⟨b,0,none⟩),.slice ao n cap] w (wK b (mc (s.keep ps)) (.int .i64 (s.je ps)) w):=by
 have Vb:∀(fn:Fn) (first cap:Array Value) (w:World),(Instr.makeFunc fn first cap).run Tryz.prog w= .ok (.func fn first cap) w:=fun _ _ _ _=>rfl
 have HC:=hid h;have HP:=hid hp;have hlt:=h.lt;obtain⟨x,hx⟩:∃x,x=fB ps:=⟨_,rfl⟩;have HX:=hid hx;have HL:=hid hp.len;clear h hp hx;go_enter Tryz.func49,Tryz.ntmps49;go_upto_region 1 with(fail)
 refine au (fun W hW=>?_);have H1:Hid (Below w.heap.size w W/\ Cells W w.heap.size [.slice ao n cap]):=by rw[hW];exact⟨af _ _,Cells.new _ _ _ _ rfl⟩
 clear hW;go_wp2_with fail;refine(Gt (HP.out.below H1.out.1) H1.out.2).mono ?_;rintro e w2 ⟨rfl,hB⟩;rw[<-HX.out];have H2:=hid (Below.steps H1.out.1 hB);clear hB H1;have C2:=hid (HC.out.keep (H2.out.block _ hlt));obtain⟨⟨_,m1,m2,_⟩,_⟩:=C2.out.mt;by_cases hc:s.li<(x:Int)
 ·have HE:Hid (s.keep ps=s.refuse 10 (x:Int)/\ s.je ps=10):=by
   rw[HX.out]at hc ⊢;exact⟨by unfold MS.keep;rw[if_pos hc],by unfold MS.je;rw[if_pos hc]⟩
  go_wp2_with fail;refine(qh C2.out (by omega)).mono ?_;rintro e w3 ⟨rfl,hC,hG⟩;have HR:=hid (And.intro hC (fQ (jf (some b) H2.out) hG));clear hC hG C2 m1 m2;go_wp2_with fail;go_ret;rw[HE.out.1,HE.out.2];exact⟨rfl,HR.out⟩
 ·have hc':Hid (¬s.li<(fB ps:Nat)):=by rw[<-HX.out];exact hc
  by_cases hd:s.te<(n:Int)
  ·have HE:Hid (s.keep ps=s.refuse 11 (n:Int)/\ s.je ps=11):=by
    have e:=HL.out;exact⟨by unfold MS.keep;rw[if_neg hc'.out,e,if_pos hd],by unfold MS.je;rw[if_neg hc'.out,e,if_pos hd]⟩
   go_wp2_with fail;refine(qh C2.out (by omega)).mono ?_;rintro e w3 ⟨rfl,hC,hG⟩;have HR:=hid (And.intro hC (fQ (jf (some b) H2.out) hG));clear hC hG C2 m1 m2;go_wp2_with fail;go_ret;rw[HE.out.1,HE.out.2];exact⟨rfl,HR.out⟩
  ·have HE:Hid (s.keep ps=s/\ s.je ps=0):=by
    have e:=HL.out;exact⟨by unfold MS.keep;rw[if_neg hc'.out,e,if_neg hd],by unfold MS.je;rw[if_neg hc'.out,e,if_neg hd]⟩
   go_wp2_with fail;go_ret;rw[HE.out.1,HE.out.2];exact⟨rfl,C2.out,jf (some b) H2.out⟩
end Go.Proofs.YthdhjckangekoaaGreat

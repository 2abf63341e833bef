/-
  Arguments of the meter's laws opened: limits; a polynomial as a meter looks at it; a list of calls.
-/
import Derived.Test.YthdhjckangekoaaGreatGMt
import Derived.Test.YthdhjckangekoaaGreatGRk
import Derived.Deep.Strs
set_option maxHeartbeats 40000000
set_option maxRecDepth 100000
namespace Go.Proofs.YthdhjckangekoaaGreat
open Go.ChangeShapes Go.WideShapes Go.ChangeAt Go.RowKit Go.Deep Go.Joins
theorem Dr {H:Type} {enc:TypeId×Value->H} {W:World} {r:Reach} {b0:Nat} {v:Value} {d:DataW H} {p:List MemPlace}
  (hv:Value.okWide Tryz.prog W r b0 25 v) (hd:DataW.Trod enc Tryz.prog W 0 (fun _=>true) true 25 v d p):
  ∃a b c e:Int,v= .agg #[.int .i64 a,.int .i64 b,.int .i64 c,.int .i64 e]/\ (Lit.int .i64 a).wf=true/\ (Lit.int .i64 b).wf=true/\ (Lit.int .i64 c).wf=true/\ (Lit.int .i64 e).wf=true:=by
 obtain⟨v0,v1,v2,v3,y0,y1,y2,y3,f,rfl,rfl,_,h0,h1,h2,h3⟩:=open_agg4 Tryz.underlying25 (by kernel_rfl) (by kernel_rfl) hv hd;obtain⟨a,ha,_,wa⟩:=DataW.trod_int Tryz.underlying3 h0;obtain⟨b,hb,_,wb⟩:=DataW.trod_int Tryz.underlying3 h1;obtain⟨c,hc,_,wc⟩:=DataW.trod_int Tryz.underlying3 h2;obtain⟨e,he,_,we⟩:=DataW.trod_int Tryz.underlying3 h3;simp at ha hb hc he;subst ha;subst hb;subst hc;subst he;exact⟨a,b,c,e,rfl,wa,wb,wc,we⟩
abbrev TF:=Int×List (List Nat)×Int
def OpR [Ol] (w:World) (vs:List Value) (o:TF):Prop:=∃ao n cap,vs=[.int .i64 o.1,.slice ao n cap,.int .i64 o.2.2]/\ Lp w ao n cap o.2.1
theorem OpR.below [Ol] {w w':World} {vs:List Value} {o:TF} (h:OpR w vs o) (hb:Below w.heap.size w w'):OpR w' vs o:=by
 obtain⟨ao,n,cap,h1,h2⟩:=h;exact⟨ao,n,cap,h1,h2.below hb⟩
structure Lo [Ol] (w:World) (ao:Option Addr) (n cap:Nat) (l:List TF):Prop where
 ex:∃aW,Gl 3 w ao n cap aW/\ bG (OpR w) aW l
theorem Lo.len [Ol] {w:World} {ao:Option Addr} {n cap:Nat} {p:List TF} (h:Lo w ao n cap p):p.length=n:=by
 obtain⟨aW,h1,h2⟩:=h.ex;rw[<-h2.len,h1.len]
theorem Lo.big [Ol] {w:World} {ao:Option Addr} {n cap:Nat} {p:List TF} (h:Lo w ao n cap p):n<=4398046511104:=by
 obtain⟨aW,h1,h2⟩:=h.ex;exact h1.big
theorem Lo.below [Ol] {w w':World} {ao:Option Addr} {n cap:Nat} {p:List TF} (h:Lo w ao n cap p) (hb:Below w.heap.size w w'):Lo w' ao n cap p:=by
 obtain⟨aW,h1,h2⟩:=h.ex;exact⟨aW,h1.below hb,h2.imp fun v a h=>h.below hb⟩
def opZ:TF:=(0,[],0)
theorem Lo.at [Ol] {w:World} {ao:Option Addr} {n cap:Nat} {p:List TF} (h:Lo w ao n cap p) {k:Nat} (hk:k<n):
  ∃b off bo l c,ao=some ⟨b,off,none⟩/\ b<w.heap.size/\ Lp w bo l c (p.getD k opZ).2.1/\
   ∀V:World,Below w.heap.size w V->V.cell? ⟨b,off+k*3,none⟩=some (.int .i64 (p.getD k opZ).1)/\ V.cell? ⟨b,off+k*3+1,none⟩=some (.slice bo l c)/\ V.cell? ⟨b,off+k*3+2,none⟩=some (.int .i64 (p.getD k opZ).2.2):=by
 have hl:=h.len;obtain⟨aW,h1,h2⟩:=h.ex;obtain⟨b,off,rfl,hb,hc⟩:=h1.at (by omega);obtain⟨bo,l,c,hv,hs⟩:=bG.get opZ h2 k (by omega);refine⟨b,off,bo,l,c,rfl,hb,hs,fun V hV=>?_⟩;have a0:=hc V hV k hk 0 (by omega);have a1:=hc V hV k hk 1 (by omega);have a2:=hc V hV k hk 2 (by omega);rw[hv]at a0 a1 a2;exact⟨a0,a1,a2⟩
end Go.Proofs.YthdhjckangekoaaGreat

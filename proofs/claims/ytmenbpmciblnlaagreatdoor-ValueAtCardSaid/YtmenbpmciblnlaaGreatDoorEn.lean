/-
  What is alive in a walk, in one fact: variables with their cells, and values that go on standing for what they stand for while the blocks that they look at stay.
-/
import Derived.Test.YtmenbpmciblnlaaGreatDoorGWInt
set_option maxHeartbeats 0
set_option maxRecDepth 100000
open Go.World renaming block_lt_of_cell?->a0b,cell?_of_block->a0a
open List renaming all_eq_true->a0c
namespace Go.Proofs.YtmenbpmciblnlaaGreatDoor
open Go.RowKit
def iJ (ao:Option Addr) (n:Nat) (c:Nat):Prop:=0<n/\∃a,ao=some a/\ a.block=c
theorem J2 {ao:Option Addr} {n cap:Nat} {xs:List Nat} (w w':World) (hh:∀c,iJ ao n c->w'.heap[c]? =w.heap[c]?) (h:Sl w ao n cap xs):Sl w' ao n cap xs:=
 ⟨h.len,h.le,h.big,h.wf,h.nil,λad had t ht=>(a0a (a:=ad.add t) (by rw[add_block];exact hh _ ⟨by omega,ad,had,rfl⟩)).trans (h.cells ad had t ht)⟩
theorem LF {ao:Option Addr} {n cap:Nat} {xs:List Nat} (w:World) (h:Sl w ao n cap xs) (c:Nat) (hc:iJ ao n c):c<w.heap.size:=by
 obtain⟨h0,a,ha,rfl⟩:=hc;have h1:=h.cells a ha 0 h0;have:=a0b w _ h1;rwa[add_block]at this
theorem UW [Ol] {ao:Option Addr} {n cap:Nat} {xs:List Nat} (w w':World) (hh:∀c,iJ ao n c->w'.heap[c]? =w.heap[c]?) (h:Dg.Sl w ao n cap xs):Dg.Sl w' ao n cap xs:=
 ⟨h.len,h.le,h.big,h.wf,h.nil,λad had t ht=>(a0a (a:=ad.add t) (by rw[add_block];exact hh _ ⟨by omega,ad,had,rfl⟩)).trans (h.cells ad had t ht),λh0 ad had=>(h.kp h0 ad had).keep (hh _ ⟨h0,ad,had,rfl⟩)⟩
theorem EN [Ol] {ao:Option Addr} {n cap:Nat} {xs:List Nat} (w:World) (h:Dg.Sl w ao n cap xs) (c:Nat) (hc:iJ ao n c):c<w.heap.size:=by
 obtain⟨h0,a,ha,rfl⟩:=hc;have h1:=h.cells a ha 0 h0;have:=a0b w _ h1;rwa[add_block]at this
def plainCell:Value->Bool
 | .int _ _=>false
 | _=>true
def Plain (B:List Var):Prop:=B.all (λv=>v.vs.all plainCell)=true
theorem Dr {w:World} {b:Nat} {vs:List Value} (h:Cells w b vs) (hp:vs.all plainCell=true) {k:IntKind} {x:Int} {ad:Addr} (hc:w.cell? ad=some (.int k x)):ad.block≠b:=by
 intro e;obtain⟨b',o,s⟩:=ad;obtain rfl:b'=b:=e;have hs:s=none:=World.cell?_spot hc
 subst hs;rw[h.cell]at hc;have hm:Value.int k x∈vs:=List.mem_of_getElem? hc;exact absurd (a0c.1 hp _ hm) (by simp[plainCell])
theorem Vars.mem {w:World} {B:Nat}:∀{l:List Var},Vars w B l->∀v∈l,Cells w v.b v.vs
 | _::_,h,v,hv=>by
  rcases List.mem_cons.1 hv with rfl|h1
  ·exact h.1
  ·exact Vars.mem h.2.2.2 v h1
theorem xM {w:World} {m:Nat} {B:List Var} (hB:Vars w m B) (hp:Plain B) {ao:Option Addr} {n cap:Nat} {xs:List Nat} (h:Sl w ao n cap xs):∀v∈B,¬iJ ao n v.b:=by
 intro v hv ⟨h0,a,ha,hb⟩;have h1:=h.cells a ha 0 h0;have h2:=Dr (hB.mem v hv) (a0c.1 hp v hv) h1;rw[add_block]at h2;exact h2 hb
theorem zG [Ol] {w:World} {m:Nat} {B:List Var} (hB:Vars w m B) (hp:Plain B) {ao:Option Addr} {n cap:Nat} {xs:List Nat} (h:Dg.Sl w ao n cap xs):∀v∈B,¬iJ ao n v.b:=by
 intro v hv ⟨h0,a,ha,hb⟩;have h1:=h.cells a ha 0 h0;have h2:=Dr (hB.mem v hv) (a0c.1 hp v hv) h1;rw[add_block]at h2;exact h2 hb
theorem EO {m:Bool} {ao:Option Addr} {n cap:Nat} {z:Int} (w w':World) (hh:∀c,iJ ao n c->w'.heap[c]? =w.heap[c]?) (h:Nx w m ao n cap z):Nx w' m ao n cap z:=by
 obtain⟨⟨xs,hs,hz⟩,hl⟩:=h;exact⟨⟨xs,J2 w w' hh hs,hz⟩,hl⟩
theorem Dt {m:Bool} {ao:Option Addr} {n cap:Nat} {z:Int} (w:World) (h:Nx w m ao n cap z) (c:Nat) (hc:iJ ao n c):c<w.heap.size:=by
 obtain⟨⟨xs,hs,hz⟩,hl⟩:=h;exact LF w hs c hc
theorem EP {m:Bool} {ao:Option Addr} {n cap:Nat} {z:Int} (w w':World) (hh:∀c,iJ ao n c->w'.heap[c]? =w.heap[c]?) (h:Cx w m ao n cap z):Cx w' m ao n cap z:=⟨⟨h.cn.neg,J2 w w' hh h.cn.sl⟩,h.le⟩
theorem EQ [Ol] {m:Bool} {ao:Option Addr} {n cap:Nat} {z:Int} (w w':World) (hh:∀c,iJ ao n c->w'.heap[c]? =w.heap[c]?) (h:Zx w m ao n cap z):Zx w' m ao n cap z:=⟨⟨h.zd.neg,UW w w' hh h.zd.sl⟩,h.le⟩
def En.sl (ao:Option Addr) (n cap:Nat) (xs:List Nat):En:=⟨λw=>Sl w ao n cap xs,iJ ao n,J2,λw h=>LF w h⟩
def En.nx (m:Bool) (ao:Option Addr) (n cap:Nat) (z:Int):En:=⟨λw=>Nx w m ao n cap z,iJ ao n,EO,λw h=>Dt w h⟩
def En.cx (m:Bool) (ao:Option Addr) (n cap:Nat) (z:Int):En:=⟨λw=>Cx w m ao n cap z,iJ ao n,EP,λw h=>LF w h.cn.sl⟩
def En.zx [Ol] (m:Bool) (ao:Option Addr) (n cap:Nat) (z:Int):En:=⟨λw=>Zx w m ao n cap z,iJ ao n,EQ,λw h=>EN w h.zd.sl⟩
def En.cells (b:Nat) (vs:List Value):En:=⟨λw=>Cells w b vs,λc=>c=b,λw w' hh h=>h.keep (hh b rfl),λw h c hc=>by rw[hc];exact h.lt⟩
theorem iZ.sl {w:World} {ao:Option Addr} {n cap:Nat} {xs:List Nat} {r:List En} (h:iZ w (.sl ao n cap xs::r)):Sl w ao n cap xs:=h.1
theorem iZ.nx {w:World} {m:Bool} {ao:Option Addr} {n cap:Nat} {z:Int} {r:List En} (h:iZ w (.nx m ao n cap z::r)):Nx w m ao n cap z:=h.1
theorem iZ.cx {w:World} {m:Bool} {ao:Option Addr} {n cap:Nat} {z:Int} {r:List En} (h:iZ w (.cx m ao n cap z::r)):Cx w m ao n cap z:=h.1
theorem iZ.zx [Ol] {w:World} {m:Bool} {ao:Option Addr} {n cap:Nat} {z:Int} {r:List En} (h:iZ w (.zx m ao n cap z::r)):Zx w m ao n cap z:=h.1
theorem iZ.cells {w:World} {b:Nat} {vs:List Value} {r:List En} (h:iZ w (.cells b vs::r)):Cells w b vs:=h.1
theorem Sx.sl {w0 w:World} {B:List Var} {N:List En} (s:Sx w0 w B N) {ao:Option Addr} {n cap:Nat} {xs:List Nat} (h:Sl w ao n cap xs) (hp:Plain B):Sx w0 w B (.sl ao n cap xs::N):=s.add _ h (xM s.b hp h)
theorem Sx.nx {w0 w:World} {B:List Var} {N:List En} (s:Sx w0 w B N) {m:Bool} {ao:Option Addr} {n cap:Nat} {z:Int} (h:Nx w m ao n cap z) (hp:Plain B):Sx w0 w B (.nx m ao n cap z::N):=by
 obtain⟨xs,hs,hz⟩:=h.inn;exact s.add (.nx m ao n cap z) h (xM s.b hp hs)
theorem Sx.cx {w0 w:World} {B:List Var} {N:List En} (s:Sx w0 w B N) {m:Bool} {ao:Option Addr} {n cap:Nat} {z:Int} (h:Cx w m ao n cap z) (hp:Plain B):Sx w0 w B (.cx m ao n cap z::N):=s.add (.cx m ao n cap z) h (xM s.b hp h.cn.sl)
theorem Sx.zx [Ol] {w0 w:World} {B:List Var} {N:List En} (s:Sx w0 w B N) {m:Bool} {ao:Option Addr} {n cap:Nat} {z:Int} (h:Zx w m ao n cap z) (hp:Plain B):Sx w0 w B (.zx m ao n cap z::N):=s.add (.zx m ao n cap z) h (zG s.b hp h.zd.sl)
structure Nb (w:World) (m:Bool) (ao:Option Addr) (n cap:Nat) (z:Int) (k:Nat):Prop where
 nx:Nx w m ao n cap z
 bd:Bd z k
structure Cb (w:World) (m:Bool) (ao:Option Addr) (n cap:Nat) (z:Int) (k:Nat):Prop where
 cx:Cx w m ao n cap z
 bd:Bd z k
structure Zb [Ol] (w:World) (m:Bool) (ao:Option Addr) (n cap:Nat) (z:Int) (k:Nat):Prop where
 zx:Zx w m ao n cap z
 bd:Bd z k
theorem Cn.cb {w:World} {m:Bool} {ao:Option Addr} {n cap:Nat} {z:Int} {k:Nat} (h:Cn w m ao n cap z) (hb:Bd z k) (hk:k<=1000000):Cb w m ao n cap z k:=⟨h.cx hb hk,hb⟩
theorem Zd.zb [Ol] {w:World} {m:Bool} {ao:Option Addr} {n cap:Nat} {z:Int} {k:Nat} (h:Zd w m ao n cap z) (hb:Bd z k) (hk:k<=100000):Zb w m ao n cap z k:=⟨h.zx hb hk,hb⟩
def En.nb (m:Bool) (ao:Option Addr) (n cap:Nat) (z:Int) (k:Nat):En:=⟨λw=>Nb w m ao n cap z k,iJ ao n,λw w' hh h=>⟨EO w w' hh h.nx,h.bd⟩,λw h=>Dt w h.nx⟩
def En.cb (m:Bool) (ao:Option Addr) (n cap:Nat) (z:Int) (k:Nat):En:=⟨λw=>Cb w m ao n cap z k,iJ ao n,λw w' hh h=>⟨EP w w' hh h.cx,h.bd⟩,λw h=>LF w h.cx.cn.sl⟩
def En.zb [Ol] (m:Bool) (ao:Option Addr) (n cap:Nat) (z:Int) (k:Nat):En:=⟨λw=>Zb w m ao n cap z k,iJ ao n,λw w' hh h=>⟨EQ w w' hh h.zx,h.bd⟩,λw h=>EN w h.zx.zd.sl⟩
theorem iZ.nb {w:World} {m:Bool} {ao:Option Addr} {n cap:Nat} {z:Int} {k:Nat} {r:List En} (h:iZ w (.nb m ao n cap z k::r)):Nb w m ao n cap z k:=h.1
theorem iZ.cb {w:World} {m:Bool} {ao:Option Addr} {n cap:Nat} {z:Int} {k:Nat} {r:List En} (h:iZ w (.cb m ao n cap z k::r)):Cb w m ao n cap z k:=h.1
theorem iZ.zb [Ol] {w:World} {m:Bool} {ao:Option Addr} {n cap:Nat} {z:Int} {k:Nat} {r:List En} (h:iZ w (.zb m ao n cap z k::r)):Zb w m ao n cap z k:=h.1
theorem Sx.nb {w0 w:World} {B:List Var} {N:List En} (s:Sx w0 w B N) {m:Bool} {ao:Option Addr} {n cap:Nat} {z:Int} {k:Nat} (h:Nb w m ao n cap z k) (hp:Plain B):Sx w0 w B (.nb m ao n cap z k::N):=by
 obtain⟨xs,hs,hz⟩:=h.nx.inn;exact s.add (.nb m ao n cap z k) h (xM s.b hp hs)
theorem Sx.cb {w0 w:World} {B:List Var} {N:List En} (s:Sx w0 w B N) {m:Bool} {ao:Option Addr} {n cap:Nat} {z:Int} {k:Nat} (h:Cb w m ao n cap z k) (hp:Plain B):Sx w0 w B (.cb m ao n cap z k::N):=s.add (.cb m ao n cap z k) h (xM s.b hp h.cx.cn.sl)
theorem Sx.zb [Ol] {w0 w:World} {B:List Var} {N:List En} (s:Sx w0 w B N) {m:Bool} {ao:Option Addr} {n cap:Nat} {z:Int} {k:Nat} (h:Zb w m ao n cap z k) (hp:Plain B):Sx w0 w B (.zb m ao n cap z k::N):=s.add (.zb m ao n cap z k) h (zG s.b hp h.zx.zd.sl)
end Go.Proofs.YtmenbpmciblnlaaGreatDoor

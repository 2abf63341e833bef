import Derived.Test.YtmenbpmciblnlaaGreatDoorGWInt
set_option maxHeartbeats 0
set_option maxRecDepth 100000
open Go renaming Value->ah6,World->ah5
open Go.World renaming block_lt_of_cell?->ah8,cell?_of_block->ah7
open List renaming all_eq_true->ah9
namespace Go.Proofs.YtmenbpmciblnlaaGreatDoor
open Go.RowKit
def gV (ao:Z') (n:Nat) (c:Nat):Prop:=0<n/\∃a,ao=some a/\ a.block=c
theorem FA {ao:Z'} {n ae:Nat} {xs:List Nat} (w w':ah5) (hh:∀c,gV ao n c->w'.heap[c]? =w.heap[c]?) (h:Sl w ao n ae xs):Sl w' ao n ae xs:=
 ⟨h.len,h.le,h.big,h.wf,h.nil,λad had t ht=>(ah7 (a:=ad.add t) (by rw[kB];exact hh _ ⟨by omega,ad,had,rfl⟩)).trans (h.cells ad had t ht)⟩
theorem MW {ao:Z'} {n ae:Nat} {xs:List Nat} (w:ah5) (h:Sl w ao n ae xs) (c:Nat) (hc:gV ao n c):c<w.heap.size:=by
 obtain⟨h0,a,ha,rfl⟩:=hc;have h1:=h.cells a ha 0 h0;have:=ah8 w _ h1;rwa[kB]at this
theorem QN [Ol] {ao:Z'} {n ae:Nat} {xs:List Nat} (w w':ah5) (hh:∀c,gV ao n c->w'.heap[c]? =w.heap[c]?) (h:Dg.Sl w ao n ae xs):Dg.Sl w' ao n ae xs:=
 ⟨h.len,h.le,h.big,h.wf,h.nil,λad had t ht=>(ah7 (a:=ad.add t) (by rw[kB];exact hh _ ⟨by omega,ad,had,rfl⟩)).trans (h.cells ad had t ht),λh0 ad had=>(h.kp h0 ad had).ct (hh _ ⟨h0,ad,had,rfl⟩)⟩
theorem FB [Ol] {ao:Z'} {n ae:Nat} {xs:List Nat} (w:ah5) (h:Dg.Sl w ao n ae xs) (c:Nat) (hc:gV ao n c):c<w.heap.size:=by
 obtain⟨h0,a,ha,rfl⟩:=hc;have h1:=h.cells a ha 0 h0;have:=ah8 w _ h1;rwa[kB]at this
def uh:ah6->Bool
 | .int _ _=>false
 | _=>true
def xV (B:List qy):Prop:=B.all (λv=>v.vs.all uh)=true
theorem zi {w:ah5} {b:Nat} {vs:List ah6} (h:dw w b vs) (hp:vs.all uh=true) {k:IntKind} {x:Int} {ad:Addr} (hc:w.cell? ad=some (.int k x)):ad.block≠b:=by
 intro e;obtain⟨b',o,s⟩:=ad;obtain rfl:b'=b:=e;have hs:s=none:=World.cell?_spot hc
 subst hs;rw[h.cell]at hc;have hm:Value.int k x∈vs:=List.mem_of_getElem? hc;exact absurd (ah9.1 hp _ hm) (by simp[uh])
theorem jh.mem {w:ah5} {B:Nat}:∀{l:List qy},jh w B l->∀v∈l,dw w v.b v.vs
 | _::_,h,v,hv=>by
  rcases List.mem_cons.1 hv with rfl|h1
  ·exact h.1
  ·exact jh.mem h.2.2.2 v h1
theorem FC {w:ah5} {m:Nat} {B:List qy} (hB:jh w m B) (hp:xV B) {ao:Z'} {n ae:Nat} {xs:List Nat} (h:Sl w ao n ae xs):∀v∈B,¬gV ao n v.b:=by
 intro v hv ⟨h0,a,ha,hb⟩;have h1:=h.cells a ha 0 h0;have h2:=zi (hB.mem v hv) (ah9.1 hp v hv) h1;rw[kB]at h2;exact h2 hb
theorem QO [Ol] {w:ah5} {m:Nat} {B:List qy} (hB:jh w m B) (hp:xV B) {ao:Z'} {n ae:Nat} {xs:List Nat} (h:Dg.Sl w ao n ae xs):∀v∈B,¬gV ao n v.b:=by
 intro v hv ⟨h0,a,ha,hb⟩;have h1:=h.cells a ha 0 h0;have h2:=zi (hB.mem v hv) (ah9.1 hp v hv) h1;rw[kB]at h2;exact h2 hb
theorem FD {m:Bool} {ao:Z'} {n ae:Nat} {z:Int} (w w':ah5) (hh:∀c,gV ao n c->w'.heap[c]? =w.heap[c]?) (h:Nx w m ao n ae z):Nx w' m ao n ae z:=by
 obtain⟨⟨xs,hs,hz⟩,hl⟩:=h;exact⟨⟨xs,FA w w' hh hs,hz⟩,hl⟩
theorem CU {m:Bool} {ao:Z'} {n ae:Nat} {z:Int} (w:ah5) (h:Nx w m ao n ae z) (c:Nat) (hc:gV ao n c):c<w.heap.size:=by
 obtain⟨⟨xs,hs,hz⟩,hl⟩:=h;exact MW w hs c hc
theorem FE {m:Bool} {ao:Z'} {n ae:Nat} {z:Int} (w w':ah5) (hh:∀c,gV ao n c->w'.heap[c]? =w.heap[c]?) (h:Cx w m ao n ae z):Cx w' m ao n ae z:=⟨⟨h.cn.neg,FA w w' hh h.cn.sl⟩,h.le⟩
theorem FH [Ol] {m:Bool} {ao:Z'} {n ae:Nat} {z:Int} (w w':ah5) (hh:∀c,gV ao n c->w'.heap[c]? =w.heap[c]?) (h:Zx w m ao n ae z):Zx w' m ao n ae z:=⟨⟨h.zd.neg,QN w w' hh h.zd.sl⟩,h.le⟩
def En.sl (ao:Z') (n ae:Nat) (xs:List Nat):En:=⟨λw=>Sl w ao n ae xs,gV ao n,FA,λw h=>MW w h⟩
def En.cells (b:Nat) (vs:List ah6):En:=⟨λw=>dw w b vs,λc=>c=b,λw w' hh h=>h.ct (hh b rfl),λw h c hc=>by rw[hc];exact h.lt⟩
theorem iD.sl {w:ah5} {ao:Z'} {n ae:Nat} {xs:List Nat} {r:List En} (h:iD w (.sl ao n ae xs::r)):Sl w ao n ae xs:=h.1
theorem iD.cells {w:ah5} {b:Nat} {vs:List ah6} {r:List En} (h:iD w (.cells b vs::r)):dw w b vs:=h.1
structure Nb (w:ah5) (m:Bool) (ao:Option Addr) (n ae:Nat) (z:Int) (k:Nat):Prop where
 nx:Nx w m ao n ae z
 bd:Bd z k
structure Cb (w:ah5) (m:Bool) (ao:Option Addr) (n ae:Nat) (z:Int) (k:Nat):Prop where
 cx:Cx w m ao n ae z
 bd:Bd z k
structure Zb [Ol] (w:ah5) (m:Bool) (ao:Option Addr) (n ae:Nat) (z:Int) (k:Nat):Prop where
 zx:Zx w m ao n ae z
 bd:Bd z k
theorem Cn.cb {w:ah5} {m:Bool} {ao:Z'} {n ae:Nat} {z:Int} {k:Nat} (h:Cn w m ao n ae z) (hb:Bd z k) (hk:k<=1000000):Cb w m ao n ae z k:=⟨h.cx hb hk,hb⟩
theorem Zd.zb [Ol] {w:ah5} {m:Bool} {ao:Z'} {n ae:Nat} {z:Int} {k:Nat} (h:Zd w m ao n ae z) (hb:Bd z k) (hk:k<=100000):Zb w m ao n ae z k:=⟨h.zx hb hk,hb⟩
def En.nb (m:Bool) (ao:Z') (n ae:Nat) (z:Int) (k:Nat):En:=⟨λw=>Nb w m ao n ae z k,gV ao n,λw w' hh h=>⟨FD w w' hh h.nx,h.bd⟩,λw h=>CU w h.nx⟩
def En.cb (m:Bool) (ao:Z') (n ae:Nat) (z:Int) (k:Nat):En:=⟨λw=>Cb w m ao n ae z k,gV ao n,λw w' hh h=>⟨FE w w' hh h.cx,h.bd⟩,λw h=>MW w h.cx.cn.sl⟩
def En.zb [Ol] (m:Bool) (ao:Z') (n ae:Nat) (z:Int) (k:Nat):En:=⟨λw=>Zb w m ao n ae z k,gV ao n,λw w' hh h=>⟨FH w w' hh h.zx,h.bd⟩,λw h=>FB w h.zx.zd.sl⟩
theorem iD.nb {w:ah5} {m:Bool} {ao:Z'} {n ae:Nat} {z:Int} {k:Nat} {r:List En} (h:iD w (.nb m ao n ae z k::r)):Nb w m ao n ae z k:=h.1
theorem iD.cb {w:ah5} {m:Bool} {ao:Z'} {n ae:Nat} {z:Int} {k:Nat} {r:List En} (h:iD w (.cb m ao n ae z k::r)):Cb w m ao n ae z k:=h.1
theorem iD.zb [Ol] {w:ah5} {m:Bool} {ao:Z'} {n ae:Nat} {z:Int} {k:Nat} {r:List En} (h:iD w (.zb m ao n ae z k::r)):Zb w m ao n ae z k:=h.1
theorem Sx.nb {w0 w:ah5} {B:List qy} {N:List En} (s:Sx w0 w B N) {m:Bool} {ao:Z'} {n ae:Nat} {z:Int} {k:Nat} (h:Nb w m ao n ae z k) (hp:xV B):Sx w0 w B (.nb m ao n ae z k::N):=by
 obtain⟨xs,hs,hz⟩:=h.nx.LB;exact s.add (.nb m ao n ae z k) h (FC s.b hp hs)
theorem Sx.cb {w0 w:ah5} {B:List qy} {N:List En} (s:Sx w0 w B N) {m:Bool} {ao:Z'} {n ae:Nat} {z:Int} {k:Nat} (h:Cb w m ao n ae z k) (hp:xV B):Sx w0 w B (.cb m ao n ae z k::N):=s.add (.cb m ao n ae z k) h (FC s.b hp h.cx.cn.sl)
theorem Sx.zb [Ol] {w0 w:ah5} {B:List qy} {N:List En} (s:Sx w0 w B N) {m:Bool} {ao:Z'} {n ae:Nat} {z:Int} {k:Nat} (h:Zb w m ao n ae z k) (hp:xV B):Sx w0 w B (.zb m ao n ae z k::N):=s.add (.zb m ao n ae z k) h (QO s.b hp h.zx.zd.sl)
end Go.Proofs.YtmenbpmciblnlaaGreatDoor

/-
  What is alive in a walk, in one fact: variables with their cells, and values that go on standing for what they stand for while the blocks that they look at stay.
-/
import Derived.Test.YtmmgipcacceakaaGreatGWInt
set_option maxHeartbeats 40000000
set_option maxRecDepth 100000
namespace Go.Proofs.YtmmgipcacceakaaGreat
open Go.RowKit
def slFoot (ao : Option Addr) (n : Nat) (c : Nat) : Prop := 0 < n ∧ ∃ a, ao = some a ∧ a.block = c
theorem sl_dep {ao : Option Addr} {n cap : Nat} {xs : List Nat} (w w' : World) (hh : ∀ c, slFoot ao n c → w'.heap[c]? = w.heap[c]?) (h : Sl w ao n cap xs) : Sl w' ao n cap xs :=
 ⟨h.len, h.le, h.big, h.wf, h.nil, fun ad had t ht => (World.cell?_of_block (a := ad.add t) (by rw [add_block]; exact hh _ ⟨by omega, ad, had, rfl⟩)).trans (h.cells ad had t ht)⟩
theorem sl_lt {ao : Option Addr} {n cap : Nat} {xs : List Nat} (w : World) (h : Sl w ao n cap xs) (c : Nat) (hc : slFoot ao n c) : c < w.heap.size := by
 obtain ⟨h0, a, ha, rfl⟩ := hc; have h1 := h.cells a ha 0 h0
 have := World.block_lt_of_cell? w _ h1
 rwa [add_block] at this
theorem dsl_dep [Ol] {ao : Option Addr} {n cap : Nat} {xs : List Nat} (w w' : World) (hh : ∀ c, slFoot ao n c → w'.heap[c]? = w.heap[c]?) (h : Dg.Sl w ao n cap xs) : Dg.Sl w' ao n cap xs :=
 ⟨h.len, h.le, h.big, h.wf, h.nil, fun ad had t ht => (World.cell?_of_block (a := ad.add t) (by rw [add_block]; exact hh _ ⟨by omega, ad, had, rfl⟩)).trans (h.cells ad had t ht), fun h0 ad had => (h.kp h0 ad had).keep (hh _ ⟨h0, ad, had, rfl⟩)⟩
theorem dsl_lt [Ol] {ao : Option Addr} {n cap : Nat} {xs : List Nat} (w : World) (h : Dg.Sl w ao n cap xs) (c : Nat) (hc : slFoot ao n c) : c < w.heap.size := by
 obtain ⟨h0, a, ha, rfl⟩ := hc; have h1 := h.cells a ha 0 h0
 have := World.block_lt_of_cell? w _ h1
 rwa [add_block] at this
def plainCell : Value → Bool
 | .int _ _ => false
 | _ => true
def Plain (B : List Var) : Prop := B.all (fun v => v.vs.all plainCell) = true
theorem plain_far {w : World} {b : Nat} {vs : List Value} (h : Cells w b vs) (hp : vs.all plainCell = true) {k : IntKind} {x : Int} {ad : Addr} (hc : w.cell? ad = some (.int k x)) : ad.block ≠ b := by
 intro e
 obtain ⟨b', o, s⟩ := ad; obtain rfl : b' = b := e
 have hs : s = none := World.cell?_spot hc
 subst hs; rw [h.cell] at hc
 have hm : Value.int k x ∈ vs := List.mem_of_getElem? hc
 exact absurd (List.all_eq_true.1 hp _ hm) (by simp [plainCell])
theorem Vars.mem {w : World} {B : Nat} : ∀ {l : List Var}, Vars w B l → ∀ v ∈ l, Cells w v.b v.vs
 | _ :: _, h, v, hv => by
  rcases List.mem_cons.1 hv with rfl | h1
  ·exact h.1
  ·exact Vars.mem h.2.2.2 v h1
theorem sl_dis {w : World} {m : Nat} {B : List Var} (hB : Vars w m B) (hp : Plain B) {ao : Option Addr} {n cap : Nat} {xs : List Nat} (h : Sl w ao n cap xs) : ∀ v ∈ B, ¬ slFoot ao n v.b := by
 intro v hv ⟨h0, a, ha, hb⟩
 have h1 := h.cells a ha 0 h0; have h2 := plain_far (hB.mem v hv) (List.all_eq_true.1 hp v hv) h1; rw [add_block] at h2
 exact h2 hb
theorem dsl_dis [Ol] {w : World} {m : Nat} {B : List Var} (hB : Vars w m B) (hp : Plain B) {ao : Option Addr} {n cap : Nat} {xs : List Nat} (h : Dg.Sl w ao n cap xs) : ∀ v ∈ B, ¬ slFoot ao n v.b := by
 intro v hv ⟨h0, a, ha, hb⟩
 have h1 := h.cells a ha 0 h0; have h2 := plain_far (hB.mem v hv) (List.all_eq_true.1 hp v hv) h1; rw [add_block] at h2
 exact h2 hb
theorem nx_dep {m : Bool} {ao : Option Addr} {n cap : Nat} {z : Int} (w w' : World) (hh : ∀ c, slFoot ao n c → w'.heap[c]? = w.heap[c]?) (h : Nx w m ao n cap z) : Nx w' m ao n cap z := by
 obtain ⟨⟨xs, hs, hz⟩, hl⟩ := h
 exact ⟨⟨xs, sl_dep w w' hh hs, hz⟩, hl⟩
theorem nx_lt {m : Bool} {ao : Option Addr} {n cap : Nat} {z : Int} (w : World) (h : Nx w m ao n cap z) (c : Nat) (hc : slFoot ao n c) : c < w.heap.size := by
 obtain ⟨⟨xs, hs, hz⟩, hl⟩ := h
 exact sl_lt w hs c hc
theorem cx_dep {m : Bool} {ao : Option Addr} {n cap : Nat} {z : Int} (w w' : World) (hh : ∀ c, slFoot ao n c → w'.heap[c]? = w.heap[c]?) (h : Cx w m ao n cap z) : Cx w' m ao n cap z := ⟨⟨h.cn.neg, sl_dep w w' hh h.cn.sl⟩, h.le⟩
theorem zx_dep [Ol] {m : Bool} {ao : Option Addr} {n cap : Nat} {z : Int} (w w' : World) (hh : ∀ c, slFoot ao n c → w'.heap[c]? = w.heap[c]?) (h : Zx w m ao n cap z) : Zx w' m ao n cap z := ⟨⟨h.zd.neg, dsl_dep w w' hh h.zd.sl⟩, h.le⟩
def En.sl (ao : Option Addr) (n cap : Nat) (xs : List Nat) : En := ⟨fun w => Sl w ao n cap xs, slFoot ao n, sl_dep, fun w h => sl_lt w h⟩
def En.nx (m : Bool) (ao : Option Addr) (n cap : Nat) (z : Int) : En := ⟨fun w => Nx w m ao n cap z, slFoot ao n, nx_dep, fun w h => nx_lt w h⟩
def En.cx (m : Bool) (ao : Option Addr) (n cap : Nat) (z : Int) : En := ⟨fun w => Cx w m ao n cap z, slFoot ao n, cx_dep, fun w h => sl_lt w h.cn.sl⟩
def En.zx [Ol] (m : Bool) (ao : Option Addr) (n cap : Nat) (z : Int) : En := ⟨fun w => Zx w m ao n cap z, slFoot ao n, zx_dep, fun w h => dsl_lt w h.zd.sl⟩
def En.cells (b : Nat) (vs : List Value) : En := ⟨fun w => Cells w b vs, fun c => c = b, fun w w' hh h => h.keep (hh b rfl), fun w h c hc => by rw [hc]; exact h.lt⟩
theorem Alls.sl {w : World} {ao : Option Addr} {n cap : Nat} {xs : List Nat} {r : List En} (h : Alls w (.sl ao n cap xs :: r)) : Sl w ao n cap xs := h.1
theorem Alls.nx {w : World} {m : Bool} {ao : Option Addr} {n cap : Nat} {z : Int} {r : List En} (h : Alls w (.nx m ao n cap z :: r)) : Nx w m ao n cap z := h.1
theorem Alls.cx {w : World} {m : Bool} {ao : Option Addr} {n cap : Nat} {z : Int} {r : List En} (h : Alls w (.cx m ao n cap z :: r)) : Cx w m ao n cap z := h.1
theorem Alls.zx [Ol] {w : World} {m : Bool} {ao : Option Addr} {n cap : Nat} {z : Int} {r : List En} (h : Alls w (.zx m ao n cap z :: r)) : Zx w m ao n cap z := h.1
theorem Alls.cells {w : World} {b : Nat} {vs : List Value} {r : List En} (h : Alls w (.cells b vs :: r)) : Cells w b vs := h.1
theorem Sx.sl {w0 w : World} {B : List Var} {N : List En} (s : Sx w0 w B N) {ao : Option Addr} {n cap : Nat} {xs : List Nat} (h : Sl w ao n cap xs) (hp : Plain B) : Sx w0 w B (.sl ao n cap xs :: N) := s.add _ h (sl_dis s.b hp h)
theorem Sx.nx {w0 w : World} {B : List Var} {N : List En} (s : Sx w0 w B N) {m : Bool} {ao : Option Addr} {n cap : Nat} {z : Int} (h : Nx w m ao n cap z) (hp : Plain B) : Sx w0 w B (.nx m ao n cap z :: N) := by
 obtain ⟨xs, hs, hz⟩ := h.inn
 exact s.add (.nx m ao n cap z) h (sl_dis s.b hp hs)
theorem Sx.cx {w0 w : World} {B : List Var} {N : List En} (s : Sx w0 w B N) {m : Bool} {ao : Option Addr} {n cap : Nat} {z : Int} (h : Cx w m ao n cap z) (hp : Plain B) : Sx w0 w B (.cx m ao n cap z :: N) := s.add (.cx m ao n cap z) h (sl_dis s.b hp h.cn.sl)
theorem Sx.zx [Ol] {w0 w : World} {B : List Var} {N : List En} (s : Sx w0 w B N) {m : Bool} {ao : Option Addr} {n cap : Nat} {z : Int} (h : Zx w m ao n cap z) (hp : Plain B) : Sx w0 w B (.zx m ao n cap z :: N) := s.add (.zx m ao n cap z) h (dsl_dis s.b hp h.zd.sl)
structure Nb (w : World) (m : Bool) (ao : Option Addr) (n cap : Nat) (z : Int) (k : Nat) : Prop where
 nx : Nx w m ao n cap z
 bd : Bd z k
structure Cb (w : World) (m : Bool) (ao : Option Addr) (n cap : Nat) (z : Int) (k : Nat) : Prop where
 cx : Cx w m ao n cap z
 bd : Bd z k
theorem Cn.cb {w : World} {m : Bool} {ao : Option Addr} {n cap : Nat} {z : Int} {k : Nat} (h : Cn w m ao n cap z) (hb : Bd z k) (hk : k ≤ 1000000) : Cb w m ao n cap z k := ⟨h.cx hb hk, hb⟩
def En.nb (m : Bool) (ao : Option Addr) (n cap : Nat) (z : Int) (k : Nat) : En := ⟨fun w => Nb w m ao n cap z k, slFoot ao n, fun w w' hh h => ⟨nx_dep w w' hh h.nx, h.bd⟩, fun w h => nx_lt w h.nx⟩
def En.cb (m : Bool) (ao : Option Addr) (n cap : Nat) (z : Int) (k : Nat) : En := ⟨fun w => Cb w m ao n cap z k, slFoot ao n, fun w w' hh h => ⟨cx_dep w w' hh h.cx, h.bd⟩, fun w h => sl_lt w h.cx.cn.sl⟩
theorem Alls.nb {w : World} {m : Bool} {ao : Option Addr} {n cap : Nat} {z : Int} {k : Nat} {r : List En} (h : Alls w (.nb m ao n cap z k :: r)) : Nb w m ao n cap z k := h.1
theorem Alls.cb {w : World} {m : Bool} {ao : Option Addr} {n cap : Nat} {z : Int} {k : Nat} {r : List En} (h : Alls w (.cb m ao n cap z k :: r)) : Cb w m ao n cap z k := h.1
theorem Sx.nb {w0 w : World} {B : List Var} {N : List En} (s : Sx w0 w B N) {m : Bool} {ao : Option Addr} {n cap : Nat} {z : Int} {k : Nat} (h : Nb w m ao n cap z k) (hp : Plain B) : Sx w0 w B (.nb m ao n cap z k :: N) := by
 obtain ⟨xs, hs, hz⟩ := h.nx.inn
 exact s.add (.nb m ao n cap z k) h (sl_dis s.b hp hs)
theorem Sx.cb {w0 w : World} {B : List Var} {N : List En} (s : Sx w0 w B N) {m : Bool} {ao : Option Addr} {n cap : Nat} {z : Int} {k : Nat} (h : Cb w m ao n cap z k) (hp : Plain B) : Sx w0 w B (.cb m ao n cap z k :: N) := s.add (.cb m ao n cap z k) h (sl_dis s.b hp h.cx.cn.sl)
end Go.Proofs.YtmmgipcacceakaaGreat

/-
  What is alive in a walk, in one fact: variables with their cells, and values that go on standing for what they stand for while the blocks that they look at stay.
-/
import Derived.Test.YtmbgljjfmbhelaaGreatGWInt
set_option maxHeartbeats 40000000
set_option maxRecDepth 100000
namespace Go.Proofs.YtmbgljjfmbhelaaGreat
open Go.RowKit
theorem Vars.mem {w : World} {B : Nat} : ∀ {l : List Var}, Vars w B l → ∀ v ∈ l, Cells w v.b v.vs
 | _ :: _, h, v, hv => by
  rcases List.mem_cons.1 hv with rfl | h1
  ·exact h.1
  ·exact Vars.mem h.2.2.2 v h1
def En.cells (b : Nat) (vs : List Value) : En := ⟨fun w => Cells w b vs, fun c => c = b, fun w w' hh h => h.keep (hh b rfl), fun w h c hc => by rw [hc]; exact h.lt⟩
structure Cb (w : World) (m : Bool) (ao : Option Addr) (n cap : Nat) (z : Int) (k : Nat) : Prop where
 cx : Cx w m ao n cap z
 bd : Bd z k
theorem Cn.cb {w : World} {m : Bool} {ao : Option Addr} {n cap : Nat} {z : Int} {k : Nat} (h : Cn w m ao n cap z) (hb : Bd z k) (hk : k ≤ 1000000) : Cb w m ao n cap z k := ⟨h.cx hb hk, hb⟩
end Go.Proofs.YtmbgljjfmbhelaaGreat

/-
  The state of a law's walk in one fact: the variables, the numbers, and that what was there before stays.
-/
import Derived.Test.YtponiigpmjnffaaWInt
set_option maxRecDepth 8192
namespace Go.Proofs.Ytponiigpmjnffaa
open Go.RowKit

/-- the variables' cells; what the numbers stand for; the memory that was there at the start -/
structure St (w0 w : World) (B N : List Ent) : Prop where
  b : Live w B
  n : Live w N
  h : Below w0.heap.size w0 w

theorem St.step {w0 w w' : World} {B N : List Ent} (s : St w0 w B N) (hb : Below w.heap.size w w') : St w0 w' B N := ⟨s.b.below hb, s.n.below hb, Below.steps s.h hb⟩
theorem St.drew {w0 w : World} {B N : List Ent} (s : St w0 w B N) : St w0 w.drew B N := s.step (Below.refl _ _).drew
theorem St.can {w0 w : World} {B N : List Ent} {m : Bool} {ao : Option Addr} {n cap : Nat} {z : Int} (s : St w0 w B N) (h : Cx w m ao n cap z) : St w0 w B (.can m ao n cap z :: N) := ⟨s.b, ⟨h, s.n⟩, s.h⟩
theorem St.zed {w0 w : World} {B N : List Ent} {m : Bool} {ao : Option Addr} {n cap : Nat} {z : Int} (s : St w0 w B N) (h : Zx w m ao n cap z) : St w0 w B (.zed m ao n cap z :: N) := ⟨s.b, ⟨h, s.n⟩, s.h⟩
theorem St.num {w0 w : World} {B N : List Ent} {m : Bool} {ao : Option Addr} {n cap : Nat} {z : Int} (s : St w0 w B N) (h : Nx w m ao n cap z) : St w0 w B (.num m ao n cap z :: N) := ⟨s.b, ⟨h, s.n⟩, s.h⟩
theorem St.sl {w0 w : World} {B N : List Ent} {ao : Option Addr} {n cap : Nat} {xs : List Nat} (s : St w0 w B N) (h : Sl w ao n cap xs) : St w0 w B (.sl ao n cap xs :: N) := ⟨s.b, ⟨h, s.n⟩, s.h⟩
theorem St.box {w0 w : World} {B N : List Ent} {b : Nat} {m : Bool} {ao : Option Addr} {n cap : Nat} (s : St w0 w B N) (h : Box w b m ao n cap) : St w0 w (.box b m ao n cap :: B) N := ⟨⟨h, s.b⟩, s.n, s.h⟩

/-- a new variable -/
theorem St.alloc {w0 w : World} {B N : List Ent} (s : St w0 w B N) (b : Nat) (m : Bool) (ao : Option Addr) (n cap : Nat) (T : TypeId) (hb : b = w.heap.size) : St w0 (w.alloc (.cells #[.bool m, .slice ao n cap] T)) (.box b m ao n cap :: B) N :=
  (s.step (below_alloc w _)).box (Box.new w b m ao n cap T hb)

/-- a variable is written anew that lies elsewhere than all others -/
theorem St.put {w0 w : World} {B N : List Ent} {b : Nat} {m : Bool} {ao : Option Addr} {n cap : Nat} (s : St w0 w B N) (hb : Box w b m ao n cap) (u v : Value) (h0 : w0.heap.size ≤ b) (hB : Apart b B) (hN : Apart b N) : St w0 ((w.setCell ⟨b, 0, none⟩ u).setCell ⟨b, 1, none⟩ v) B N :=
  ⟨Live.put hb u v s.b hB, Live.put hb u v s.n hN, below_set2 s.h h0 u v⟩

theorem Live.c {w : World} {b : Nat} {m : Bool} {ao : Option Addr} {n cap : Nat} {r : List Ent} (h : Live w (.box b m ao n cap :: r)) : w.cell? ⟨b, 0, none⟩ = some (.bool m) ∧ w.cell? ⟨b, 1, none⟩ = some (.slice ao n cap) := ⟨h.box.c0, h.box.c1⟩

theorem Live.t {w : World} {e : Ent} {r : List Ent} (h : Live w (e :: r)) : Live w r := h.2

/-- numbers alone lie elsewhere than any variable -/
def Nums : List Ent → Prop
  | [] => True
  | .box .. :: _ => False
  | .fn .. :: _ => False
  | _ :: r => Nums r

theorem nums_apart {b : Nat} : ∀ {l : List Ent}, Nums l → Apart b l
  | [], _ => trivial
  | .sl .. :: _, h => ⟨trivial, nums_apart h⟩
  | .num .. :: _, h => ⟨trivial, nums_apart h⟩
  | .can .. :: _, h => ⟨trivial, nums_apart h⟩
  | .zed .. :: _, h => ⟨trivial, nums_apart h⟩

/-- all of these lie below block b -/
def Under (b : Nat) : List Ent → Prop
  | [] => True
  | .box c .. :: r => c < b ∧ Under b r
  | _ :: r => Under b r

theorem under_of {w : World} : ∀ {l : List Ent}, Live w l → Under w.heap.size l
  | [], _ => trivial
  | .sl .. :: _, h => by have h2 := under_of h.2; exact h2
  | .num .. :: _, h => by have h2 := under_of h.2; exact h2
  | .can .. :: _, h => by have h2 := under_of h.2; exact h2
  | .zed .. :: _, h => by have h2 := under_of h.2; exact h2
  | .box .. :: _, h => ⟨Box.lt h.1, under_of h.2⟩
  | .fn .. :: _, h => by have h2 := under_of h.2; exact h2

/-- variables alone -/
def Vars : List Ent → Prop
  | [] => True
  | .box .. :: r => Vars r
  | _ :: _ => False

theorem under_apart {b : Nat} : ∀ {l : List Ent}, Vars l → Under b l → Apart b l
  | [], _, _ => trivial
  | .box .. :: _, hv, h => ⟨fun e => absurd h.1 (by omega), under_apart hv h.2⟩

/-- the frame behind a write to a slot, laid out -/
theorem nrm : (∀ (t : List Value) (d : List Deferred) (j : Nat) (v : Value), Act.put ⟨t.toArray, d⟩ (some j) v = ⟨(t.set j v).toArray, d⟩) ∧ (∀ (a : Act) (v : Value), a.put none v = a) ∧
    (∀ (x y : Value) (l : List Value), (x :: l).set 0 y = y :: l) ∧ (∀ (x y : Value) (l : List Value) (j : Nat), (x :: l).set (j + 1) y = x :: l.set j y) :=
  ⟨fun t d j v => by simp [Act.put], fun a v => rfl, fun x y l => rfl, fun x y l j => rfl⟩

end Go.Proofs.Ytponiigpmjnffaa

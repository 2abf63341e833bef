/-
  The state of a law's walk in one fact: the variables, the numbers, and that what was there before stays.
-/
import Derived.Test.YtponiigpmjnffaaWInt
set_option maxRecDepth 8192
namespace Go.Proofs.Ytponiigpmjnffaa
open Go.RowKit

/-- the variables' cells; what the numbers stand for; the memory that was there at the start -/
structure St (w0 w : World) (B N : List Ent) : Prop where
  b : Live w B
  n : Live w N
  h : Below w0.heap.size w0 w

theorem St.step {w0 w w' : World} {B N : List Ent} (s : St w0 w B N) (hb : Below w.heap.size w w') : St w0 w' B N := ⟨s.b.below hb, s.n.below hb, Below.steps s.h hb⟩
theorem St.drew {w0 w : World} {B N : List Ent} (s : St w0 w B N) : St w0 w.drew B N := s.step (Below.refl _ _).drew
theorem St.can {w0 w : World} {B N : List Ent} {m : Bool} {ao : Option Addr} {n cap : Nat} {z : Int} (s : St w0 w B N) (h : Cx w m ao n cap z) : St w0 w B (.can m ao n cap z :: N) := ⟨s.b, ⟨h, s.n⟩, s.h⟩
theorem St.zed {w0 w : World} {B N : List Ent} {m : Bool} {ao : Option Addr} {n cap : Nat} {z : Int} (s : St w0 w B N) (h : Zx w m ao n cap z) : St w0 w B (.zed m ao n cap z :: N) := ⟨s.b, ⟨h, s.n⟩, s.h⟩
theorem St.num {w0 w : World} {B N : List Ent} {m : Bool} {ao : Option Addr} {n cap : Nat} {z : Int} (s : St w0 w B N) (h : Nx w m ao n cap z) : St w0 w B (.num m ao n cap z :: N) := ⟨s.b, ⟨h, s.n⟩, s.h⟩
theorem St.sl {w0 w : World} {B N : List Ent} {ao : Option Addr} {n cap : Nat} {xs : List Nat} (s : St w0 w B N) (h : Sl w ao n cap xs) : St w0 w B (.sl ao n cap xs :: N) := ⟨s.b, ⟨h, s.n⟩, s.h⟩
theorem St.box {w0 w : World} {B N : List Ent} {b : Nat} {m : Bool} {ao : Option Addr} {n cap : Nat} (s : St w0 w B N) (h : Box w b m ao n cap) : St w0 w (.box b m ao n cap :: B) N := ⟨⟨h, s.b⟩, s.n, s.h⟩

/-- a new variable -/
theorem St.alloc {w0 w : World} {B N : List Ent} (s : St w0 w B N) (b : Nat) (m : Bool) (ao : Option Addr) (n cap : Nat) (T : TypeId) (hb : b = w.heap.size) : St w0 (w.alloc (.cells #[.bool m, .slice ao n cap] T)) (.box b m ao n cap :: B) N :=
  (s.step (below_alloc w _)).box (Box.new w b m ao n cap T hb)

/-- a variable is written anew that lies elsewhere than all others -/
theorem St.put {w0 w : World} {B N : List Ent} {b : Nat} {m : Bool} {ao : Option Addr} {n cap : Nat} (s : St w0 w B N) (hb : Box w b m ao n cap) (u v : Value) (h0 : w0.heap.size ≤ b) (hB : Apart b B) (hN : Apart b N) : St w0 ((w.setCell ⟨b, 0, none⟩ u).setCell ⟨b, 1, none⟩ v) B N :=
  ⟨Live.put hb u v s.b hB, Live.put hb u v s.n hN, below_set2 s.h h0 u v⟩

theorem Live.c {w : World} {b : Nat} {m : Bool} {ao : Option Addr} {n cap : Nat} {r : List Ent} (h : Live w (.box b m ao n cap :: r)) : w.cell? ⟨b, 0, none⟩ = some (.bool m) ∧ w.cell? ⟨b, 1, none⟩ = some (.slice ao n cap) := ⟨h.box.c0, h.box.c1⟩

theorem Live.t {w : World} {e : Ent} {r : List Ent} (h : Live w (e :: r)) : Live w r := h.2

/-- numbers alone lie elsewhere than any variable -/
def Nums (l : List Ent) : Prop := l.all (fun e => decide (e.kind < 4)) = true

theorem nums_apart {b : Nat} {l : List Ent} (h : Nums l) : Apart b l := by
  induction l with
  | nil => trivial
  | cons e r ih =>
    unfold Nums at h
    rw [List.all_cons, Bool.and_eq_true] at h
    exact ⟨.inl (of_decide_eq_true h.1), ih h.2⟩

/-- all variables of these lie below block b -/
def Under (b : Nat) : List Ent → Prop
  | [] => True
  | e :: r => (e.kind < 4 ∨ e.b < b) ∧ Under b r

theorem ent_under {w : World} {e : Ent} (h : e.ok w) : e.kind < 4 ∨ e.b < w.heap.size := by
  obtain ⟨k, c, m, ao, n, cap, z, xs⟩ := e
  match k, h with
  | 0, _ => exact .inl (by show 0 < 4; omega)
  | 1, _ => exact .inl (by show 1 < 4; omega)
  | 2, _ => exact .inl (by show 2 < 4; omega)
  | 3, _ => exact .inl (by show 3 < 4; omega)
  | 4, h => exact .inr (show Box w c m ao n cap from h).lt
  | k + 5, h => exact .inr (show c < w.heap.size ∧ w.cell? ⟨c, 0, none⟩ = some (.bool m) from h).1

theorem under_of {w : World} : ∀ {l : List Ent}, Live w l → Under w.heap.size l
  | [], _ => trivial
  | _ :: _, h => ⟨ent_under h.1, under_of h.2⟩

theorem under_apart {b : Nat} : ∀ {l : List Ent}, Under b l → Apart b l
  | [], _ => trivial
  | _ :: _, h => ⟨by rcases h.1 with h2 | h2; exact .inl h2; exact .inr (Nat.ne_of_gt h2), under_apart h.2⟩

/-- the frame behind a write to a slot, laid out -/
theorem nrm : (∀ (t : List Value) (d : List Deferred) (j : Nat) (v : Value), Act.put ⟨t.toArray, d⟩ (some j) v = ⟨(t.set j v).toArray, d⟩) ∧ (∀ (a : Act) (v : Value), a.put none v = a) ∧
    (∀ (x y : Value) (l : List Value), (x :: l).set 0 y = y :: l) ∧ (∀ (x y : Value) (l : List Value) (j : Nat), (x :: l).set (j + 1) y = x :: l.set j y) :=
  ⟨fun t d j v => by simp [Act.put], fun a v => rfl, fun x y l => rfl, fun x y l j => rfl⟩

end Go.Proofs.Ytponiigpmjnffaa

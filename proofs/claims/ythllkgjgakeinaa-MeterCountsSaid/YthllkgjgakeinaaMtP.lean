/-
  A meter in plain words: limits, counts, what the first refusal would need; what a polynomial needs.
-/
import Derived.Test.YthllkgjgakeinaaGBase
import Derived.Test.YthllkgjgakeinaaTms
import Derived.Test.YthllkgjgakeinaaEc
set_option maxRecDepth 8192
namespace Go.Proofs.Ythllkgjgakeinaa
open Go.RowKit
structure MS where
  fu : Int
  li : Int
  te : Int
  pi : Int
  st : Int
  pc : Int
  wh : Int
  n : Int
def MS.new (fu li te pi : Int) : MS := ⟨fu, li, te, pi, 0, 0, 0, 0⟩
def MS.refuse (s : MS) (e n : Int) : MS := ⟨s.fu, s.li, s.te, s.pi, s.st, s.pc, if s.wh = 0 then e else s.wh, if s.wh = 0 then n else s.n⟩
def MS.step (s : MS) : MS := if s.fu ≤ s.st then s.refuse 9 (s.fu + 1) else ⟨s.fu, s.li, s.te, s.pi, s.st + 1, s.pc, s.wh, s.n⟩
def MS.stepE (s : MS) : Int := if s.fu ≤ s.st then 9 else 0
def MS.piece (s : MS) : MS := if s.pi ≤ s.pc then s.refuse 12 (s.pi + 1) else ⟨s.fu, s.li, s.te, s.pi, s.st, s.pc + 1, s.wh, s.n⟩
def MS.pieceE (s : MS) : Int := if s.pi ≤ s.pc then 12 else 0
def needL : List (List Nat) → Nat
  | [] => 0
  | x :: r => max (nl x) (needL r)
def MS.keep (s : MS) (p : List (List Nat)) : MS := if s.li < (needL p : Nat) then s.refuse 10 (needL p : Nat) else if s.te < (p.length : Nat) then s.refuse 11 (p.length : Nat) else s
def MS.keepE (s : MS) (p : List (List Nat)) : Int := if s.li < (needL p : Nat) then 10 else if s.te < (p.length : Nat) then 11 else 0
def MS.refE (s : MS) (e : Int) : MS := if e = 8 then s.refuse 8 0 else s
structure MS.Ok (s : MS) : Prop where
  f0 : 0 ≤ s.fu
  f1 : s.fu ≤ 1000000
  p0 : 0 ≤ s.pi
  p1 : s.pi ≤ 1000
  s0 : 0 ≤ s.st
  s1 : s.st ≤ s.fu
  c0 : 0 ≤ s.pc
  c1 : s.pc ≤ s.pi
theorem MS.Ok.refuse {s : MS} (h : s.Ok) (e n : Int) : (s.refuse e n).Ok := ⟨h.f0, h.f1, h.p0, h.p1, h.s0, h.s1, h.c0, h.c1⟩
theorem MS.Ok.step {s : MS} (h : s.Ok) : s.step.Ok := by
  unfold MS.step
  split
  · exact h.refuse _ _
  · exact ⟨h.f0, h.f1, h.p0, h.p1, by have := h.s0; show 0 ≤ s.st + 1; omega, by show s.st + 1 ≤ s.fu; omega, h.c0, h.c1⟩
theorem MS.Ok.piece {s : MS} (h : s.Ok) : s.piece.Ok := by
  unfold MS.piece
  split
  · exact h.refuse _ _
  · exact ⟨h.f0, h.f1, h.p0, h.p1, h.s0, h.s1, by have := h.c0; show 0 ≤ s.pc + 1; omega, by show s.pc + 1 ≤ s.pi; omega⟩
theorem MS.Ok.keep {s : MS} (h : s.Ok) (p : List (List Nat)) : (s.keep p).Ok := by
  unfold MS.keep
  split
  · exact h.refuse _ _
  · split
    · exact h.refuse _ _
    · exact h
theorem MS.Ok.refE {s : MS} (h : s.Ok) (e : Int) : (s.refE e).Ok := by
  unfold MS.refE
  split
  · exact h.refuse _ _
  · exact h
def mcl (s : MS) (d lk : Int) (u v : Int) : List Value :=
  [.int .i64 s.fu, .int .i64 s.li, .int .i64 s.te, .int .i64 s.pi, .int .i64 s.st, .int .i64 s.pc, .int .u32 d, .int .i32 lk, .int .u32 0, .int .i64 u, .int .i64 v]
def mc (s : MS) : List Value := mcl s (if s.wh = 0 then 0 else 1) 0 s.wh s.n
def rc (s : MS) : List Value := [.int .i64 s.fu, .int .i64 s.li, .int .i64 s.te, .int .i64 s.pi, .int .i64 s.st, .int .i64 s.pc, .int .i64 s.wh, .int .i64 s.n]
theorem needL_take (ps : List (List Nat)) (k : Nat) (h : k < ps.length) : needL (ps.take (k + 1)) = max (needL (ps.take k)) (nl (ps.getD k [])) := by
  induction ps generalizing k with
  | nil => simp at h
  | cons x r ih =>
    cases k with
    | zero => simp [needL]
    | succ k =>
      have := ih k (by simpa using h)
      simp only [List.take_succ_cons, needL]
      rw [this]
      simp only [List.getD_cons_succ]
      omega
def TmL (w : World) (vs : List Value) (xs : List Nat) : Prop := ∃ m ao n cap bo k cb, vs = [.bool m, .slice ao n cap, .slice bo k cb] ∧ Sl w ao n cap xs
theorem TmL.below {w w' : World} {vs : List Value} {xs : List Nat} (h : TmL w vs xs) (hb : Below w.heap.size w w') : TmL w' vs xs := by
  obtain ⟨m, ao, n, cap, bo, k, cb, h1, h4⟩ := h
  exact ⟨m, ao, n, cap, bo, k, cb, h1, h4.below hb⟩
structure Lp (w : World) (ao : Option Addr) (n cap : Nat) (ps : List (List Nat)) : Prop where
  ex : ∃ vss, Gl 3 w ao n cap vss ∧ Tms (TmL w) vss ps
theorem Lp.len {w : World} {ao : Option Addr} {n cap : Nat} {p : List (List Nat)} (h : Lp w ao n cap p) : p.length = n := by
  obtain ⟨vss, h1, h2⟩ := h.ex
  rw [← h2.len, h1.len]
theorem Lp.big {w : World} {ao : Option Addr} {n cap : Nat} {p : List (List Nat)} (h : Lp w ao n cap p) : n ≤ 4398046511104 := by
  obtain ⟨vss, h1, h2⟩ := h.ex
  exact h1.big
theorem Lp.le {w : World} {ao : Option Addr} {n cap : Nat} {p : List (List Nat)} (h : Lp w ao n cap p) : n ≤ cap := by
  obtain ⟨vss, h1, h2⟩ := h.ex
  exact h1.le
theorem Lp.below {w w' : World} {ao : Option Addr} {n cap : Nat} {p : List (List Nat)} (h : Lp w ao n cap p) (hb : Below w.heap.size w w') : Lp w' ao n cap p := by
  obtain ⟨vss, h1, h2⟩ := h.ex
  exact ⟨vss, h1.below hb, h2.imp fun v a h => h.below hb⟩
theorem Lp.at {w : World} {ao : Option Addr} {n cap : Nat} {p : List (List Nat)} (h : Lp w ao n cap p) {k : Nat} (hk : k < n) :
    ∃ b off m bo l c co e cc, ao = some ⟨b, off, none⟩ ∧ b < w.heap.size ∧ Sl w bo l c (p.getD k []) ∧
      ∀ V : World, Below w.heap.size w V → V.cell? ⟨b, off + k * 3, none⟩ = some (.bool m) ∧ V.cell? ⟨b, off + k * 3 + 1, none⟩ = some (.slice bo l c) ∧ V.cell? ⟨b, off + k * 3 + 2, none⟩ = some (.slice co e cc) := by
  have hl := h.len
  obtain ⟨vss, h1, h2⟩ := h.ex
  obtain ⟨b, off, rfl, hb, hc⟩ := h1.at (by omega)
  obtain ⟨m, bo, l, c, co, e, cc, hv, hs⟩ := Tms.get [] h2 k (by omega)
  refine ⟨b, off, m, bo, l, c, co, e, cc, rfl, hb, hs, fun V hV => ?_⟩
  have a0 := hc V hV k hk 0 (by omega)
  have a1 := hc V hV k hk 1 (by omega)
  have a2 := hc V hV k hk 2 (by omega)
  rw [hv] at a0 a1 a2
  exact ⟨a0, a1, a2⟩
theorem Sl.nlb {w : World} {ao : Option Addr} {n cap : Nat} {xs : List Nat} (h : Sl w ao n cap xs) : nl xs ≤ 35184372088832 := by
  have h1 := congrArg List.length (trimL_take xs)
  have h2 := h.len
  have h3 := h.big
  rw [List.length_take] at h1
  unfold nl
  omega
theorem needL_le : ∀ {w : World} {vss : List (List Value)} {ps : List (List Nat)}, Tms (TmL w) vss ps → needL ps ≤ 35184372088832
  | _, [], [], _ => by simp [needL]
  | w, _ :: _, _ :: _, h => by
    obtain ⟨m, ao, n, cap, bo, k, cb, _, hs⟩ := h.1
    have := hs.nlb
    have := needL_le h.2
    simp only [needL]
    omega
  | _, [], _ :: _, h => h.elim
  | _, _ :: _, [], h => h.elim
theorem Lp.need {w : World} {ao : Option Addr} {n cap : Nat} {p : List (List Nat)} (h : Lp w ao n cap p) : needL p ≤ 35184372088832 := by
  obtain ⟨vss, h1, h2⟩ := h.ex
  exact needL_le h2
def RetM (b : Nat) (vs : List Value) (v : Value) (w : World) (e : Ending) (w' : World) : Prop := e = .returned v ∧ Cells w' b vs ∧ w.grownBy w' (some b)
end Go.Proofs.Ythllkgjgakeinaa
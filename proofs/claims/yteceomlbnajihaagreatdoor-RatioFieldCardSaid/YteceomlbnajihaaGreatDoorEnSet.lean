/-
  A variable of four cells written, by its place in the list of variables.
-/
import Derived.Test.YteceomlbnajihaaGreatDoorEn
set_option maxRecDepth 8192
namespace Go.Proofs.YteceomlbnajihaaGreatDoor
open Go.RowKit

theorem Sx.setAt {w0 w : World} {B : List Var} {N : List En} (s : Sx w0 w B N) (i : Nat) {b : Nat} {vs : List Value} (hi : B[i]? = some ⟨b, vs⟩) (o : Nat) (u : Value) :
    Sx w0 (w.setCell ⟨b, o, none⟩ u) (B.set i ⟨b, vs.set o u⟩) N := by
  obtain ⟨hl, he⟩ := List.getElem?_eq_some_iff.1 hi
  have e : B = B.take i ++ ⟨b, vs⟩ :: B.drop (i + 1) := by rw [← he, ← List.drop_eq_getElem_cons hl, List.take_append_drop]
  rw [e] at s
  have h := Sx.set _ _ s o u
  rw [List.set_eq_take_append_cons_drop, if_pos hl]
  exact h

theorem Sx.set4 {w0 w : World} {B : List Var} {N : List En} (s : Sx w0 w B N) (i : Nat) {b : Nat} {v0 v1 v2 v3 : Value} (hi : B[i]? = some ⟨b, [v0, v1, v2, v3]⟩) (u0 u1 u2 u3 : Value) :
    Sx w0 ((((w.setCell ⟨b, 0, none⟩ u0).setCell ⟨b, 1, none⟩ u1).setCell ⟨b, 2, none⟩ u2).setCell ⟨b, 3, none⟩ u3) (B.set i ⟨b, [u0, u1, u2, u3]⟩) N := by
  obtain ⟨hl, he⟩ := List.getElem?_eq_some_iff.1 hi
  have g : ∀ x : Var, (B.set i x)[i]? = some x := fun x => by simp [hl]
  have h1 := s.setAt i hi 0 u0
  have h2 := h1.setAt i (g _) 1 u1
  rw [List.set_set] at h2
  have h3 := h2.setAt i (g _) 2 u2
  rw [List.set_set] at h3
  have h4 := h3.setAt i (g _) 3 u3
  rw [List.set_set] at h4
  exact h4

end Go.Proofs.YteceomlbnajihaaGreatDoor

/-
  Coefficients built again, the initial and the tail of a polynomial, in plain words.
-/
import Derived.Test.YtdgpnfjohijpeaaGreatVCoefs
import Derived.Test.YtdgpnfjohijpeaaGreatGVR
set_option maxHeartbeats 40000000
set_option maxRecDepth 100000
namespace Go.Proofs.YtdgpnfjohijpeaaGreat
open Go.RowKit
def coefL (p : List Term) (v : Int) (d : Nat) : List (List Term) := colJ p v d (d + 1)
theorem coefL_len (p : List Term) (v : Int) (d : Nat) : (coefL p v d).length = d + 1 := by simp [coefL, colJ]
theorem coefL_get {p : List Term} {v : Int} {d i : Nat} (h : i < d + 1) : (coefL p v d).getD i [] = coefP p v (i : Nat) := by
 unfold coefL colJ
 simp [List.getD, h]
theorem coefL_mem {p : List Term} {v : Int} {d : Nat} {q : List Term} (h : q ∈ coefL p v d) : ∃ i : Nat, i < d + 1 ∧ q = coefP p v (i : Nat) := by
 unfold coefL colJ at h
 obtain ⟨i, hi, rfl⟩ := List.mem_map.1 h
 exact ⟨i, List.mem_range.1 hi, if_pos (List.mem_range.1 hi)⟩
theorem Pile.plr {B K : Nat} {w : World} {ao : Option Addr} {n cap : Nat} {X : List (List Value)} {ps : List (List Term)} (h : Pile B K w ao n cap X ps) : Plr w ao n cap (ps.map fun p => p.map rawC) :=
 ⟨X, h.row.gl, Tms.map (fun p : List Term => p.map rawC) (fun _ _ _ ⟨ao, n, cap, h1, h2, _⟩ => ⟨ao, n, cap, h1, h2.pc.raw⟩) h.mem⟩
end Go.Proofs.YtdgpnfjohijpeaaGreat

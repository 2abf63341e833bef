/-
  A row of three cells an element that a sort has gone over: its cells, what lies beside it. For any element type.
-/
import Derived.Shelf.SlSortCmp.InsertionK
import Derived.Test.YtmmgipcacceakaaGP2
import Derived.Test.YtmmgipcacceakaaGPb
set_option maxHeartbeats 40000000
set_option maxRecDepth 100000
namespace Go.Proofs.Ytmmgipcacceakaa
open Go.Shelf Go.RowKit Go.Lib
theorem grown_of {W w' : World} (hb : Below W.heap.size W w') (hd : W.drawn ≤ w'.drawn) : ∃ q os, w' = Sort.grow (W.drewN q) os := by
 refine ⟨w'.drawn - W.drawn, w'.heap.extract W.heap.size w'.heap.size, ?_⟩
 obtain ⟨h1, t1, d1, o1, p1⟩ := W; obtain ⟨h2, t2, d2, o2, p2⟩ := w'
 have e1 : o2 = o1 := hb.os
 have e2 : t2 = t1 := hb.tape
 have e3 : p2 = p1 := hb.output
 subst e1 e2 e3
 have hs : h1.size ≤ h2.size := hb.size
 have hk : ∀ k, k < h1.size → h2[k]? = h1[k]? := hb.block
 have hdd : d1 ≤ d2 := hd
 show (⟨h2, t2, d2, o2, p2⟩ : World) = ⟨h1 ++ h2.extract h1.size h2.size, t2, d1 + (d2 - d1), o2, p2⟩
 rw [show d1 + (d2 - d1) = d2 by omega]
 congr 1
 apply Array.ext_getElem?
 intro i
 by_cases hi : i < h1.size
 ·rw [hk i hi, Array.getElem?_append_left hi]
 ·rw [Array.getElem?_append_right (by omega), Array.getElem?_extract]
  by_cases h2i : i < h2.size
  ·rw [if_pos (by omega), show h1.size + (i - h1.size) = i by omega]
  ·rw [if_neg (by omega), Array.getElem?_eq_none (by omega)]
theorem AtN.sorted {α : Type} [Inhabited α] {enc : α → List Value} {w : World} {g off : Nat} {L : List Value} {T : TypeId} (h : AtN w g L T) (d : Array α) (n : Nat) (os : Array Obj) :
  AtN (sortWorldK enc 3 w g off n d os) g (Sort.putCells id off (Sort.flatK enc 3 d) L.toArray).toList T := by
 have hlt := h.lt
 unfold AtN at h ⊢
 show ((w.heap.modify g _) ++ os)[g]? = _
 rw [Array.getElem?_append_left (by simpa using hlt)]
 simp [Array.getElem?_modify, h, Sort.onCells]
theorem grown_sorted {α : Type} [Inhabited α] (enc : α → List Value) (w : World) (g off : Nat) (d : Array α) (n : Nat) (os : Array Obj) : w.grownBy (sortWorldK enc 3 w g off n d os) (some g) := by
 refine ⟨rfl, rfl, rfl, ?_, fun k hk hne => ?_⟩
 ·show w.heap.size ≤ ((w.heap.modify g _) ++ os).size
  simp
 ·show ((w.heap.modify g _) ++ os)[k]? = _
  have hk2 : g ≠ k := fun e => hne (by rw [e])
  rw [Array.getElem?_append_left (by simpa using hk)]
  simp [Array.getElem?_modify, hk2]
theorem holds_seg {α : Type} [Inhabited α] {enc : α → List Value} (hk : ∀ x, (enc x).length = 3) {w : World} {g off : Nat} {L : List Value} {T : TypeId} (h : AtN w g L T) {d : Array α} (hs : Seg 3 L off (d.toList.map enc)) :
  Sort.HoldsK enc 3 w g off d := fun j hj => by
 have hj' : j < d.size * 3 := by simpa using hj
 have hq : j / 3 < d.size := by omega
 refine ⟨?_, h.fz _⟩
 rw [h.cell, Sort.get_flatK _ _ _ _ hj']
 have h3 := hs (j / 3) (by simpa using hq) (j % 3) (by omega)
 have e : (d.toList.map enc).getD (j / 3) [] = enc d[j / 3]! := by
  rw [getElem!_pos d (j / 3) hq]
  simp [List.getD, hq]
 rw [show off + j = off + j / 3 * 3 + j % 3 by omega, h3, e, List.getElem?_eq_getElem (by rw [hk]; omega), getElem!_pos (enc d[j / 3]!) (j % 3) (by rw [hk]; omega)]
 rfl
theorem put_at {α : Type} [Inhabited α] {enc : α → List Value} (L : List Value) (off : Nat) (d : Array α) (i : Nat) (hi : i < L.length) :
  (Sort.putCells id off (Sort.flatK enc 3 d) L.toArray).toList[i]? = some (if off ≤ i ∧ i < off + d.size * 3 then (enc d[(i - off) / 3]!)[(i - off) % 3]! else L[i]) := by
 rw [Array.getElem?_toList]
 unfold Sort.putCells
 rw [Array.getElem?_mapIdx, List.getElem?_toArray, List.getElem?_eq_getElem hi, Option.map_some, Sort.size_flatK]
 by_cases hc : off ≤ i ∧ i < off + d.size * 3
 ·rw [if_pos hc, if_pos hc, Sort.get_flatK _ _ _ _ (by omega)]; rfl
 ·rw [if_neg hc, if_neg hc]
theorem put_len {α : Type} [Inhabited α] {enc : α → List Value} (L : List Value) (off : Nat) (d : Array α) : (Sort.putCells id off (Sort.flatK enc 3 d) L.toArray).toList.length = L.length := by simp [Sort.putCells]
theorem seg_put {α : Type} [Inhabited α] {enc : α → List Value} (hk : ∀ x, (enc x).length = 3) (L : List Value) (off : Nat) (d : Array α) (hl : off + d.size * 3 ≤ L.length) :
  Seg 3 (Sort.putCells id off (Sort.flatK enc 3 d) L.toArray).toList off (d.toList.map enc) := fun t ht j hj => by
 have hq : t < d.size := by simpa using ht
 have e : (d.toList.map enc).getD t [] = enc d[t]! := by
  rw [getElem!_pos d t hq]
  simp [List.getD, hq]
 rw [put_at L off d _ (by omega), if_pos (by omega), e, show (off + t * 3 + j - off) / 3 = t by omega, show (off + t * 3 + j - off) % 3 = j by omega, List.getElem?_eq_getElem (by rw [hk]; exact hj), getElem!_pos (enc d[t]!) j (by rw [hk]; exact hj)]
end Go.Proofs.Ytmmgipcacceakaa

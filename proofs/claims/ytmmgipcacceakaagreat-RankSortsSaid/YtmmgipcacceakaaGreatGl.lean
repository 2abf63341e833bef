/-
  Lists of structs of whatever size: what a slice reads, cell by cell; such a slice in memory of the call's own; append of one struct, of a list; a part of such a list.
-/
import Derived.Test.YtmmgipcacceakaaGreatGMem
import Derived.Laws.AppendOwnNone
set_option maxHeartbeats 40000000
set_option maxRecDepth 100000
namespace Go.Proofs.YtmmgipcacceakaaGreat
open Go.RowKit
def Each (sz : Nat) (vss : List (List Value)) : Prop := ∀ vs ∈ vss, vs.length = sz ∧ ∀ v ∈ vs, v.oneCell' = true
theorem each_len {sz : Nat} : ∀ {vss : List (List Value)}, Each sz vss → vss.flatten.length = vss.length * sz
 | [], _ => by simp
 | vs :: r, h => by
  rw [List.flatten_cons, List.length_append, each_len (fun x hx => h x (by simp [hx])), (h vs (by simp)).1, List.length_cons, Nat.add_mul]
  omega
theorem each_get {sz : Nat} : ∀ {vss : List (List Value)}, Each sz vss → ∀ t j, t < vss.length → j < sz → vss.flatten[t * sz + j]? = (vss.getD t [])[j]?
 | vs :: r, h, 0, j, _, hj => by
  rw [List.flatten_cons, Nat.zero_mul, Nat.zero_add, List.getElem?_append_left (by rw [(h vs (by simp)).1]; exact hj)]
  rfl
 | vs :: r, h, t + 1, j, ht, hj => by
  have h1 := (h vs (by simp)).1
  rw [List.flatten_cons, List.getElem?_append_right (by rw [h1, Nat.add_mul]; omega), h1, show (t + 1) * sz + j - sz = t * sz + j by rw [Nat.add_mul]; omega]
  exact each_get (fun x hx => h x (by simp [hx])) t j (by simpa using ht) hj
theorem each_one {sz : Nat} {vss : List (List Value)} (h : Each sz vss) : ∀ v ∈ vss.flatten, v.oneCell' = true := by
 intro v hv
 obtain ⟨vs, hvs, hv⟩ := List.mem_flatten.1 hv
 exact (h vs hvs).2 v hv
theorem Each.append {sz : Nat} {a b : List (List Value)} (ha : Each sz a) (hb : Each sz b) : Each sz (a ++ b) := fun vs h => by
 rcases List.mem_append.1 h with h | h
 ·exact ha vs h
 ·exact hb vs h
theorem Each.mk1 {sz : Nat} {vs : List Value} (h : vs.length = sz) (h1 : ∀ v ∈ vs, v.oneCell' = true) : Each sz [vs] := fun x hx => by simp at hx; subst hx; exact ⟨h, h1⟩
theorem getD_mem2 {vss : List (List Value)} {t : Nat} (h : t < vss.length) : vss.getD t [] ∈ vss := by
 simp only [List.getD, List.getElem?_eq_getElem h, Option.getD_some]
 exact List.getElem_mem h
structure Gl [Ol] (sz : Nat) (w : World) (ao : Option Addr) (n cap : Nat) (vss : List (List Value)) : Prop where
 len : vss.length = n
 le : n ≤ cap
 big : n ≤ 4398046511104
 each : Each sz vss
 nil : ao = none → cap = 0
 spot : ∀ ad, ao = some ad → 0 < cap → ad.spot = none
 lt : ∀ ad, ao = some ad → 0 < n → ad.block < w.heap.size
 cells : ∀ ad, ao = some ad → ∀ t, t < n → ∀ j, j < sz → w.cell? (ad.add (t * sz + j)) = (vss.getD t [])[j]?
 kp : 0 < n → ∀ ad, ao = some ad → Kp w ad.block
theorem Gl.zero [Ol] (sz : Nat) (w : World) : Gl sz w none 0 0 [] :=
 ⟨rfl, Nat.le_refl _, by omega, (fun _ h => by cases h), (fun _ => rfl), (fun _ h => by cases h), (fun _ h => by cases h), (fun _ h => by cases h), fun _ _ h => by cases h⟩
theorem add_block3 (a : Addr) (k : Nat) : (a.add k).block = a.block := by unfold Addr.add; split <;> rfl
theorem Gl.below [Ol] {sz : Nat} {w w' : World} {ao : Option Addr} {n cap : Nat} {vss : List (List Value)} (h : Gl sz w ao n cap vss) (hb : Below w.heap.size w w') : Gl sz w' ao n cap vss :=
 ⟨h.len, h.le, h.big, h.each, h.nil, h.spot, (fun ad had h0 => Nat.lt_of_lt_of_le (h.lt ad had h0) hb.size), fun ad had t ht j hj => by
  rw [hb.cell (by rw [add_block3]; exact h.lt ad had (by omega))]
  exact h.cells ad had t ht j hj, fun h0 ad had => (h.kp h0 ad had).keep (hb.block _ (h.lt ad had h0))⟩
theorem Gl.at [Ol] {sz : Nat} {w : World} {ao : Option Addr} {n cap : Nat} {vss : List (List Value)} (h : Gl sz w ao n cap vss) (hn : 0 < n) :
  ∃ b off, ao = some ⟨b, off, none⟩ ∧ b < w.heap.size ∧ ∀ V : World, Below w.heap.size w V → ∀ t, t < n → ∀ j, j < sz → V.cell? ⟨b, off + t * sz + j, none⟩ = (vss.getD t [])[j]? := by
 cases hao : ao with
 | none => have := h.nil hao; have := h.le; omega
 | some ad =>
  obtain ⟨b, off, s⟩ := ad
  have hs : s = none := h.spot _ hao (by have := h.le; omega)
  subst hs
  refine ⟨b, off, rfl, h.lt _ hao hn, fun V hV t ht j hj => ?_⟩
  have := (h.below hV).cells _ hao t ht j hj
  rwa [Addr.add_lit, ← Nat.add_assoc] at this
theorem Gl.of_cells [Ol] {sz : Nat} {w : World} {b off n cap : Nat} {vss : List (List Value)} (h1 : vss.length = n) (h2 : n ≤ cap) (h3 : n ≤ 4398046511104) (h4 : Each sz vss) (hb : 0 < n → b < w.heap.size) (h5 : 0 < n → Kp w b)
  (hc : ∀ t, t < n → ∀ j, j < sz → w.cell? ⟨b, off + t * sz + j, none⟩ = (vss.getD t [])[j]?) : Gl sz w (some ⟨b, off, none⟩) n cap vss :=
 ⟨h1, h2, h3, h4, (fun h => by cases h), (fun ad had _ => by cases had; rfl), (fun ad had h0 => by cases had; exact hb h0), fun ad had t ht j hj => by cases had; rw [Addr.add_lit, ← Nat.add_assoc]; exact hc t ht j hj, fun h0 ad had => by cases had; exact h5 h0⟩
theorem Gl.empty [Ol] {sz : Nat} {w : World} {ao : Option Addr} {n cap : Nat} {vss : List (List Value)} (h : Gl sz w ao n cap vss) (hn : n = 0) : vss = [] := List.eq_nil_of_length_eq_zero (by rw [h.len, hn])
theorem Gl.take [Ol] {sz : Nat} {w : World} {ao : Option Addr} {n cap : Nat} {vss : List (List Value)} (h : Gl sz w ao n cap vss) (k : Nat) (hk : k ≤ n) : Gl sz w ao k cap (vss.take k) := by
 refine ⟨by rw [List.length_take, h.len]; omega, Nat.le_trans hk h.le, Nat.le_trans hk h.big, fun vs hv => h.each vs (List.mem_of_mem_take hv), h.nil, h.spot, fun ad had h0 => h.lt ad had (by omega), fun ad had t ht j hj => ?_, fun h0 ad had => h.kp (by omega) ad had⟩
 rw [h.cells ad had t (by omega) j hj]
 simp [List.getD, ht]
def dropA (b off sz k cap : Nat) : Option Addr := if cap = k then some ⟨b, off, none⟩ else some ⟨b, off + k * sz, none⟩
theorem Gl.drop [Ol] {sz : Nat} {w : World} {b off n cap : Nat} {vss : List (List Value)} (h : Gl sz w (some ⟨b, off, none⟩) n cap vss) (k : Nat) (hk : k ≤ n) : Gl sz w (dropA b off sz k cap) (n - k) (cap - k) (vss.drop k) := by
 have hle := h.le; have hbig := h.big
 unfold dropA
 by_cases hc : cap = k
 ·rw [if_pos hc]
  have hn : n = k := by omega
  subst hn
  rw [List.drop_eq_nil_of_le (by rw [h.len]; exact Nat.le_refl _), Nat.sub_self]
  exact ⟨rfl, Nat.zero_le _, by omega, (fun _ h => by cases h), (fun h => by cases h), (fun ad had _ => by cases had; rfl), (fun _ _ h0 => by omega), (fun _ _ t ht => by omega), fun h0 => by omega⟩
 ·rw [if_neg hc]
  refine Gl.of_cells (by rw [List.length_drop, h.len]) (by omega) (by omega) (fun vs hv => h.each vs (List.mem_of_mem_drop hv)) (fun h0 => h.lt _ rfl (by omega)) (fun h0 => h.kp (by omega) _ rfl) fun t ht j hj => ?_
  have := h.cells _ rfl (k + t) (by omega) j hj
  rw [Addr.add_lit] at this
  rw [show off + k * sz + t * sz + j = off + ((k + t) * sz + j) by rw [Nat.add_mul]; omega, this]
  simp [List.getD]
theorem Gl.cast [Ol] {sz : Nat} {w : World} {ao : Option Addr} {n cap n' cap' : Nat} {vss : List (List Value)} (h : Gl sz w ao n cap vss) (e : n = n') (e2 : cap = cap') : Gl sz w ao n' cap' vss := by subst e; subst e2; exact h
theorem Gl.dropEq [Ol] {sz : Nat} {w : World} {ao : Option Addr} {n cap : Nat} {vss : List (List Value)} (h : Gl sz w ao n cap vss) (k : Nat) (hk : k ≤ n) (hc : cap = k) : Gl sz w ao (n - k) (cap - k) (vss.drop k) := by
 have hle := h.le; have hbig := h.big
 exact ⟨by rw [List.length_drop, h.len], by omega, by omega, (fun vs hv => h.each vs (List.mem_of_mem_drop hv)), (fun _ => by omega), (fun _ _ h0 => by omega), (fun _ _ h0 => by omega), (fun _ _ t ht => by omega), fun h0 => by omega⟩
theorem Gl.dropNe [Ol] {sz : Nat} {w : World} {b off n cap : Nat} {vss : List (List Value)} (h : Gl sz w (some ⟨b, off, none⟩) n cap vss) (k : Nat) (hk : k ≤ n) (hc : cap ≠ k) : Gl sz w (some ⟨b, off + k * sz, none⟩) (n - k) (cap - k) (vss.drop k) := by
 have := h.drop k hk
 unfold dropA at this
 rwa [if_neg hc] at this
theorem run_append_clean {P : Program} (w : World) (base : Nat) (t ty e : TypeId) (i : TypeInfo) (z : Value) (size bytes : Nat) (ht : P.underlying t = some (.slice e)) (hi : P.info? e = some i) (hz : i.zero = some z)
  (hsize : i.size = size) (hby : i.bytes = bytes) (hzs : z.cells.size = size) (hsz : 0 < size)
  (v : Value) (n : Nat) (xs : List Value) (hown : w.ownsRow base e size v n xs)
  (a : Addr) (m c : Nat) (news : List Value) (hl : news.length = m * size) (hnews : ∀ j u, news[j]? = some u → w.cell? (a.add j) = some u) (h1 : ∀ u ∈ news, u.oneCell' = true)
  (h63 : n + m ≤ maxLen) (hbytes : (n + m) * bytes ≤ 140737488355328) (hbase : base ≤ w.heap.size)
  (cx : ∀ g, v.ownBlock = some g → CleanB w g) (cn : ∀ u ∈ news, notInt u = true) (cz : ∀ u ∈ z.cells.toList, notInt u = true) :
  ∃ v' w', (Builtin.append_ #[t, t] ty #[v, .slice (some a) m c]).run P w = .ok v' w' ∧ w'.ownsRow base e size v' (n + m) (xs ++ news) ∧ w.grownBy w' v.ownBlock ∧ ∀ g, v'.ownBlock = some g → CleanB w' g := by
 obtain ⟨v', w', hr, h2, h3, _⟩ := run_append_own (P := P) w base t ty e i z size bytes ht hi hz hsize hby hzs hsz v n xs hown a m c news hl hnews h1 h63 hbytes hbase
 refine ⟨v', w', hr, h2, h3, fun g hg => ?_⟩
 subst hsize; subst hby
 have hzc : ∀ k, ∀ u ∈ (Builtin.zeroCells z.cells k).toList, notInt u = true := by
  intro k u hu
  simp only [Builtin.zeroCells, Array.toList_map, List.mem_map] at hu
  obtain ⟨j, _, rfl⟩ := hu
  have hj : j % z.cells.size < z.cells.size := Nat.mod_lt _ (by omega)
  rw [getElem!_pos z.cells _ hj]
  exact cz _ (Array.mem_toList_iff.2 (Array.getElem_mem hj))
 rcases hown.2 with ⟨rfl, rfl⟩ | ⟨g0, cap, cur, rfl, hbg, hgg, hnc, hcm, hcs, htake⟩
 ·have hx : xs = [] := List.eq_nil_of_length_eq_zero (by simpa using hown.1)
  subst hx
  by_cases hm : m = 0
  ·subst hm
   have hn : news = [] := List.eq_nil_of_length_eq_zero (by simpa using hl)
   subst hn
   have hr2 : (Builtin.append_ #[t, t] ty #[.slice none 0 0, .slice (some a) 0 c]).run P w = .ok (.slice none 0 0) w := by
    simp [Builtin.append_, run_underlying ht, sizeOf, typeInfo, hi, Builtin.lenOf, Builtin.firstCells, loadCells, loadCellsFrom]
   rw [hr] at hr2
   cases hr2
   simp [Value.ownBlock] at hg
  ·have hr2 := run_append_nil (P := P) w t ty e i z ht hi hz a m c news hl hnews (by omega) (by unfold maxLen at h63; omega) (by have hb := hbytes; simp only [Nat.zero_add] at hb; omega)
   rw [hr] at hr2
   cases hr2
   simp only [Value.ownBlock, Option.some.injEq] at hg
   subst hg
   refine CleanB.alloc w.drew _ _ fun u hu => ?_
   simp only [Array.toList_append, List.mem_append] at hu
   rcases hu with hu | hu
   ·exact cn u hu
   ·exact hzc _ u hu
 ·have hcur : ∀ u ∈ cur.toList, notInt u = true := cx g0 rfl cur e (0, 0) hgg
  by_cases hroom : n + m ≤ cap
  ·have hfit : n * i.size + news.length ≤ cur.size := by rw [hl, hcs, ← Nat.add_mul]; exact Nat.mul_le_mul_right _ hroom
   have hr2 := run_append_room (P := P) w t ty e i ht hi g0 n cap cur hgg a m c news hl hnews h1 hroom hfit; rw [hr] at hr2
   cases hr2
   simp only [Value.ownBlock, Option.some.injEq] at hg
   subst hg
   intro cur' T' fr' hh
   rw [setRow_heap w g0 cur _ e _ hgg] at hh
   cases hh
   intro u hu
   simp only [List.mem_append] at hu
   rcases hu with (hu | hu) | hu
   ·exact hcur u (List.mem_of_mem_take hu)
   ·exact cn u hu
   ·exact hcur u (List.mem_of_mem_drop hu)
  ·have holds : ∀ j u, xs[j]? = some u → w.cell? ((⟨g0, 0, none⟩ : Addr).add j) = some u := hown.cells (g := g0) rfl
   have hr2 := run_append_grow (P := P) w t ty e i z ht hi hz ⟨g0, 0, none⟩ n cap xs hown.1 holds a m c news hl hnews (by omega) (by unfold maxLen at h63; omega) (growslice_fits (by omega) hbytes)
   rw [hr] at hr2
   cases hr2
   simp only [Value.ownBlock, Option.some.injEq] at hg
   subst hg
   refine CleanB.alloc w.drew _ _ fun u hu => ?_
   simp only [Array.toList_append, List.mem_append] at hu
   rcases hu with (hu | hu) | hu
   ·rw [← htake] at hu
    exact hcur u (List.mem_of_mem_take hu)
   ·exact cn u hu
   ·exact hzc _ u hu
structure Go1 (B : Nat) (e : TypeId) (sz : Nat) (w : World) (ao : Option Addr) (n cap : Nat) (vss : List (List Value)) : Prop where
 row : w.ownsRow B e sz (.slice ao n cap) n vss.flatten
 len : vss.length = n
 big : n ≤ 4398046511104
 each : Each sz vss
 cln : ∀ g, (Value.slice ao n cap).ownBlock = some g → CleanB w g
theorem Go1.nil (B : Nat) (e : TypeId) (sz : Nat) (w : World) : Go1 B e sz w none 0 0 [] :=
 ⟨World.ownsRow_nil _ _ _ _, rfl, by omega, (fun _ h => by cases h), fun _ h => by cases h⟩
theorem Go1.parts {B : Nat} {e : TypeId} {sz : Nat} {w : World} {ao : Option Addr} {n cap : Nat} {vss : List (List Value)} (h : Go1 B e sz w ao n cap vss) :
  (ao = none ∧ n = 0 ∧ cap = 0 ∧ vss = []) ∨ ∃ g cur, ao = some ⟨g, 0, none⟩ ∧ B ≤ g ∧ g < w.heap.size ∧ n ≤ cap ∧ w.heap[g]? = some (.cells cur e (0, 0)) := by
 rcases h.row.2 with ⟨hv, h0⟩ | ⟨g, cap', cur, hv, hg, hh, hn, _⟩
 ·simp only [Value.slice.injEq] at hv
  exact .inl ⟨hv.1, hv.2.1, hv.2.2, List.eq_nil_of_length_eq_zero (by rw [h.len, h0])⟩
 ·simp only [Value.slice.injEq, true_and] at hv
  obtain ⟨rfl, rfl⟩ := hv
  exact .inr ⟨g, cur, rfl, hg, lt_of_block hh, hn, hh⟩
theorem Go1.gl [Ol] {B : Nat} {e : TypeId} {sz : Nat} {w : World} {ao : Option Addr} {n cap : Nat} {vss : List (List Value)} (h : Go1 B e sz w ao n cap vss) : Gl sz w ao n cap vss := by
 rcases h.parts with ⟨rfl, rfl, rfl, rfl⟩ | ⟨g, cur, rfl, hg, hlt, hn, _⟩
 ·exact Gl.zero sz w
 ·refine Gl.of_cells h.len hn h.big h.each (fun _ => hlt) (fun _ => Kp.cln (h.cln g rfl)) fun t ht j hj => ?_
  have hl : t * sz + j < n * sz := by
   have : (t + 1) * sz ≤ n * sz := Nat.mul_le_mul_right _ ht
   rw [Nat.add_mul] at this; omega
  rw [Nat.zero_add, h.row.cellAt (t * sz + j) hl, each_get h.each t j (by rw [h.len]; exact ht) hj]
theorem Go1.keep {B : Nat} {e : TypeId} {sz : Nat} {w w' : World} {ao : Option Addr} {n cap : Nat} {vss : List (List Value)} (h : Go1 B e sz w ao n cap vss) (hb : ∀ a, ao = some a → w'.heap[a.block]? = w.heap[a.block]?) : Go1 B e sz w' ao n cap vss := by
 refine ⟨⟨h.row.1, ?_⟩, h.len, h.big, h.each, fun g hg => ?_⟩
 ·rcases h.row.2 with h2 | ⟨g, cap', cur, hv, hg, hh, r⟩
  ·exact .inl h2
  ·simp only [Value.slice.injEq, true_and] at hv
   obtain ⟨rfl, rfl⟩ := hv
   exact .inr ⟨g, cap, cur, rfl, hg, by rw [hb _ rfl]; exact hh, r⟩
 ·refine (h.cln g hg).keep ?_
  cases ao with
  | none => cases hg
  | some a =>
   simp only [Value.ownBlock, Option.some.injEq] at hg
   subst hg
   exact hb a rfl
theorem Go1.below {B : Nat} {e : TypeId} {sz : Nat} {w w' : World} {ao : Option Addr} {n cap : Nat} {vss : List (List Value)} (h : Go1 B e sz w ao n cap vss) (hb : Below w.heap.size w w') : Go1 B e sz w' ao n cap vss :=
 h.keep fun a ha => by
  rcases h.parts with ⟨h1, _⟩ | ⟨g, cur, h1, _, hlt, _⟩
  ·rw [h1] at ha; cases ha
  ·rw [h1] at ha; cases ha; exact hb.block g hlt
theorem Go1.mono {B B' : Nat} {e : TypeId} {sz : Nat} {w : World} {ao : Option Addr} {n cap : Nat} {vss : List (List Value)} (h : Go1 B e sz w ao n cap vss) (hB : B' ≤ B) : Go1 B' e sz w ao n cap vss := by
 refine ⟨⟨h.row.1, ?_⟩, h.len, h.big, h.each, h.cln⟩
 rcases h.row.2 with h2 | ⟨g, cap', cur, hv, hg, r⟩
 ·exact .inl h2
 ·exact .inr ⟨g, cap', cur, hv, by omega, r⟩
theorem owns_shape3 {w : World} {base : Nat} {e : TypeId} {v : Value} {n s : Nat} {xs : List Value} (h : w.ownsRow base e s v n xs) : ∃ ao cap, v = .slice ao n cap := by
 rcases h.2 with ⟨hv, h0⟩ | ⟨g, cap, cur, hv, _⟩
 ·exact ⟨none, 0, by rw [hv, h0]⟩
 ·exact ⟨_, _, hv⟩
theorem wp_joinG [Ol] {P : Program} (wa w0 : World) {o : Oper} {a : Act} {K : Act → World → Prop} {Q : Exit → Act → World → Prop}
  (s x : Operand) (t : TypeId) (hop : o.op = Op.call { callee := Callee.builtin Builtin.append, args := #[s, x], argTypes := #[t, t] })
  (B : Nat) (e : TypeId) (sz bytes : Nat) (i : TypeInfo) (z : Value) (h1 : P.underlying t = some (.slice e)) (h2 : P.info? e = some i) (h3 : i.zero = some z) (h4 : i.size = sz) (h5 : i.bytes = bytes) (h6 : z.cells.size = sz) (hsz : 0 < sz)
  (aos : Option Addr) (ns caps : Nat) (zs : List (List Value)) (hs : a.eval s = .slice aos ns caps) (hO : Go1 B e sz wa aos ns caps zs) (ao : Option Addr) (n cap : Nat) (xs : List (List Value)) (hx : a.eval x = .slice ao n cap) (hS : Gl sz wa ao n cap xs)
  (hb : Below B w0 wa) (hB : B ≤ wa.heap.size) (hr1 : ns + n ≤ 4398046511104) (hr2 : (ns + n) * bytes ≤ 140737488355328) (cz : ∀ u ∈ z.cells.toList, notInt u = true) (cn : ∀ u ∈ xs.flatten, notInt u = true)
  (hK : ∀ ao' cap' w', Go1 B e sz w' ao' (ns + n) cap' (zs ++ xs) → Below B w0 w' → wa.grownBy w' (Value.slice aos ns caps).ownBlock → K (a.put o.dst (.slice ao' (ns + n) cap')) w') :
  Oper.wp P o a wa K Q := by
 cases ao with
 | none =>
  have hn : n = 0 := by have := hS.nil rfl; have := hS.le; omega
  have hc : cap = 0 := hS.nil rfl
  subst hn; subst hc
  have hxs : xs = [] := hS.empty rfl
  subst hxs; have hrun := run_append_owned_none (P := P) wa B t o.type e i sz h1 h2 _ ns zs.flatten hO.row
  unfold Oper.wp
  simp [execOp, hop, resolve, invoke, builtin, hs, hx, hrun, Result.andThen]
  have hk := hK aos caps wa (by simpa using hO) hb (World.grownBy.refl _ _)
  rw [Nat.add_zero] at hk
  exact hk
 | some ad =>
  have hnews : ∀ j u, xs.flatten[j]? = some u → wa.cell? (ad.add j) = some u := by
   intro j u hj
   have hjl : j < n * sz := by have := (List.getElem?_eq_some_iff.1 hj).1; rwa [each_len hS.each, hS.len] at this
   have hq : j / sz < n := Nat.div_lt_of_lt_mul (by rw [Nat.mul_comm]; exact hjl)
   have hm : j % sz < sz := Nat.mod_lt _ hsz
   have he : j / sz * sz + j % sz = j := by rw [Nat.mul_comm]; exact Nat.div_add_mod j sz
   have hc := hS.cells ad rfl (j / sz) hq (j % sz) hm; rw [he] at hc
   rw [hc, ← each_get hS.each (j / sz) (j % sz) (by rw [hS.len]; exact hq) hm, he, hj]
  obtain ⟨v', w', hr, hown', hgrow, hcl⟩ := run_append_clean (P := P) wa B t o.type e i z sz bytes h1 h2 h3 h4 h5 h6 hsz _ ns zs.flatten hO.row ad n cap xs.flatten (by rw [each_len hS.each, hS.len]) hnews (each_one hS.each) (by unfold maxLen; omega) hr2 hB hO.cln cn cz
  obtain ⟨ao', cap', rfl⟩ := owns_shape3 hown'
  unfold Oper.wp execOp
  simp only [hop, resolve, invoke, builtin, Sem.run_bind, Sem.run_pure, Result.andThen_ok, List.map_toArray, List.map_cons, List.map_nil, hs, hx, hr]
  exact hK ao' cap' w' ⟨by rw [List.flatten_append]; exact hown', by rw [List.length_append, hO.len, hS.len], hr1, hO.each.append hS.each, hcl⟩ (hb.grown hgrow hB fun k hk => (hO.row.lt k hk).1) hgrow
theorem wpList_joinG [Ol] {P : Program} (wa w0 : World) {ops : Array Oper} {rest : List Oper} {o : Oper} {a : Act} {Q : Exit → Act → World → Prop}
  (hg : o.guard = none) (s x : Operand) (t : TypeId) (hop : o.op = Op.call { callee := Callee.builtin Builtin.append, args := #[s, x], argTypes := #[t, t] })
  (B : Nat) (e : TypeId) (sz bytes : Nat) (i : TypeInfo) (z : Value) (h1 : P.underlying t = some (.slice e)) (h2 : P.info? e = some i) (h3 : i.zero = some z) (h4 : i.size = sz) (h5 : i.bytes = bytes) (h6 : z.cells.size = sz) (hsz : 0 < sz)
  (aos : Option Addr) (ns caps : Nat) (zs : List (List Value)) (hs : a.eval s = .slice aos ns caps) (hO : Go1 B e sz wa aos ns caps zs) (ao : Option Addr) (n cap : Nat) (xs : List (List Value)) (hx : a.eval x = .slice ao n cap) (hS : Gl sz wa ao n cap xs)
  (hb : Below B w0 wa) (hB : B ≤ wa.heap.size) (hr1 : ns + n ≤ 4398046511104) (hr2 : (ns + n) * bytes ≤ 140737488355328) (cz : ∀ u ∈ z.cells.toList, notInt u = true) (cn : ∀ u ∈ xs.flatten, notInt u = true)
  (hK : ∀ ao' cap' w', Go1 B e sz w' ao' (ns + n) cap' (zs ++ xs) → Below B w0 w' → wa.grownBy w' (Value.slice aos ns caps).ownBlock → wpList P ops Q rest (a.put o.dst (.slice ao' (ns + n) cap')) w') :
  wpList P ops Q (o :: rest) a wa :=
 wpList_plain hg fun _ hK' => wp_joinG wa w0 s x t hop B e sz bytes i z h1 h2 h3 h4 h5 h6 hsz aos ns caps zs hs hO ao n cap xs hx hS hb hB hr1 hr2 cz cn fun ao' cap' w' x1 x2 x3 => hK' _ _ (hK ao' cap' w' x1 x2 x3)
theorem Gl.lit [Ol] (sz : Nat) (w : World) (vs : List Value) (T : TypeId) (h : vs.length = sz) (h1 : ∀ v ∈ vs, v.oneCell' = true) (h2 : ∀ v ∈ vs, notInt v = true := by intro v hv; simp at hv; (try rcases hv with rfl | rfl | rfl) <;> (try subst hv) <;> rfl) : Gl sz (w.alloc (.cells vs.toArray T)) (some ⟨w.heap.size, 0, none⟩) 1 1 [vs] := by
 refine Gl.of_cells rfl (Nat.le_refl _) (by omega) (Each.mk1 h h1) (fun _ => by simp) (fun _ => Kp.cln (CleanB.alloc w _ T (by simpa using h2))) fun t ht j hj => ?_
 obtain rfl : t = 0 := by omega
 rw [Nat.zero_add, Nat.zero_mul, Nat.zero_add]
 have hh : (w.alloc (.cells vs.toArray T)).heap[w.heap.size]? = some (.cells vs.toArray T (0, 0)) := by
  show (w.heap.push _)[w.heap.size]? = _
  rw [Array.getElem?_push_size]
 simp only [World.cell?, hh]
 simp
theorem wpList_pushG [Ol] {P : Program} (w w0 : World) {ops : Array Oper} {rest : List Oper} {o : Oper} {a : Act} {Q : Exit → Act → World → Prop}
  (hg : o.guard = none) (s x : Operand) (t : TypeId) (hop : o.op = Op.call { callee := Callee.builtin Builtin.append, args := #[s, x], argTypes := #[t, t] })
  (B : Nat) (e : TypeId) (sz bytes : Nat) (i : TypeInfo) (z : Value) (h1 : P.underlying t = some (.slice e)) (h2 : P.info? e = some i) (h3 : i.zero = some z) (h4 : i.size = sz) (h5 : i.bytes = bytes) (h6 : z.cells.size = sz) (hsz : 0 < sz)
  (ao : Option Addr) (n cap : Nat) (vss : List (List Value)) (hs : a.eval s = .slice ao n cap) (hown : Go1 B e sz w ao n cap vss)
  (vs : List Value) (hv : vs.length = sz) (hv1 : ∀ v ∈ vs, v.oneCell' = true) (cz : ∀ u ∈ z.cells.toList, notInt u = true) (cn : ∀ u ∈ vs, notInt u = true) (tt : TypeId) (hx : a.eval x = .slice (some ⟨w.heap.size, 0, none⟩) 1 1) (hb : Below B w0 w) (hB : B ≤ w.heap.size) (b1 : n + 1 ≤ 4398046511104) (b2 : (n + 1) * bytes ≤ 140737488355328)
  (hK : ∀ ao' cap' w', Go1 B e sz w' ao' (n + 1) cap' (vss ++ [vs]) → Below B w0 w' → (w.alloc (.cells vs.toArray tt)).grownBy w' (Value.slice ao n cap).ownBlock → wpList P ops Q rest (a.put o.dst (.slice ao' (n + 1) cap')) w') :
  wpList P ops Q (o :: rest) a (w.alloc (.cells vs.toArray tt)) :=
 wpList_joinG (w.alloc (.cells vs.toArray tt)) w0 hg s x t hop B e sz bytes i z h1 h2 h3 h4 h5 h6 hsz ao n cap vss hs (hown.below (below_alloc w _)) _ 1 1 [vs] hx (Gl.lit sz w vs tt hv hv1 cn) (hb.alloc hB _) (by simp; omega) b1 b2 cz (by simpa using cn) hK
theorem Go1.stays {B : Nat} {e : TypeId} {sz : Nat} {w w' : World} {ao : Option Addr} {n cap : Nat} {vss : List (List Value)} (h : Go1 B e sz w ao n cap vss) (hG : w.grownBy w' (Value.slice ao n cap).ownBlock) {k : IntKind} {x : Int} {ad : Addr} (hc : w.cell? ad = some (.int k x)) : w'.cell? ad = some (.int k x) :=
 hG.cell hc fun eq => (h.cln _ eq.symm).far hc rfl
def AtN (w : World) (b : Nat) (vs : List Value) (T : TypeId) : Prop := w.heap[b]? = some (.cells vs.toArray T (0, 0))
theorem AtN.lt {w : World} {b : Nat} {vs : List Value} {T : TypeId} (h : AtN w b vs T) : b < w.heap.size := lt_of_block h
theorem AtN.cell {w : World} {b : Nat} {vs : List Value} {T : TypeId} (h : AtN w b vs T) (j : Nat) : w.cell? ⟨b, j, none⟩ = vs[j]? := by
 unfold AtN at h
 simp [World.cell?, h]
theorem AtN.fz {w : World} {b : Nat} {vs : List Value} {T : TypeId} (h : AtN w b vs T) (j : Nat) : w.frozen? ⟨b, j, none⟩ = false := by
 unfold AtN at h
 simp [World.frozen?, h]
theorem AtN.new (w : World) (vs : List Value) (T : TypeId) : AtN (w.alloc (.cells vs.toArray T)) w.heap.size vs T := by
 show (w.heap.push _)[w.heap.size]? = _
 rw [Array.getElem?_push_size]
theorem AtN.keep {w w' : World} {b : Nat} {vs : List Value} {T : TypeId} (h : AtN w b vs T) (e : w'.heap[b]? = w.heap[b]?) : AtN w' b vs T := e.trans h
theorem AtN.below {w w' : World} {b : Nat} {vs : List Value} {T : TypeId} (h : AtN w b vs T) (hb : Below w.heap.size w w') : AtN w' b vs T := h.keep (hb.block b h.lt)
theorem AtN.set {w : World} {b : Nat} {vs : List Value} {T : TypeId} (h : AtN w b vs T) (o : Nat) (u : Value) : AtN (w.setCell ⟨b, o, none⟩ u) b (vs.set o u) T := by
 unfold AtN at h ⊢
 simp [World.setCell, Array.getElem?_modify, h]
theorem AtN.far {w : World} {b c : Nat} {vs : List Value} {T : TypeId} (h : AtN w b vs T) (hc : c ≠ b) (o : Nat) (u : Value) : AtN (w.setCell ⟨c, o, none⟩ u) b vs T :=
 h.keep (Below.heap_setCell _ _ _ _ (fun e => hc e.symm))
theorem AtN.grown {B : Nat} {e : TypeId} {sz : Nat} {w w' : World} {ao : Option Addr} {n cap : Nat} {vss : List (List Value)} {b : Nat} {vs : List Value} {T : TypeId} (h : AtN w b vs T) (hM : Go1 B e sz w ao n cap vss) (hT : T ≠ e) (hG : w.grownBy w' (Value.slice ao n cap).ownBlock) : AtN w' b vs T := by
 refine h.keep (hG.block b h.lt fun eq => ?_)
 rcases hM.parts with ⟨rfl, _⟩ | ⟨g, cur, rfl, _, _, _, hh⟩
 ·cases eq
 ·have e' : b = g := Option.some.inj eq
  subst e'
  unfold AtN at h
  rw [h] at hh
  cases hh
  exact hT rfl
theorem Go1.far {B : Nat} {e : TypeId} {sz : Nat} {w : World} {ao : Option Addr} {n cap : Nat} {vss : List (List Value)} (h : Go1 B e sz w ao n cap vss) {b : Nat} {vs : List Value} {T : TypeId} (hc : AtN w b vs T) (hT : T ≠ e) (o : Nat) (u : Value) : Go1 B e sz (w.setCell ⟨b, o, none⟩ u) ao n cap vss := by
 refine h.keep fun a ha => Below.heap_setCell _ _ _ _ fun eq => ?_
 rcases h.parts with ⟨h1, _⟩ | ⟨g, cur, h1, _, _, _, hh⟩
 ·rw [h1] at ha; cases ha
 ·rw [h1] at ha
  cases ha
  have e' : g = b := eq
  subst e'
  unfold AtN at hc
  rw [hc] at hh
  cases hh
  exact hT rfl
end Go.Proofs.YtmmgipcacceakaaGreat

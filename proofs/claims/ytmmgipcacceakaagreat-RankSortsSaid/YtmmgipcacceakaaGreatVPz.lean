/-
  Lists of polynomials of the reference in memory of the call's own: a row of slices alone; append of one.
-/
import Derived.Test.YtmmgipcacceakaaGreatGVR
set_option maxHeartbeats 40000000
set_option maxRecDepth 100000
namespace Go.Proofs.YtmmgipcacceakaaGreat
open Go.RowKit
def PredB (φ : Value → Bool) (w : World) (g : Nat) : Prop := ∀ cur T fr, w.heap[g]? = some (.cells cur T fr) → ∀ u ∈ cur.toList, φ u = true
theorem PredB.keep {φ : Value → Bool} {w w' : World} {g : Nat} (h : PredB φ w g) (e : w'.heap[g]? = w.heap[g]?) : PredB φ w' g := fun cur T fr hh => h cur T fr (e ▸ hh)
theorem PredB.alloc {φ : Value → Bool} (w : World) (cs : Array Value) (T : TypeId) (h : ∀ u ∈ cs.toList, φ u = true) : PredB φ (w.alloc (.cells cs T)) w.heap.size := by
 intro cur T' fr hh
 have e : (w.alloc (.cells cs T)).heap[w.heap.size]? = some (.cells cs T (0, 0)) := by
  show (w.heap.push _)[w.heap.size]? = _
  rw [Array.getElem?_push_size]
 rw [e] at hh
 cases hh
 exact h
theorem run_append_pred {φ : Value → Bool} {P : Program} (w : World) (base : Nat) (t ty e : TypeId) (i : TypeInfo) (z : Value) (size bytes : Nat) (ht : P.underlying t = some (.slice e)) (hi : P.info? e = some i) (hz : i.zero = some z)
  (hsize : i.size = size) (hby : i.bytes = bytes) (hzs : z.cells.size = size) (hsz : 0 < size)
  (v : Value) (n : Nat) (xs : List Value) (hown : w.ownsRow base e size v n xs)
  (a : Addr) (m c : Nat) (news : List Value) (hl : news.length = m * size) (hnews : ∀ j u, news[j]? = some u → w.cell? (a.add j) = some u) (h1 : ∀ u ∈ news, u.oneCell' = true)
  (h63 : n + m ≤ maxLen) (hbytes : (n + m) * bytes ≤ 140737488355328) (hbase : base ≤ w.heap.size)
  (cx : ∀ g, v.ownBlock = some g → PredB φ w g) (cn : ∀ u ∈ news, φ u = true) (cz : ∀ u ∈ z.cells.toList, φ u = true) :
  ∃ v' w', (Builtin.append_ #[t, t] ty #[v, .slice (some a) m c]).run P w = .ok v' w' ∧ w'.ownsRow base e size v' (n + m) (xs ++ news) ∧ w.grownBy w' v.ownBlock ∧ ∀ g, v'.ownBlock = some g → PredB φ w' g := by
 obtain ⟨v', w', hr, h2, h3, _⟩ := run_append_own (P := P) w base t ty e i z size bytes ht hi hz hsize hby hzs hsz v n xs hown a m c news hl hnews h1 h63 hbytes hbase
 refine ⟨v', w', hr, h2, h3, fun g hg => ?_⟩
 subst hsize; subst hby
 have hzc : ∀ k, ∀ u ∈ (Builtin.zeroCells z.cells k).toList, φ u = true := by
  intro k u hu
  simp only [Builtin.zeroCells, Array.toList_map, List.mem_map] at hu
  obtain ⟨j, _, rfl⟩ := hu
  have hj : j % z.cells.size < z.cells.size := Nat.mod_lt _ (by omega)
  rw [getElem!_pos z.cells _ hj]
  exact cz _ (Array.mem_toList_iff.2 (Array.getElem_mem hj))
 rcases hown.2 with ⟨rfl, rfl⟩ | ⟨g0, cap, cur, rfl, hbg, hgg, hnc, hcm, hcs, htake⟩
 ·have hx : xs = [] := List.eq_nil_of_length_eq_zero (by simpa using hown.1)
  subst hx
  by_cases hm : m = 0
  ·subst hm
   have hn : news = [] := List.eq_nil_of_length_eq_zero (by simpa using hl)
   subst hn
   have hr2 : (Builtin.append_ #[t, t] ty #[.slice none 0 0, .slice (some a) 0 c]).run P w = .ok (.slice none 0 0) w := by
    simp [Builtin.append_, run_underlying ht, sizeOf, typeInfo, hi, Builtin.lenOf, Builtin.firstCells, loadCells, loadCellsFrom]
   rw [hr] at hr2
   cases hr2
   simp [Value.ownBlock] at hg
  ·have hr2 := run_append_nil (P := P) w t ty e i z ht hi hz a m c news hl hnews (by omega) (by unfold maxLen at h63; omega) (by have hb := hbytes; simp only [Nat.zero_add] at hb; omega)
   rw [hr] at hr2
   cases hr2
   simp only [Value.ownBlock, Option.some.injEq] at hg
   subst hg
   refine PredB.alloc w.drew _ _ fun u hu => ?_
   simp only [Array.toList_append, List.mem_append] at hu
   rcases hu with hu | hu
   ·exact cn u hu
   ·exact hzc _ u hu
 ·have hcur : ∀ u ∈ cur.toList, φ u = true := cx g0 rfl cur e (0, 0) hgg
  by_cases hroom : n + m ≤ cap
  ·have hfit : n * i.size + news.length ≤ cur.size := by rw [hl, hcs, ← Nat.add_mul]; exact Nat.mul_le_mul_right _ hroom
   have hr2 := run_append_room (P := P) w t ty e i ht hi g0 n cap cur hgg a m c news hl hnews h1 hroom hfit; rw [hr] at hr2
   cases hr2
   simp only [Value.ownBlock, Option.some.injEq] at hg
   subst hg
   intro cur' T' fr' hh
   rw [setRow_heap w g0 cur _ e _ hgg] at hh
   cases hh
   intro u hu
   simp only [List.mem_append] at hu
   rcases hu with (hu | hu) | hu
   ·exact hcur u (List.mem_of_mem_take hu)
   ·exact cn u hu
   ·exact hcur u (List.mem_of_mem_drop hu)
  ·have holds : ∀ j u, xs[j]? = some u → w.cell? ((⟨g0, 0, none⟩ : Addr).add j) = some u := hown.cells (g := g0) rfl
   have hr2 := run_append_grow (P := P) w t ty e i z ht hi hz ⟨g0, 0, none⟩ n cap xs hown.1 holds a m c news hl hnews (by omega) (by unfold maxLen at h63; omega) (growslice_fits (by omega) hbytes)
   rw [hr] at hr2
   cases hr2
   simp only [Value.ownBlock, Option.some.injEq] at hg
   subst hg
   refine PredB.alloc w.drew _ _ fun u hu => ?_
   simp only [Array.toList_append, List.mem_append] at hu
   rcases hu with (hu | hu) | hu
   ·rw [← htake] at hu
    exact hcur u (List.mem_of_mem_take hu)
   ·exact cn u hu
   ·exact hzc _ u hu
def slc : Value → Bool
 | .slice _ _ _ => true
 | _ => false
theorem SlcB.far {w : World} {g : Nat} (h : PredB slc w g) {m : Bool} {ad : Addr} (hc : w.cell? ad = some (.bool m)) : ad.block ≠ g := by
 intro e
 obtain ⟨b', o, s⟩ := ad; obtain rfl : b' = g := e
 have hs : s = none := World.cell?_spot hc
 subst hs
 unfold World.cell? at hc
 simp only at hc
 cases hh : w.heap[b']? with
 | none => simp [hh] at hc
 | some ob =>
  rw [hh] at hc
  cases ob with
  | cells cur T fr =>
   have hc2 : cur[o]? = some (.bool m) := by simpa using hc
   exact absurd (h cur T fr hh _ (Array.mem_toList_iff.2 (Array.mem_of_getElem? hc2))) (by simp [slc])
  | _ => simp at hc
theorem Pz.far [Ol] {B K : Nat} {e : TypeId} {w V : World} {ao : Option Addr} {n cap : Nat} {X : List (List Value)} {po : Option Addr} {pn pc : Nat} {q : List Term} (h : Pz K w po pn pc q) (hO : Go1 B e 1 w ao n cap X) (hS : ∀ g, (Value.slice ao n cap).ownBlock = some g → PredB slc w g) (hG : w.grownBy V (Value.slice ao n cap).ownBlock) : Pz K V po pn pc q := by
 obtain ⟨vss, h1, h2⟩ := h.ex
 have hfar : 0 < pn → ∀ a, po = some a → (Value.slice ao n cap).ownBlock ≠ some a.block := fun h0 a ha eq => by
  have hl := h2.len
  obtain ⟨m, ao', n', cap', bo, k, cb, hv, _⟩ := Tms.get (0, []) h2 0 (by rw [← hl, h1.len]; exact h0)
  have hc := h1.cells a ha 0 h0 0 (by omega)
  rw [hv] at hc
  exact SlcB.far (hS _ eq) (m := m) hc (add_block3 _ _)
 refine ⟨vss, ⟨h1.len, h1.le, h1.big, h1.each, h1.nil, h1.spot, fun ad had h0 => Nat.lt_of_lt_of_le (h1.lt ad had h0) hG.size, fun ad had t ht j hj => ?_, fun h0 ad had => (h1.kp h0 ad had).keep (hG.block ad.block (h1.lt ad had h0) fun eq => hfar h0 ad had eq.symm)⟩, h2.imp fun _ _ h => h.stays hO hG⟩
 have hb := hG.block ad.block (h1.lt ad had (by omega)) fun eq => hfar (by omega) ad had eq.symm
 rw [World.cell?_of_block (w := w) (by rw [add_block3]; exact hb)]
 exact h1.cells ad had t ht j hj
def PzR [Ol] (K : Nat) (w : World) (vs : List Value) (p : List Term) : Prop := ∃ ao n cap, vs = [.slice ao n cap] ∧ Pz K w ao n cap p
structure Plz [Ol] (B K : Nat) (w : World) (ao : Option Addr) (n cap : Nat) (ls : List (List Term)) : Prop where
 ex : ∃ X, Go1 B 36 1 w ao n cap X ∧ (∀ g, (Value.slice ao n cap).ownBlock = some g → PredB slc w g) ∧ Tms (PzR K w) X ls
section
variable {B K : Nat} {w V : World} {ao : Option Addr} {n cap : Nat} {ls : List (List Term)}
theorem Plz.nil [Ol] (B K : Nat) (w : World) : Plz B K w none 0 0 [] := ⟨[], Go1.nil _ _ _ _, (fun _ h => by cases h), trivial⟩
theorem Plz.len [Ol] (h : Plz B K w ao n cap ls) : ls.length = n := by
 obtain ⟨X, h1, _, h3⟩ := h.ex; rw [← h3.len, h1.len]
theorem Plz.own [Ol] (h : Plz B K w ao n cap ls) : ∀ r, (Value.slice ao n cap).ownBlock = some r → B ≤ r ∧ r < w.heap.size := fun r e => by
 obtain ⟨X, h1, _, _⟩ := h.ex
 rcases h1.parts with ⟨rfl, _⟩ | ⟨g, cur, rfl, hg, hlt, _⟩
 ·cases e
 ·cases e; exact ⟨hg, hlt⟩
theorem Plz.below [Ol] (h : Plz B K w ao n cap ls) (hb : Below w.heap.size w V) : Plz B K V ao n cap ls := by
 have hl := h.own; obtain ⟨X, h1, h2, h3⟩ := h.ex
 exact ⟨X, h1.below hb, fun g hg => (h2 g hg).keep (hb.block g (hl g hg).2), h3.imp fun _ _ ⟨a, b, c, h4, h5⟩ => ⟨a, b, c, h4, h5.below hb⟩⟩
theorem Plz.mono [Ol] {K' : Nat} (h : Plz B K w ao n cap ls) (hk : K ≤ K') : Plz B K' w ao n cap ls := by
 obtain ⟨X, h1, h2, h3⟩ := h.ex
 exact ⟨X, h1, h2, h3.imp fun _ _ ⟨a, b, c, h4, h5⟩ => ⟨a, b, c, h4, h5.mono hk⟩⟩
theorem Plz.at [Ol] (h : Plz B K w ao n cap ls) {k : Nat} (hk : k < n) : ∃ g po pn pc, ao = some ⟨g, 0, none⟩ ∧ g < w.heap.size ∧ Pz K w po pn pc (ls.getD k []) ∧ ∀ V : World, Below w.heap.size w V → V.cell? ⟨g, k, none⟩ = some (.slice po pn pc) := by
 have hl := h.len; obtain ⟨X, h1, h2, h3⟩ := h.ex
 obtain ⟨po, pn, pc, hv, hp⟩ := Tms.get [] h3 k (by omega)
 rcases h1.parts with ⟨_, h0, _⟩ | ⟨g, cur, rfl, hg, hlt, _⟩
 ·omega
 ·refine ⟨g, po, pn, pc, rfl, hlt, hp, fun V hV => ?_⟩
  have hc := (h1.gl.below hV).cells _ rfl k hk 0 (by omega)
  rw [hv, Addr.add_lit, Nat.mul_one, Nat.add_zero, Nat.zero_add] at hc
  exact hc
end
theorem Tryz.info_rp : (Tryz.prog.info? 36).map (fun i => (i.zero, i.size, i.bytes)) = some (some (.slice none 0 0), 1, 24) := by kernel_rfl
def PlzPush [Ol] (B K : Nat) (w : World) (ao : Option Addr) (n cap : Nat) (ls : List (List Term)) (v : Value) (W : World) : Prop := ∃ ro rc, v = .slice ro (n + 1) rc ∧ Plz B K W ro (n + 1) rc ls ∧ w.grownBy W (Value.slice ao n cap).ownBlock
theorem plz_push [Ol] {B K : Nat} {w : World} {ao : Option Addr} {n cap : Nat} {ls : List (List Term)} {po : Option Addr} {pn pc : Nat} {q : List Term} (h : Plz B K w ao n cap ls) (hq : Pz K w po pn pc q) (hB : B ≤ w.heap.size) (hn : n ≤ 1000000) (tt ty : TypeId) :
  ∃ v W, (Builtin.append_ #[29, 29] ty #[.slice ao n cap, .slice (some ⟨w.heap.size, 0, none⟩) 1 1]).run Tryz.prog (w.alloc (.cells #[.slice po pn pc] tt)) = .ok v W ∧ PlzPush B K w ao n cap (ls ++ [q]) v W := by
 obtain ⟨i0, hi, hz0, hz1, hz2⟩ := info_parts Tryz.info_rp; have ha := below_alloc w (.cells #[.slice po pn pc] tt)
 have hc : (w.alloc (.cells #[.slice po pn pc] tt)).cell? ⟨w.heap.size, 0, none⟩ = some (.slice po pn pc) := by simp
 obtain ⟨w1, h1⟩ : ∃ w1, w1 = w.alloc (.cells #[.slice po pn pc] tt) := ⟨_, rfl⟩; rw [← h1] at ha hc ⊢; have hh := h.below ha; obtain ⟨X, hO, hS, hT⟩ := hh.ex
 obtain ⟨v', w', hr, hown', hgrow, hpr⟩ := run_append_pred (φ := slc) (P := Tryz.prog) w1 B 29 ty 36 i0 (.slice none 0 0) 1 24 Tryz.underlying29 hi hz0 hz1 hz2 rfl (by omega) _ n X.flatten hO.row ⟨w.heap.size, 0, none⟩ 1 1 [.slice po pn pc] rfl
  (fun j u hj => by
   rcases j with _ | j
   ·simp at hj; subst hj; exact hc
   ·simp at hj) (fun u hu => by simp at hu; subst hu; rfl) (by unfold maxLen; omega) (by omega) (Nat.le_trans hB ha.size) hS (fun u hu => by simp at hu; subst hu; rfl) (by simp [Value.cells, slc])
 obtain ⟨v2, w2, hr2, _, _, hcl⟩ := run_append_clean (P := Tryz.prog) w1 B 29 ty 36 i0 (.slice none 0 0) 1 24 Tryz.underlying29 hi hz0 hz1 hz2 rfl (by omega) _ n X.flatten hO.row ⟨w.heap.size, 0, none⟩ 1 1 [.slice po pn pc] rfl
  (fun j u hj => by
   rcases j with _ | j
   ·simp at hj; subst hj; exact hc
   ·simp at hj) (fun u hu => by simp at hu; subst hu; rfl) (by unfold maxLen; omega) (by omega) (Nat.le_trans hB ha.size) hO.cln (fun u hu => by simp at hu; subst hu; rfl) (by simp [Value.cells, notInt])
 rw [hr] at hr2
 cases hr2
 obtain ⟨ao', cap', rfl⟩ := owns_shape3 hown'
 have hO2 : Go1 B 36 1 w' ao' (n + 1) cap' (X ++ [[.slice po pn pc]]) := ⟨by rw [List.flatten_append]; exact hown', by rw [List.length_append, hO.len]; rfl, by omega, hO.each.append (Each.mk1 rfl fun v hv => by simp at hv; subst hv; rfl), hcl⟩
 refine ⟨_, _, hr, ao', cap', rfl, ⟨X ++ [[.slice po pn pc]], hO2, hpr, Tms.append (hT.imp fun _ _ ⟨a, b, c, h4, h5⟩ => ⟨a, b, c, h4, h5.far hO hS hgrow⟩) ⟨⟨po, pn, pc, rfl, (hq.below ha).far hO hS hgrow⟩, trivial⟩⟩, ?_⟩
 exact ⟨hgrow.os.trans ha.os, hgrow.tape.trans ha.tape, hgrow.output.trans ha.output, Nat.le_trans ha.size hgrow.size, fun k hk hne => (hgrow.block k (Nat.lt_of_lt_of_le hk ha.size) hne).trans (ha.block k hk)⟩
end Go.Proofs.YtmmgipcacceakaaGreat

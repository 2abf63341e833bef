/- RwGen, MRowKit, IntRow, IntAt, PRowKit -/
import Derived.Test.YtmmgipcacceakaaGreatGP1
import Derived.Deep.Slices
import Derived.ChangeArms
import Derived.Deep.SlicePairs
import Derived.Lib.SmallJoins
import Derived.ChangeSame
set_option maxHeartbeats 40000000
set_option maxRecDepth 100000
/- What rows over lists of structs share. -/
namespace Go.Proofs.YtmmgipcacceakaaGreat
open Go.ChangeShapes Go.WideShapes Go.ChangeAt Go.RowKit Go.Deep
theorem weights_mem_all {H : Type} {P : Program} {e : TypeId} : ∀ {ds : List (DataW H)} {d : DataW H}, d ∈ ds → ∀ n ∈ d.weights P e, n ∈ DataW.weightsAll P e ds
 | d0 :: ds, d, hd, n, hn => by
  simp only [DataW.weightsAll, List.mem_append]
  rcases List.mem_cons.1 hd with rfl | hd
  ·exact .inl hn
  ·exact .inr (weights_mem_all hd n hn)
theorem cell_lt {w : World} {a : Addr} {v : Value} (h : w.cell? a = some v) : a.block < w.heap.size := by
 refine Classical.byContradiction fun hn => ?_
 unfold World.cell? at h
 rw [Array.getElem?_eq_none (by omega)] at h
 simp at h
theorem tms_of {α : Type} {R : List Value → α → Prop} (f : Nat → List Value) (g : Nat → α) : ∀ n, (∀ i, i < n → R (f i) (g i)) → Tms R ((List.range n).map f) ((List.range n).map g)
 | 0, _ => trivial
 | n + 1, h => by
  rw [List.range_succ, List.map_append, List.map_append]
  exact Tms.append (tms_of f g n fun i hi => h i (by omega)) ⟨h n (by omega), trivial⟩
end Go.Proofs.YtmmgipcacceakaaGreat

/- What the rows of laws over lists of powers share: an argument of type api.Mono opened once; closed facts. -/
namespace Go.Proofs.YtmmgipcacceakaaGreat
open Go.ChangeShapes Go.WideShapes Go.ChangeAt Go.RowKit Go.Deep
theorem Tryz.bytes_pow : Tryz.prog.bytesOf 87 = 16 := by kernel_rfl
theorem int_wf {n : Int} (h : (Lit.int .i64 n).wf = true) : in64 n := by
 simp [Lit.wf, IntKind.min, IntKind.max, IntKind.signed, IntKind.bits] at h
 unfold in64
 omega
theorem trod_fun {f : Nat → Value × Value} (n : Nat) {W : World} {a : Addr} (h : ∀ i, i < n → ∃ p : Int × Int, f i = (.int .i64 p.1, .int .i64 p.2) ∧ in64 p.1 ∧ in64 p.2)
  (hc : ∀ i, i < n → W.cell? (a.add (i * 2)) = some (f i).1 ∧ W.cell? (a.add (i * 2 + 1)) = some (f i).2) :
  ∃ ps : List (Int × Int), ps.length = n ∧ (∀ p ∈ ps, in64 p.1 ∧ in64 p.2) ∧ ∀ t, t < n → W.cell? (a.add (t * 2)) = some (.int .i64 (ps.getD t (0, 0)).1) ∧ W.cell? (a.add (t * 2 + 1)) = some (.int .i64 (ps.getD t (0, 0)).2) := by
 obtain ⟨q, hq⟩ := choose_lt h
 refine ⟨(List.range n).map q, by simp, fun p hp => ?_, fun t ht => ?_⟩
 ·obtain ⟨i, hi, rfl⟩ := List.mem_map.1 hp
  exact (hq i (List.mem_range.1 hi)).2
 ·have e : ((List.range n).map q).getD t (0, 0) = q t := by simp [List.getD, ht]
  have h1 := hc t ht; rw [(hq t ht).1] at h1; rw [e]
  exact h1
theorem view_mono [Ol] {H : Type} {enc : TypeId × Value → H} {W : World} {a0 : Option Addr} {len cap : Nat} {d : DataW H} {p : List MemPlace}
  (hd : DataW.Trod enc Tryz.prog W 0 (fun _ => true) true 54 (.slice a0 len cap) d p)
  (hlo : W.heap.size ≤ Ol.lo) (hsz : ∀ elems spare, d = .slice elems spare → (elems.length + spare.length) * 16 ≤ 140737488351232) :
  ∃ ps : List (Int × Int), Ml W a0 len cap ps := by
 obtain ⟨fuel, hf⟩ := hd
 rcases open_slice_pairs Tryz.underlying54 Tryz.underlying87 (by kernel_rfl) rfl rfl (by kernel_rfl) (by kernel_rfl) hf with ⟨hcs, hx⟩ | ⟨a, len', cap', m, n, V0, V1, D0, D1, P0, P1, hcs, _, hl, hm, hmm, hx, hi⟩
 ·simp [Value.cells] at hcs
  obtain ⟨rfl, rfl, rfl⟩ := hcs
  exact ⟨[], Ml.zero W⟩
 ·simp [Value.cells] at hcs
  obtain ⟨rfl, rfl, rfl⟩ := hcs
  simp only [Prod.mk.injEq] at hx
  obtain ⟨rfl, rfl⟩ := hx; have hs := hsz _ _ rfl
  simp at hs
  have hlm : len ≤ m := by rw [hmm]; split <;> omega
  obtain ⟨ps, h1, h2, h3⟩ := trod_fun (f := fun i => (V0 i, V1 i)) len (W := W) (a := a) (fun i hil => by
   obtain ⟨_, _, g0, g1⟩ := hi i (by omega)
   obtain ⟨z0, e0, _, w0⟩ := DataW.trod_int Tryz.underlying3 g0; obtain ⟨z1, e1, _, w1⟩ := DataW.trod_int Tryz.underlying3 g1
   simp at e0 e1
   exact ⟨(z0, z1), by rw [e0, e1], int_wf w0, int_wf w1⟩) (fun i hil => ⟨(hi i (by omega)).1, (hi i (by omega)).2.1⟩)
  exact ⟨ps, h1, hl, by omega, h2, (fun h => by cases h), (fun ad had t ht => by cases had; exact h3 t ht), fun h0 ad had => by
   cases had
   have h4 := World.block_lt_of_cell? W _ (h3 0 h0).1
   rw [show ∀ (x : Addr) k, (x.add k).block = x.block from fun x k => by unfold Addr.add; split <;> rfl] at h4
   exact .inl (Nat.lt_of_lt_of_le h4 hlo)⟩
end Go.Proofs.YtmmgipcacceakaaGreat

/- An argument of type api.Int opened: a sign and a slice of limbs. -/
namespace Go.Proofs.YtmmgipcacceakaaGreat
open Go.ChangeShapes Go.WideShapes Go.ChangeAt Go.RowKit Go.Joins
theorem sized_one {P : Program} {H : Type} {ts : List TypeId} {ds : List (DataW H)} (h : (DataW.weightsEach P ts ds).all (· ≤ reachBytes) = true) {j : Nat} {t : TypeId} {d : DataW H} (ht : ts[j]? = some t) (hd : ds[j]? = some d) :
  ∀ n ∈ d.weights P t, n ≤ reachBytes := fun n hn => by
 have := List.all_eq_true.1 h _ (DataW.weights_mem_each ht hd n hn)
 simpa using this
end Go.Proofs.YtmmgipcacceakaaGreat

/- A number's two cells opened (api.Int at a place in memory). -/
namespace Go.Proofs.YtmmgipcacceakaaGreat
open Go.ChangeShapes Go.WideShapes Go.ChangeAt Go.RowKit Go.Joins
theorem view_int_at {H : Type} {enc : TypeId × Value → H} {W : World} {fuel : Nat} {c0 c1 : Value} {y : DataW H × List MemPlace}
  (hf : DataW.trod enc Tryz.prog W 0 (fun _ => true) true fuel 52 [c0, c1] = some y) (hsz : ∀ n ∈ y.1.weights Tryz.prog 52, n ≤ reachBytes) :
  ∃ (m : Bool) (ao : Option Addr) (n cap : Nat) (xs : List Nat), c0 = .bool m ∧ c1 = .slice ao n cap ∧ Sl W ao n cap xs := by
 obtain ⟨y0, y1, f, rfl, _, g0, g1⟩ := trod_struct2 Tryz.underlying52 hf
 have e0 : Tryz.prog.cellsOf 4 = 1 := by kernel_rfl
 have e1 : Tryz.prog.cellsOf 50 = 1 := by kernel_rfl
 have h0 : DataW.trod enc Tryz.prog W 0 (fun _ => true) true f 4 [c0] = some y0 := by
  have g : DataW.trod enc Tryz.prog W 0 (fun _ => true) true f 4 ([c0, c1].take (Tryz.prog.cellsOf 4)) = some y0 := g0
  rw [e0] at g
  exact g
 have h1 : DataW.trod enc Tryz.prog W 0 (fun _ => true) true f 50 [c1] = some y1 := by
  have g : DataW.trod enc Tryz.prog W 0 (fun _ => true) true f 50 ([c1].take (Tryz.prog.cellsOf 50)) = some y1 := g1
  rw [e1] at g
  exact g
 clear g0 g1; obtain ⟨m, hm, _⟩ := DataW.trod_bool Tryz.underlying4 h0
 obtain rfl : c0 = .bool m := by simpa using hm
 have hs : ∃ ao n cap, c1 = .slice ao n cap := by
  rcases open_ints Tryz.underlying50 Tryz.underlying118 Tryz.cells_u32 h1 with ⟨hcs, _⟩ | ⟨a, len', cap', zs, hcs, _⟩
  ·exact ⟨none, 0, 0, by simpa using hcs⟩
  ·exact ⟨some a, len', cap', by simpa using hcs⟩
 obtain ⟨ao, n, cap, rfl⟩ := hs
 obtain ⟨xs, hxs⟩ := view_u32 (d := y1.1) (p := y1.2) ⟨f, by simpa [Value.cells] using h1⟩ (fun elems spare he => by
  have h2 := hsz ((elems.length + spare.length) * Tryz.prog.bytesOf 118) (by
   simp [DataW.weights, Tryz.underlying52, DataW.weightsEach, he, Tryz.underlying50])
  rw [Tryz.bytes_u32] at h2
  simpa [reachBytes] using h2)
 exact ⟨m, ao, n, cap, xs, rfl, rfl, hxs⟩
end Go.Proofs.YtmmgipcacceakaaGreat

/- What the rows of laws over polynomials share: an argument that is a list of terms (api.Poly, []api.Term) opened once; closed facts. -/
namespace Go.Proofs.YtmmgipcacceakaaGreat
open Go.ChangeShapes Go.WideShapes Go.ChangeAt Go.RowKit Go.Deep
theorem Tryz.own8 : ownKnob Tryz.prog.godebug = none := by kernel_rfl
theorem Tryz.laidOut8 : laidOutB Tryz.prog = true := by kernel_rfl
theorem Tryz.bytes_term : Tryz.prog.bytesOf 56 = 56 := by kernel_rfl
theorem Tryz.cells_term : Tryz.prog.cellsOf 56 = 3 := by kernel_rfl
theorem view_mono_at [Ol] {H : Type} {enc : TypeId × Value → H} {W : World} {fuel : Nat} {c : Value} {y : DataW H × List MemPlace}
  (hf : DataW.trod enc Tryz.prog W 0 (fun _ => true) true fuel 54 [c] = some y) (hlo : W.heap.size ≤ Ol.lo) (hsz : ∀ n ∈ y.1.weights Tryz.prog 54, n ≤ reachBytes) :
  ∃ (ao : Option Addr) (n cap : Nat) (ps : List (Int × Int)), c = .slice ao n cap ∧ Ml W ao n cap ps := by
 have hs : ∃ ao n cap, c = .slice ao n cap := by
  rcases open_slice Tryz.underlying54 hf with ⟨hcs, _⟩ | ⟨a, len', cap', _, _, _, _, hcs, _⟩
  ·exact ⟨none, 0, 0, by simpa using hcs⟩
  ·exact ⟨some a, len', cap', by simpa using hcs⟩
 obtain ⟨ao, n, cap, rfl⟩ := hs
 obtain ⟨ps, hps⟩ := view_mono (d := y.1) (p := y.2) ⟨fuel, by simpa [Value.cells] using hf⟩ hlo (fun elems spare he => by
  have h2 := hsz ((elems.length + spare.length) * Tryz.prog.bytesOf 87) (by
   rw [he]; simp [DataW.weights, Tryz.underlying54])
  rw [Tryz.bytes_pow] at h2
  simpa [reachBytes] using h2)
 exact ⟨ao, n, cap, ps, rfl, hps⟩
theorem view_term_at [Ol] {H : Type} {enc : TypeId × Value → H} {W : World} {fuel : Nat} {c0 c1 c2 : Value} {y : DataW H × List MemPlace}
  (hf : DataW.trod enc Tryz.prog W 0 (fun _ => true) true fuel 56 [c0, c1, c2] = some y) (hlo : W.heap.size ≤ Ol.lo) (hsz : ∀ n ∈ y.1.weights Tryz.prog 56, n ≤ reachBytes) :
  ∃ t : Raw, TmR W [c0, c1, c2] t := by
 obtain ⟨y0, y1, f, hx, _, g0, g1⟩ := trod_struct2 Tryz.underlying56 hf
 have hc : Tryz.prog.cellsOf 52 = 2 := by kernel_rfl
 have hc1 : Tryz.prog.cellsOf 54 = 1 := by kernel_rfl
 simp only [hc, hc1] at g0 g1
 have h0 : DataW.trod enc Tryz.prog W 0 (fun _ => true) true f 52 [c0, c1] = some y0 := g0
 have h1 : DataW.trod enc Tryz.prog W 0 (fun _ => true) true f 54 [c2] = some y1 := g1
 clear g0 g1; obtain ⟨d, p⟩ := y
 simp only [Prod.mk.injEq] at hx
 obtain ⟨rfl, rfl⟩ := hx
 obtain ⟨m, ao, n, cap, xs, rfl, rfl, hs⟩ := view_int_at h0 (fun n hn => hsz n (by
  simp [DataW.weights, Tryz.underlying56, DataW.weightsEach]; exact Or.inl hn))
 obtain ⟨bo, k, cb, ps, rfl, hm⟩ := view_mono_at h1 hlo (fun n hn => hsz n (by
  simp [DataW.weights, Tryz.underlying56, DataW.weightsEach]; exact Or.inr hn))
 exact ⟨((m, xs), ps), ao, n, cap, bo, k, cb, rfl, hs, hm⟩
theorem view_terms [Ol] {T : TypeId} (hT : Tryz.prog.underlying T = some (.slice 56)) {H : Type} {enc : TypeId × Value → H} {W : World} {a0 : Option Addr} {len cap : Nat} {d : DataW H} {p : List MemPlace}
  (hd : DataW.Trod enc Tryz.prog W 0 (fun _ => true) true T (.slice a0 len cap) d p) (hlo : W.heap.size ≤ Ol.lo) (hsz : ∀ n ∈ d.weights Tryz.prog T, n ≤ reachBytes) :
  ∃ ps : List Raw, Pr W a0 len cap ps := by
 obtain ⟨fuel, hf⟩ := hd
 rcases open_slice hT hf with ⟨hcs, hx⟩ | ⟨a, len', cap', m, n, D, Pl, hcs, _, hl, hm, hmm, hx, hi⟩
 ·simp [Value.cells] at hcs
  obtain ⟨rfl, rfl, rfl⟩ := hcs
  exact ⟨[], ⟨[], Gl.zero 3 W, trivial⟩⟩
 ·simp [Value.cells] at hcs
  obtain ⟨rfl, rfl, rfl⟩ := hcs
  simp only [Prod.mk.injEq] at hx
  obtain ⟨rfl, rfl⟩ := hx
  obtain rfl : m = cap := by simpa using hmm
  rw [Tryz.cells_term] at hi
  have hs := hsz ((((List.range len).map D).length + ((List.range (m - len)).map fun j => D (len + j)).length) * Tryz.prog.bytesOf 56) (by simp [DataW.weights, hT])
  rw [Tryz.bytes_term] at hs
  simp [reachBytes] at hs
  have each : ∀ i, i < len → ∃ q : List Value × Raw, q.1.length = 3 ∧ (∀ j, j < 3 → W.cell? (a.add (i * 3 + j)) = q.1[j]?) ∧ TmR W q.1 q.2 := by
   intro i hil
   obtain ⟨cs', h1, h2⟩ := hi i (by omega)
   obtain ⟨_, hlen, hcell⟩ := World.cells?_some h1
   match cs', hlen with
   | [c0, c1, c2], _ =>
    obtain ⟨t, ht⟩ := view_term_at h2 hlo (fun n hn => hsz n (by
     simp only [DataW.weights, hT, List.mem_cons, List.mem_append]
     exact .inr (.inl (weights_mem_all (List.mem_map.2 ⟨i, List.mem_range.2 hil, rfl⟩) n hn))))
    refine ⟨([c0, c1, c2], t), rfl, fun j hj => ?_, ht⟩
    have := hcell j hj
    rwa [add_add] at this
  obtain ⟨q, hq⟩ := choose_lt each
  have hg : ∀ t, t < len → ((List.range len).map fun i => (q i).1).getD t [] = (q t).1 := fun t ht => by simp [List.getD, ht]
  have hone : ∀ i, i < len → ∀ v ∈ (q i).1, v.oneCell' = true := fun i hil v hv => by
   obtain ⟨ao, n, cap, bo, k, cb, e, _⟩ := (hq i hil).2.2; rw [e] at hv
   simp at hv
   rcases hv with rfl | rfl | rfl <;> rfl
  refine ⟨(List.range len).map fun i => (q i).2, ⟨(List.range len).map fun i => (q i).1, ⟨by simp, hl, by omega, fun vs hv => ?_, (fun h => by cases h), fun ad had hc => ?_, fun ad had h0 => ?_, fun ad had t ht j hj => ?_, fun h0 ad had => ?_⟩, tms_of _ _ len fun i hil => (hq i hil).2.2⟩⟩
  ·obtain ⟨i, hil, rfl⟩ := List.mem_map.1 hv
   exact ⟨(hq i (List.mem_range.1 hil)).1, hone i (List.mem_range.1 hil)⟩
  ·cases had
   obtain ⟨cs', h1, _⟩ := hi 0 hc; obtain ⟨_, hlen, hcell⟩ := World.cells?_some h1
   have h3 := hcell 0 (by omega)
   rw [List.getElem?_eq_getElem (by omega)] at h3
   have h4 := World.cell?_spot h3
   simpa [Addr.add] using h4
  ·cases had
   have h3 := (hq 0 h0).2.1 0 (by omega)
   rw [List.getElem?_eq_getElem (by rw [(hq 0 h0).1]; omega)] at h3
   have h4 := cell_lt h3
   rwa [add_block3] at h4
  ·cases had
   rw [hg t ht]
   exact (hq t ht).2.1 j hj
  ·cases had
   have h3 := (hq 0 h0).2.1 0 (by omega)
   rw [List.getElem?_eq_getElem (by rw [(hq 0 h0).1]; omega)] at h3
   have h4 := cell_lt h3; rw [add_block3] at h4
   exact .inl (Nat.lt_of_lt_of_le h4 hlo)
end Go.Proofs.YtmmgipcacceakaaGreat


/-
  In one: Drawn, SortLay, SortNone, PlSort, PlBackOrd.
-/
import Derived.Lone
import Derived.Calls
import Derived.Shelf.SlSortCmp.WholeK
import Derived.Test.YtmbgljjfmbhelaaGreatRows
import Derived.Test.YtmbgljjfmbhelaaGreatGSt
import Derived.Test.YtmbgljjfmbhelaaGreatGP2
import Derived.Test.YtmbgljjfmbhelaaGreatGPp
set_option maxHeartbeats 40000000
set_option maxRecDepth 100000
namespace Go.Proofs.YtmbgljjfmbhelaaGreat
namespace Dw
def rd {α : Type} : Result α → Nat
 | .ok _ w => w.drawn
 | .halt _ w => w.drawn
def gd : GStep → Nat
 | .go _ w _ => w.drawn
 | .comm _ _ _ _ w _ => w.drawn
 | .spawn _ _ w _ => w.drawn
 | .count _ w _ => w.drawn
 | .timer _ _ w _ => w.drawn
 | .alone _ _ w _ => w.drawn
 | .newcoro _ _ _ w _ => w.drawn
 | .coroswitch _ _ _ w _ => w.drawn
 | .collect _ w _ => w.drawn
 | .watch _ w _ => w.drawn
 | .ended _ w _ => w.drawn
end Dw
open Go.Shelf
def Tryz.sort6_ren : Go.Shelf.Ren := ⟨fun | 6 => 96 | 14 => 149 | 15 => 150 | 20 => 184 | 21 => 185 | 22 => 186 | 23 => 187 | 24 => 188 | 25 => 189 | 26 => 190 | 27 => 191 | 28 => 177 | 29 => 192 | 46 => 208 | 47 => 209 | 48 => 210 | 49 => 211 | 50 => 212 | 57 => 218 | n => n, fun | 0 => 0 | 3 => 3 | 4 => 4 | 5 => 5 | 9 => 9 | 22 => 22 | 24 => 53 | 25 => 104 | 39 => 162 | 45 => 189 | 46 => 190 | 50 => 194 | 53 => 107 | 55 => 115 | 66 => 209 | 70 => 213 | 76 => 221 | 77 => 222 | n => n, fun n => n⟩
theorem Tryz.sort6 : Go.Proofs.SlLaysF0.n6 Tryz.prog Tryz.sort6_ren := {
 mixed := by kernel_rfl
 f6 := ⟨ "slices.SortFunc[[]porism/api.Term,porism/api.Term]", by kernel_rfl, Tryz.func96.trans (congrArg some (by kernel_rfl))⟩
 f14 := ⟨ "slices.pdqsortCmpFunc[porism/api.Term]", by kernel_rfl, Tryz.func149.trans (congrArg some (by kernel_rfl))⟩
 f15 := Tryz.func150.trans (congrArg some (by kernel_rfl))
 f20 := ⟨ "slices.insertionSortCmpFunc[porism/api.Term]", by kernel_rfl, Tryz.func184.trans (congrArg some (by kernel_rfl))⟩
 f21 := ⟨ "slices.heapSortCmpFunc[porism/api.Term]", by kernel_rfl, Tryz.func185.trans (congrArg some (by kernel_rfl))⟩
 f22 := ⟨ "slices.breakPatternsCmpFunc[porism/api.Term]", by kernel_rfl, Tryz.func186.trans (congrArg some (by kernel_rfl))⟩
 f23 := ⟨ "slices.choosePivotCmpFunc[porism/api.Term]", by kernel_rfl, Tryz.func187.trans (congrArg some (by kernel_rfl))⟩
 f24 := ⟨ "slices.reverseRangeCmpFunc[porism/api.Term]", by kernel_rfl, Tryz.func188.trans (congrArg some (by kernel_rfl))⟩
 f25 := ⟨ "slices.partialInsertionSortCmpFunc[porism/api.Term]", by kernel_rfl, Tryz.func189.trans (congrArg some (by kernel_rfl))⟩
 f26 := ⟨ "slices.partitionEqualCmpFunc[porism/api.Term]", by kernel_rfl, Tryz.func190.trans (congrArg some (by kernel_rfl))⟩
 f27 := ⟨ "slices.partitionCmpFunc[porism/api.Term]", by kernel_rfl, Tryz.func191.trans (congrArg some (by kernel_rfl))⟩
 f28 := Tryz.func177.trans (congrArg some (by kernel_rfl))
 f29 := Tryz.func192.trans (congrArg some (by kernel_rfl))
 f46 := ⟨ "slices.siftDownCmpFunc[porism/api.Term]", by kernel_rfl, Tryz.func208.trans (congrArg some (by kernel_rfl))⟩
 f47 := Tryz.func209.trans (congrArg some (by kernel_rfl))
 f48 := Tryz.func210.trans (congrArg some (by kernel_rfl))
 f49 := ⟨ "slices.medianAdjacentCmpFunc[porism/api.Term]", by kernel_rfl, Tryz.func211.trans (congrArg some (by kernel_rfl))⟩
 f50 := ⟨ "slices.medianCmpFunc[porism/api.Term]", by kernel_rfl, Tryz.func212.trans (congrArg some (by kernel_rfl))⟩
 f57 := ⟨ "slices.order2CmpFunc[porism/api.Term]", by kernel_rfl, Tryz.func218.trans (congrArg some (by kernel_rfl))⟩
 t0 := Tryz.underlying0
 a0 := Tryz.isAgg0
 z0 := Tryz.sizeOf0
 v0 := Tryz.zeroValue0
 t3 := Tryz.underlying3
 a3 := Tryz.isAgg3
 z3 := Tryz.sizeOf3
 v3 := Tryz.zeroValue3
 t4 := Tryz.underlying4
 a4 := Tryz.isAgg4
 z4 := Tryz.sizeOf4
 v4 := Tryz.zeroValue4
 t5 := Tryz.underlying5
 a5 := Tryz.isAgg5
 z5 := Tryz.sizeOf5
 v5 := Tryz.zeroValue5
 t9 := Tryz.underlying9
 a9 := Tryz.isAgg9
 z9 := Tryz.sizeOf9
 v9 := Tryz.zeroValue9
 t22 := Tryz.underlying22
 a22 := Tryz.isAgg22
 z22 := Tryz.sizeOf22
 v22 := Tryz.zeroValue22
 t25 := Tryz.underlying104
 a25 := Tryz.isAgg104
 z25 := Tryz.sizeOf104
 v25 := Tryz.zeroValue104
 t39 := Tryz.underlying162
 a39 := Tryz.isAgg162
 z39 := Tryz.sizeOf162
 v39 := Tryz.zeroValue162
 t45 := Tryz.underlying189
 a45 := Tryz.isAgg189
 z45 := Tryz.sizeOf189
 v45 := Tryz.zeroValue189
 t46 := Tryz.underlying190
 a46 := Tryz.isAgg190
 z46 := Tryz.sizeOf190
 v46 := Tryz.zeroValue190
 t50 := Tryz.underlying194
 a50 := Tryz.isAgg194
 z50 := Tryz.sizeOf194
 v50 := Tryz.zeroValue194
 t53 := Tryz.underlying107
 a53 := Tryz.isAgg107
 z53 := Tryz.sizeOf107
 v53 := Tryz.zeroValue107
 t55 := Tryz.underlying115
 a55 := Tryz.isAgg115
 z55 := Tryz.sizeOf115
 v55 := Tryz.zeroValue115
 t66 := Tryz.underlying209
 a66 := Tryz.isAgg209
 z66 := Tryz.sizeOf209
 v66 := Tryz.zeroValue209
 t70 := Tryz.underlying213
 a70 := Tryz.isAgg213
 z70 := Tryz.sizeOf213
 v70 := Tryz.zeroValue213
 t76 := Tryz.underlying221
 a76 := Tryz.isAgg221
 z76 := Tryz.sizeOf221
 v76 := Tryz.zeroValue221
 t77 := Tryz.underlying222
 a77 := Tryz.isAgg222
 z77 := Tryz.sizeOf222
 v77 := Tryz.zeroValue222 }
open Go.RowKit Go.Shelf
theorem insertNone_any (ao : Option Addr) (cap : Nat) (fv : Value) (w : World) :
  Calls Tryz.prog 184 #[.slice ao 0 cap, .int .i64 0, .int .i64 0, fv] w (fun e w' => e = .returned (.tuple #[]) ∧ w' = w) := by
 go_enter Tryz.func184, Tryz.ntmps184
 go_wp2
 refine wp_loop_rounds 1 ?_
 rw [rounds_succ]
 go_wp2
 go_end0
 exact ⟨rfl, rfl⟩
theorem pdqNone_any (ao : Option Addr) (cap : Nat) (l : Int) (fv : Value) (w : World) :
  Calls Tryz.prog 149 #[.slice ao 0 cap, .int .i64 0, .int .i64 0, .int .i64 l, fv] w (fun e w' => e = .returned (.tuple #[]) ∧ w' = w) := by
 go_enter Tryz.func149, Tryz.ntmps149
 go_wp2
 refine wp_loop_rounds 1 ?_
 rw [rounds_succ]
 go_wp2_with fail
 refine (insertNone_any _ _ _ _).mono ?_
 rintro e w' ⟨rfl, rfl⟩
 go_wp2_with fail
 (try simp only [Exit.inBlock, Exit.then])
 refine bodyPost_ret (results_none rfl _ _ _) rfl ?_
 exact ⟨rfl, rfl⟩
theorem sortNone_any (ao : Option Addr) (cap : Nat) (fv : Value) (w : World) :
  Calls Tryz.prog 96 #[.slice ao 0 cap, fv] w (fun e w' => e = .returned (.tuple #[]) ∧ w' = w) := by
 have L := Tryz.sort6
 have hl : ∀ W, Calls Tryz.prog 150 #[.int .u64 0] W (fun e w' => e = .returned (.int .i64 (Lib.bitLen 0 : Nat)) ∧ w' = W) := fun W => Any.bits_Len (SlLaysF0.n15.bits (P := Tryz.prog) (ρ := Tryz.sort6_ren) { L with }) 0 W (by omega) (by omega)
 clear L
 go_enter Tryz.func96, Tryz.ntmps96
 go_wp2_with fail
 refine (hl _).mono ?_
 rintro e w' ⟨rfl, rfl⟩
 go_wp2_with fail
 refine (pdqNone_any _ _ _ _ _).mono ?_
 rintro e w' ⟨rfl, rfl⟩
 go_wp2_with fail
 go_end0
 exact ⟨rfl, rfl⟩
open Go.Shelf Go.RowKit Go.Lib
theorem grown_of {W w' : World} (hb : Below W.heap.size W w') (hd : W.drawn ≤ w'.drawn) : ∃ q os, w' = Sort.grow (W.drewN q) os := by
 refine ⟨w'.drawn - W.drawn, w'.heap.extract W.heap.size w'.heap.size, ?_⟩
 obtain ⟨h1, t1, d1, o1, p1⟩ := W
 obtain ⟨h2, t2, d2, o2, p2⟩ := w'
 have e1 : o2 = o1 := hb.os
 have e2 : t2 = t1 := hb.tape
 have e3 : p2 = p1 := hb.output
 subst e1 e2 e3
 have hs : h1.size ≤ h2.size := hb.size
 have hk : ∀ k, k < h1.size → h2[k]? = h1[k]? := hb.block
 have hdd : d1 ≤ d2 := hd
 show (⟨h2, t2, d2, o2, p2⟩ : World) = ⟨h1 ++ h2.extract h1.size h2.size, t2, d1 + (d2 - d1), o2, p2⟩
 rw [show d1 + (d2 - d1) = d2 by omega]
 congr 1
 apply Array.ext_getElem?
 intro i
 by_cases hi : i < h1.size
 ·rw [hk i hi, Array.getElem?_append_left hi]
 ·rw [Array.getElem?_append_right (by omega), Array.getElem?_extract]
  by_cases h2i : i < h2.size
  ·rw [if_pos (by omega), show h1.size + (i - h1.size) = i by omega]
  ·rw [if_neg (by omega), Array.getElem?_eq_none (by omega)]
structure SCell where
 m : Bool
 ao : Option Addr
 n : Nat
 cap : Nat
 bo : Option Addr
 k : Nat
 cb : Nat
 t : Term
def SCell.vs (c : SCell) : List Value := [.bool c.m, .slice c.ao c.n c.cap, .slice c.bo c.k c.cb]
def SOk (K : Nat) (w : World) (c : SCell) : Prop := (Cn w c.m c.ao c.n c.cap c.t.1 ∧ Bd c.t.1 K ∧ Ml w c.bo c.k c.cb c.t.2) ∧ mayM 0 c.t.2 = true
def SEl (K : Nat) (w : World) : Type := {c : SCell // SOk K w c}
def encS {K : Nat} {w : World} (x : SEl K w) : List Value := x.1.vs
def cfS {K : Nat} {w : World} (x y : SEl K w) : Int := cmpM y.1.t.2 x.1.t.2
theorem SOk.stays {K : Nat} {w w' : World} {g : Nat} (hc : CleanB w g) (hG : w.grownBy w' (some g)) {c : SCell} (h : SOk K w c) : SOk K w' c :=
 ⟨⟨h.1.1.staysC hc hG, h.1.2.1, h.1.2.2.staysC hc hG⟩, h.2⟩
theorem tms_els {K : Nat} {w : World} : ∀ {X : List (List Value)} {p : List Term}, Tms (TmC K w) X p → (∀ t ∈ p, mayM 0 t.2 = true) → ∃ l : List (SEl K w), l.map encS = X ∧ l.map (fun x => x.1.t) = p
 | [], [], _, _ => ⟨[], rfl, rfl⟩
 | v :: X, t :: p, h, hm => by
  obtain ⟨⟨m, ao, n, cap, bo, k, cb, rfl, h2, h3, h4⟩, hr⟩ := h
  obtain ⟨l, rfl, rfl⟩ := tms_els hr (fun s hs => hm s (List.mem_cons_of_mem _ hs))
  exact ⟨⟨⟨m, ao, n, cap, bo, k, cb, t⟩, ⟨h2, h3, h4⟩, hm t List.mem_cons_self⟩ :: l, rfl, rfl⟩
 | [], _ :: _, h, _ => h.elim
 | _ :: _, [], h, _ => h.elim
theorem els_tms {K : Nat} {w w' : World} (hw : ∀ c : SCell, SOk K w c → SOk K w' c) : ∀ l : List (SEl K w), Tms (TmC K w') (l.map encS) (l.map (fun x => x.1.t))
 | [] => trivial
 | x :: l => by
  have h := hw x.1 x.2
  exact ⟨⟨x.1.m, x.1.ao, x.1.n, x.1.cap, x.1.bo, x.1.k, x.1.cb, rfl, h.1.1, h.1.2.1, h.1.2.2⟩, els_tms hw l⟩
theorem ltS_iff {K : Nat} {w : World} (x y : SEl K w) : ltOf cfS x y = true ↔ gtM x.1.t.2 y.1.t.2 := by
 have hx := x.2.2
 have hy := y.2.2
 unfold ltOf cfS
 rw [decide_eq_true_iff]
 constructor
 ·intro h
  rcases cmp_range hy hx with e | e | e
  ·exact cmp_lt hy hx e
  ·omega
  ·omega
 ·intro h
  rcases cmp_range hy hx with e | e | e
  ·omega
  ·rw [cmp_eq hy hx e] at h; exact (gtM_irrefl h).elim
  ·exact (gtM_irrefl (gtM_trans h (cmp_gt hy hx e))).elim
theorem swoS {K : Nat} {w : World} : Sort.SWO (ltOf (cfS (K := K) (w := w))) := by
 have H := fun x y : SEl K w => ltS_iff x y
 have Hn : ∀ x y : SEl K w, ltOf cfS x y = false ↔ x.1.t.2 = y.1.t.2 ∨ gtM y.1.t.2 x.1.t.2 := fun x y => by
  rw [← Bool.not_eq_true, H]
  constructor
  ·intro h
   rcases gtM_total x.2.2 y.2.2 with e | e | e
   ·exact (h e).elim
   ·exact .inl e
   ·exact .inr e
  ·rintro (e | e) h
   ·rw [e] at h; exact gtM_irrefl h
   ·exact gtM_irrefl (gtM_trans h e)
 refine ⟨fun x => (Hn x x).2 (.inl rfl), fun x y z h1 h2 => (H x z).2 (gtM_trans ((H x y).1 h1) ((H y z).1 h2)), fun x y z h1 h2 => (Hn x z).2 ?_⟩
 rcases (Hn x y).1 h1 with e | e
 ·rcases (Hn y z).1 h2 with e2 | e2
  ·exact .inl (e.trans e2)
  ·exact .inr (by rw [e]; exact e2)
 ·rcases (Hn y z).1 h2 with e2 | e2
  ·exact .inr (by rw [← e2]; exact e)
  ·exact .inr (gtM_trans e2 e)
theorem AtN.sorted {α : Type} [Inhabited α] {enc : α → List Value} {w : World} {g off : Nat} {L : List Value} {T : TypeId} (h : AtN w g L T) (d : Array α) (n : Nat) (os : Array Obj) :
  AtN (sortWorldK enc 3 w g off n d os) g (Sort.putCells id off (Sort.flatK enc 3 d) L.toArray).toList T := by
 have hlt := h.lt
 unfold AtN at h ⊢
 show ((w.heap.modify g _) ++ os)[g]? = _
 rw [Array.getElem?_append_left (by simpa using hlt)]
 simp [Array.getElem?_modify, h, Sort.onCells]
theorem grown_sorted {α : Type} [Inhabited α] (enc : α → List Value) (w : World) (g off : Nat) (d : Array α) (n : Nat) (os : Array Obj) : w.grownBy (sortWorldK enc 3 w g off n d os) (some g) := by
 refine ⟨rfl, rfl, rfl, ?_, fun k hk hne => ?_⟩
 ·show w.heap.size ≤ ((w.heap.modify g _) ++ os).size
  simp
 ·show ((w.heap.modify g _) ++ os)[k]? = _
  have hk2 : g ≠ k := fun e => hne (by rw [e])
  rw [Array.getElem?_append_left (by simpa using hk)]
  simp [Array.getElem?_modify, hk2]
theorem holds_seg {α : Type} [Inhabited α] {enc : α → List Value} (hk : ∀ x, (enc x).length = 3) {w : World} {g off : Nat} {L : List Value} {T : TypeId} (h : AtN w g L T) {d : Array α} (hs : Seg 3 L off (d.toList.map enc)) :
  Sort.HoldsK enc 3 w g off d := fun j hj => by
 have hj' : j < d.size * 3 := by simpa using hj
 have hq : j / 3 < d.size := by omega
 refine ⟨?_, h.fz _⟩
 rw [h.cell, Sort.get_flatK _ _ _ _ hj']
 have h3 := hs (j / 3) (by simpa using hq) (j % 3) (by omega)
 have e : (d.toList.map enc).getD (j / 3) [] = enc d[j / 3]! := by
  rw [getElem!_pos d (j / 3) hq]
  simp [List.getD, hq]
 rw [show off + j = off + j / 3 * 3 + j % 3 by omega, h3, e, List.getElem?_eq_getElem (by rw [hk]; omega), getElem!_pos (enc d[j / 3]!) (j % 3) (by rw [hk]; omega)]
 rfl
theorem put_at {α : Type} [Inhabited α] {enc : α → List Value} (L : List Value) (off : Nat) (d : Array α) (i : Nat) (hi : i < L.length) :
  (Sort.putCells id off (Sort.flatK enc 3 d) L.toArray).toList[i]? = some (if off ≤ i ∧ i < off + d.size * 3 then (enc d[(i - off) / 3]!)[(i - off) % 3]! else L[i]) := by
 rw [Array.getElem?_toList]
 unfold Sort.putCells
 rw [Array.getElem?_mapIdx, List.getElem?_toArray, List.getElem?_eq_getElem hi, Option.map_some, Sort.size_flatK]
 by_cases hc : off ≤ i ∧ i < off + d.size * 3
 ·rw [if_pos hc, if_pos hc, Sort.get_flatK _ _ _ _ (by omega)]; rfl
 ·rw [if_neg hc, if_neg hc]
theorem put_len {α : Type} [Inhabited α] {enc : α → List Value} (L : List Value) (off : Nat) (d : Array α) : (Sort.putCells id off (Sort.flatK enc 3 d) L.toArray).toList.length = L.length := by simp [Sort.putCells]
theorem seg_put {α : Type} [Inhabited α] {enc : α → List Value} (hk : ∀ x, (enc x).length = 3) (L : List Value) (off : Nat) (d : Array α) (hl : off + d.size * 3 ≤ L.length) :
  Seg 3 (Sort.putCells id off (Sort.flatK enc 3 d) L.toArray).toList off (d.toList.map enc) := fun t ht j hj => by
 have hq : t < d.size := by simpa using ht
 have e : (d.toList.map enc).getD t [] = enc d[t]! := by
  rw [getElem!_pos d t hq]
  simp [List.getD, hq]
 rw [put_at L off d _ (by omega), if_pos (by omega), e, show (off + t * 3 + j - off) / 3 = t by omega, show (off + t * 3 + j - off) % 3 = j by omega, List.getElem?_eq_getElem (by rw [hk]; exact hj), getElem!_pos (enc d[t]!) j (by rw [hk]; exact hj)]
theorem clean_putK {α : Type} [Inhabited α] {enc : α → List Value} (hk : ∀ x, (enc x).length = 3) (hc : ∀ x, ∀ v ∈ enc x, notInt v = true) {L : List Value} (hL : Clean L) (off : Nat) (d : Array α) :
  Clean (Sort.putCells id off (Sort.flatK enc 3 d) L.toArray).toList := fun u hu => by
 obtain ⟨i, hi, rfl⟩ := List.mem_iff_getElem.1 hu
 have hi2 : i < L.length := by rw [put_len] at hi; exact hi
 have h := put_at (enc := enc) L off d i hi2
 rw [List.getElem?_eq_getElem hi] at h
 rw [Option.some.inj h]
 by_cases hh : off ≤ i ∧ i < off + d.size * 3
 ·rw [if_pos hh]
  have hm : (i - off) % 3 < (enc d[(i - off) / 3]!).length := by rw [hk]; omega
  rw [getElem!_pos (enc d[(i - off) / 3]!) ((i - off) % 3) hm]
  exact hc _ _ (List.getElem_mem hm)
 ·rw [if_neg hh]; exact hL _ (List.getElem_mem hi2)
theorem encS_len {K : Nat} {w : World} (x : SEl K w) : (encS x).length = 3 := rfl
theorem encS_one {K : Nat} {w : World} (x : SEl K w) : ∀ v ∈ encS x, v.oneCell' = true := fun v hv => by
 simp only [encS, SCell.vs, List.mem_cons, List.not_mem_nil, or_false] at hv
 rcases hv with rfl | rfl | rfl <;> rfl
theorem encS_not {K : Nat} {w : World} (x : SEl K w) : ∀ v ∈ encS x, notInt v = true := fun v hv => by
 simp only [encS, SCell.vs, List.mem_cons, List.not_mem_nil, or_false] at hv
 rcases hv with rfl | rfl | rfl <;> rfl
theorem psort_some {ρ : Ren} (H6 : SlLaysF0.n6 Tryz.prog ρ) (aE : ∀ w, (isAgg (ρ.t 24)).run Tryz.prog w = .ok true w) (zE : ∀ w, (Go.sizeOf (ρ.t 24)).run Tryz.prog w = .ok 3 w)
  {B K : Nat} {w : World} {g off n cap : Nat} {p : List Term} (h : Pw B K w (some ⟨g, off, none⟩) n cap p) (hn : 0 < n) (hm : ∀ t ∈ p, mayM 0 t.2 = true)
  (F : Nat) (eg : ∀ args w, (callFunc F args).run Tryz.prog w = .ok (.enter F args) w)
  (hF : ∀ (W : World) (x y : SCell), SOk K W x → SOk K W y → Calls Tryz.prog F #[.agg x.vs.toArray, .agg y.vs.toArray] W (RetB (.int .i64 (cmpM y.t.2 x.t.2)) W)) :
  Calls Tryz.prog (ρ.f 6) #[.slice (some ⟨g, off, none⟩) n cap, .func (.func F) #[] #[]] w fun e w' =>
   e = .returned (.tuple #[]) ∧ ∃ q, q.Perm p ∧ q.Pairwise (fun s t => ¬ gtM t.2 s.2) ∧ Pw B K w' (some ⟨g, off, none⟩) n cap q ∧ w.grownBy w' (some g) := by
 obtain ⟨X, hR, hT⟩ := h
 rcases hR.ex with ⟨h0, _⟩ | ⟨g', off', L, hao, hB, hA, hcl, hl, hnc, hcm, hnm, hXl, hE, hS⟩
 ·cases h0
 cases hao
 obtain ⟨l, hlX, hlp⟩ := tms_els hT hm
 have hll : l.length = n := by rw [← hXl, ← hlX, List.length_map]
 cases hle : l with
 | nil => rw [hle] at hll; simp at hll; omega
 | cons x0 l0 =>
  letI : Inhabited (SEl K w) := ⟨x0⟩
  have hsz : l.toArray.size = n := by simpa using hll
  have hCB : CleanB w g := hA.cleanB hcl
  have hSt : ∀ (m : Nat) (os : Array Obj) (dk : Array (SEl K w)) (c : SCell), SOk K w c → SOk K (sortWorldK encS 3 w g off m dk os) c := fun m os dk c hc => hc.stays hCB (grown_sorted encS w g off dk m os)
  have hcmp : CmpLays Tryz.prog F #[] (encS (K := K) (w := w)) 3 cfS g off l.toArray.size w := fun m os dk _ x y => by
   rw [Array.append_empty]
   exact (Dw.calls_drawn (hF _ x.1 y.1 (hSt m os dk _ x.2) (hSt m os dk _ y.2)) (fun e w' hr => ⟨_, hr.1⟩)).mono fun e w' hr => ⟨hr.1.1, grown_of hr.1.2 hr.2⟩
  have hH : Sort.HoldsK encS 3 w g off l.toArray := holds_seg encS_len hA (by show Seg 3 L off (l.map encS); rw [hlX]; exact hS)
  have hC := AnyQ.slices_SortFunc H6 3 aE zE encS encS_len encS_one cfS swoS F #[] g off cap l.toArray w eg hcmp hH hA.lt (by rw [hsz]; omega)
  rw [hsz] at hC
  refine hC.mono ?_
  rintro e w' ⟨rfl, d', m, os, hP, hO, rfl⟩
  have hs' : d'.size = n := hP.1.trans hsz
  have hPm : d'.toList.Perm l := by
   have := hP.2.2
   rw [← hs', Array.extract_size, hs', ← hsz, Array.extract_size] at this
   exact this
  refine ⟨rfl, d'.toList.map (fun x => x.1.t), hlp ▸ hPm.map _, ?_, ⟨d'.toList.map encS, ⟨.inr ⟨g, off, _, rfl, hB, hA.sorted d' m os, clean_putK encS_len encS_not hcl off d', by rw [put_len]; exact hl, hnc, hcm, hnm, by simpa using hs', ?_, seg_put encS_len L off d' (by omega)⟩⟩, els_tms (hSt m os d') d'.toList⟩, grown_sorted encS w g off d' m os⟩
  ·rw [List.pairwise_map, List.pairwise_iff_getElem]
   intro i j hi hj hij hgt
   have hi' : i < d'.size := by simpa using hi
   have hj' : j < d'.size := by simpa using hj
   have := hO i j (Nat.zero_le _) hij (by omega)
   rw [getElem!_pos d' i hi', getElem!_pos d' j hj'] at this
   rw [(ltS_iff d'[j] d'[i]).2 (by simpa using hgt)] at this
   cases this
  ·intro vs hvs
   obtain ⟨x, _, rfl⟩ := List.mem_map.1 hvs
   exact ⟨rfl, encS_one x⟩
open Lib (hid)
open Go.RowKit
theorem ofBack_any (x y : SCell) (K : Nat) (w : World) (hx : SOk K w x) (hy : SOk K w y) :
  Calls Tryz.prog 97 #[.agg x.vs.toArray, .agg y.vs.toArray] w (RetB (.int .i64 (cmpM y.t.2 x.t.2)) w) := by
 obtain ⟨xm, xa, xn, xc, xp, xq, xr, s⟩ := x
 obtain ⟨ym, ya, yn, yc, yp, yq, yr, t⟩ := y
 obtain ⟨z, hz⟩ : ∃ z, cmpM t.2 s.2 = z := ⟨_, rfl⟩
 show Calls Tryz.prog 97 #[.agg #[.bool xm, .slice xa xn xc, .slice xp xq xr], .agg #[.bool ym, .slice ya yn yc, .slice yp yq yr]] w (RetB (.int .i64 (cmpM t.2 s.2)) w)
 rw [hz]
 have HX : Hid (Ml w xp xq xr s.2) := hid hx.1.2.2
 have HY : Hid (Ml w yp yq yr t.2) := hid hy.1.2.2
 have h1 : mayM 0 s.2 = true := hx.2
 have h2 : mayM 0 t.2 = true := hy.2
 have HZ := hid hz
 clear hx hy hz
 go_enter Tryz.func97, Tryz.ntmps97
 go_upto_region 1 with (fail)
 refine wp_world (fun W hW => ?_)
 obtain ⟨a1, a2, hB⟩ := box2 w [.bool xm, .slice xa xn xc, .slice xp xq xr] [.bool ym, .slice ya yn yc, .slice yp yq yr] 53 53
 rw [← hW] at a1 a2 hB
 clear hW
 obtain ⟨c10, c11, c12⟩ := a1.c3
 obtain ⟨c20, c21, c22⟩ := a2.c3
 have HB := hid hB
 clear a1 a2 hB
 go_wp2_with fail
 refine (order_any z (HY.out.below HB.out) (HX.out.below HB.out) h2 h1 HZ.out).mono ?_
 rintro e w' ⟨rfl, hB⟩
 have HB2 := hid (Below.steps HB.out hB)
 clear hB HB c10 c11 c12 c20 c21 c22
 go_wp2_with fail
 go_ret
 exact ⟨rfl, HB2.out⟩
theorem ofSort_any {B K : Nat} {w : World} {g off n cap : Nat} {p : List Term} (h : Pw B K w (some ⟨g, off, none⟩) n cap p) (hn : 0 < n) (hm : ∀ t ∈ p, mayM 0 t.2 = true) :
  Calls Tryz.prog 96 #[.slice (some ⟨g, off, none⟩) n cap, .func (.func 97) #[] #[]] w fun e w' =>
   e = .returned (.tuple #[]) ∧ ∃ q, q.Perm p ∧ q.Pairwise (fun s t => ¬ gtM t.2 s.2) ∧ Pw B K w' (some ⟨g, off, none⟩) n cap q ∧ w.grownBy w' (some g) :=
 psort_some Tryz.sort6 (fun _ => rfl) (fun _ => rfl) h hn hm 97 (enters_of Tryz.func97 (by kernel_rfl) rfl) (fun W x y hx hy => ofBack_any x y K W hx hy)
end Go.Proofs.YtmbgljjfmbhelaaGreat

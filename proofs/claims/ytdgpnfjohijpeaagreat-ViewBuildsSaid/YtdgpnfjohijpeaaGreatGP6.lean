/- PlTk, PlPush -/
import Derived.Test.YtdgpnfjohijpeaaGreatGP5
set_option maxHeartbeats 40000000
set_option maxRecDepth 100000
namespace Go.Proofs.YtdgpnfjohijpeaaGreat
open Go.RowKit
theorem flat_set {u : Value} : ∀ {X : List (List Value)} {k : Nat}, Each 1 X → k < X.length → (X.set k [u]).flatten = X.flatten.set k u
 | [], _, _, hk => by simp at hk
 | x :: X, 0, hE, _ => by
  obtain ⟨a, rfl⟩ := List.length_eq_one_iff.1 (hE x (by simp)).1
  simp
 | x :: X, k + 1, hE, hk => by
  obtain ⟨a, rfl⟩ := List.length_eq_one_iff.1 (hE x (by simp)).1
  have := flat_set (X := X) (k := k) (u := u) (fun v hv => hE v (by simp [hv])) (by simpa using hk)
  simp [this]
theorem tms_set {α : Type} {R : List Value → α → Prop} {v : List Value} {a : α} : ∀ {X : List (List Value)} {l : List α} (k : Nat), Tms R X l → R v a → Tms R (X.set k v) (l.set k a)
 | [], [], _, _, _ => trivial
 | _ :: _, _ :: _, 0, h, hr => ⟨hr, h.2⟩
 | _ :: _, _ :: _, k + 1, h, hr => ⟨h.1, tms_set k h.2 hr⟩
 | [], _ :: _, _, h, _ => h.elim
 | _ :: _, [], _, h, _ => h.elim
theorem aparts_set {v : List Value} : ∀ {X : List (List Value)} {k : Nat}, Aparts X → (∀ g, blkV v = some g → blkV (X.getD k []) = some g) → k < X.length → Aparts (X.set k v)
 | [], _, h, _, _ => h
 | x :: X, 0, h, hv, _ => by
  obtain ⟨h1, h2⟩ := List.pairwise_cons.1 h
  exact List.pairwise_cons.2 ⟨fun y hy g hg => h1 y hy g (hv g hg), h2⟩
 | x :: X, k + 1, h, hv, hk => by
  obtain ⟨h1, h2⟩ := List.pairwise_cons.1 h
  have hk' : k < X.length := by simpa using hk
  have ih := aparts_set (X := X) (k := k) h2 (by simpa [List.getD] using hv) hk'
  refine List.pairwise_cons.2 ⟨fun y hy g hg e => ?_, ih⟩
  rcases List.mem_or_eq_of_mem_set hy with hy | rfl
  ·exact h1 y hy g hg e
  ·have := hv g e
   exact h1 (X.getD k []) (getD_in [] hk') g hg (by simpa [List.getD] using this)
theorem go1_set {B : Nat} {T : TypeId} {w : World} {g n cap : Nat} {X : List (List Value)} (h : Go1 B T 1 w (some ⟨g, 0, none⟩) n cap X) {k : Nat} (hk : k < n) {u : Value} (h1 : u.oneCell' = true) (h2 : notInt u = true) : Go1 B T 1 (w.setCell ⟨g, k, none⟩ u) (some ⟨g, 0, none⟩) n cap (X.set k [u]) := by
 have hE : Each 1 (X.set k [u]) := fun vs hvs => by
  rcases List.mem_or_eq_of_mem_set hvs with hv | rfl
  ·exact h.each vs hv
  ·exact ⟨rfl, fun v hv => by simp at hv; subst hv; exact h1⟩
 rcases h.row.2 with ⟨hv, _⟩ | ⟨g', cap', cur, hv, hB, hh, hn, hm, hs, ht⟩
 ·cases hv
 ·simp only [Value.slice.injEq, Option.some.injEq, Addr.mk.injEq, and_true, true_and] at hv
  obtain ⟨rfl, rfl⟩ := hv
  have hA : AtN w g cur.toList T := by unfold AtN; simpa using hh
  have hS := hA.set k u
  have hC : Clean (cur.toList.set k u) := fun v hv => by
   rcases List.mem_or_eq_of_mem_set hv with hv | rfl
   ·exact h.cln g rfl cur T (0, 0) hh v hv
   ·exact h2
  refine ⟨⟨by rw [each_len hE, List.length_set, h.len], .inr ⟨g, cap, (cur.toList.set k u).toArray, rfl, hB, hS, hn, hm, by simpa using hs, ?_⟩⟩, by rw [List.length_set, h.len], h.big, hE, fun g' hg' => ?_⟩
  ·rw [flat_set h.each (by rw [h.len]; exact hk), ← ht]
   simp [List.take_set]
  ·simp only [Value.ownBlock, Option.some.injEq] at hg'
   subst hg'
   exact hS.cleanB hC
theorem Pile.put {B K : Nat} {w : World} {g n cap : Nat} {X : List (List Value)} {ps : List (List Term)} (h : Pile B K w (some ⟨g, 0, none⟩) n cap X ps) {k : Nat} (hk : k < n) {ro : Option Addr} {rn rc : Nat} {r : List Term} (hr : Pw B K w ro rn rc r) (hf : fall r) (hb : ∀ g', blk ro = some g' → blkV (X.getD k []) = some g') :
  Pile B K (w.setCell ⟨g, k, none⟩ (.slice ro rn rc)) (some ⟨g, 0, none⟩) n cap (X.set k [.slice ro rn rc]) (ps.set k r) := by
 have hg := grown_put1 w g k (.slice ro rn rc)
 have hn : ∀ r, some g = some r → NoInt w r := fun r e => by cases e; exact (h.row.cln g rfl).noInt
 have hT : ∀ L, ¬ AtN w g L 53 := fun L hA => by
  rcases h.row.parts with ⟨h1, _⟩ | ⟨g', cur, h1, _, _, _, hh⟩
  ·cases h1
  ·cases h1
   unfold AtN at hA
   rw [hh] at hA
   cases hA
 refine ⟨go1_set h.row hk rfl rfl, ?_, aparts_set h.apart hb (by rw [h.len.1]; exact hk)⟩
 refine tms_set k (ples_stepG hg hn h.mem (fun r e v hv e2 => ?_)) ⟨ro, rn, rc, rfl, hr.stepG hg hn (fun r e e2 => ?_), hf⟩
 ·cases e
  obtain ⟨L, hL⟩ := at_mem h.mem v hv g e2
  exact hT L hL
 ·cases e
  obtain ⟨L, hL⟩ := hr.at1 g e2
  exact hT L hL
structure IsTop (l : List (List Term)) (f : Bool) (M : List (Int × Int)) : Prop where
 yes : f = true → mayM 0 M = true ∧ (∃ t r, (t :: r) ∈ l ∧ t.2 = M) ∧ ∀ t r, (t :: r) ∈ l → t.2 = M ∨ gtM M t.2
 no : f = false → ∀ p ∈ l, p = []
theorem IsTop.start : IsTop [] false [] := ⟨(fun h => by cases h), fun _ p hp => by cases hp⟩
theorem IsTop.nil {l : List (List Term)} {f : Bool} {M : List (Int × Int)} (h : IsTop l f M) : IsTop (l ++ [[]]) f M := by
 refine ⟨fun hf => ?_, fun hf p hp => ?_⟩
 ·obtain ⟨h1, ⟨t, r, h2, h3⟩, h4⟩ := h.yes hf
  exact ⟨h1, ⟨t, r, by simp [h2], h3⟩, fun t r hm => h4 t r (by simpa using hm)⟩
 ·rcases List.mem_append.1 hp with hp | hp
  ·exact h.no hf p hp
  ·simpa using hp
theorem IsTop.first {l : List (List Term)} {M : List (Int × Int)} {t : Term} {r : List Term} (h : IsTop l false M) (ht : mayM 0 t.2 = true) : IsTop (l ++ [t :: r]) true t.2 := by
 refine ⟨fun _ => ⟨ht, ⟨t, r, by simp, rfl⟩, fun s q hm => ?_⟩, fun hf => by cases hf⟩
 rcases List.mem_append.1 hm with hm | hm
 ·cases h.no rfl _ hm
 ·simp at hm
  rw [hm.1]
  exact .inl rfl
theorem IsTop.more {l : List (List Term)} {M : List (Int × Int)} {t : Term} {r : List Term} (h : IsTop l true M) (ht : mayM 0 t.2 = true) (hc : cmpM t.2 M > 0) : IsTop (l ++ [t :: r]) true t.2 := by
 obtain ⟨h1, h2, h4⟩ := h.yes rfl
 have hg : gtM t.2 M := by
  rcases gtM_total ht h1 with h | h | h
  ·exact h
  ·rw [h, cmp_self h1] at hc; omega
  ·have e := cmpM_is ht h1
   rcases e with ⟨e, _⟩ | ⟨v, e, _⟩ | e
   ·omega
   ·omega
   ·obtain ⟨v, e1, e2⟩ := e
    exact .inr (.inr ⟨v, rfl, e2⟩)
 refine ⟨fun _ => ⟨ht, ⟨t, r, by simp, rfl⟩, fun s q hm => ?_⟩, fun hf => by cases hf⟩
 rcases List.mem_append.1 hm with hm | hm
 ·rcases h4 s q hm with e | e
  ·rw [e]; exact .inr hg
  ·exact .inr (gtM_trans hg e)
 ·simp at hm
  rw [hm.1]
  exact .inl rfl
theorem IsTop.less {l : List (List Term)} {M : List (Int × Int)} {t : Term} {r : List Term} (h : IsTop l true M) (ht : mayM 0 t.2 = true) (hc : ¬ cmpM t.2 M > 0) : IsTop (l ++ [t :: r]) true M := by
 obtain ⟨h1, ⟨t', r', h2, h3⟩, h4⟩ := h.yes rfl
 refine ⟨fun _ => ⟨h1, ⟨t', r', by simp [h2], h3⟩, fun s q hm => ?_⟩, fun hf => by cases hf⟩
 rcases List.mem_append.1 hm with hm | hm
 ·exact h4 s q hm
 ·simp at hm
  rw [hm.1]
  rcases gtM_total ht h1 with h | h | h
  ·rw [gt_cmp ht h1 h] at hc; omega
  ·exact .inl h
  ·exact .inr h
def Pushed (B K : Nat) (w : World) (po : Option Addr) (pn : Nat) (p : List Term) (v : Value) (W : World) : Prop :=
 ∃ ro rc, v = .slice ro (pn + 1) rc ∧ Pw B K W ro (pn + 1) rc p ∧ w.grownBy W (blk po) ∧ (blk ro = blk po ∨ ∀ g', blk ro = some g' → w.heap.size ≤ g')
theorem newRow_pw {B K : Nat} {V : World} {g c' : Nat} {O vs Z : List Value} {X : List (List Value)} {p : List Term} {t : Term} (hA : AtN V g (O ++ vs ++ Z) 53) (hB : B ≤ g) (hX : Seg 3 O 0 X) (hE : Each 3 X) (hOl : O.length = X.length * 3) (hOc : Clean O) (hvc : Clean vs) (hZc : Clean Z) (hv3 : vs.length = 3) (hv1 : ∀ v ∈ vs, v.oneCell' = true)
  (hZl : Z.length = (c' - (X.length + 1)) * 3) (hc : X.length + 1 ≤ c') (hbig : c' ≤ maxLen) (hn : X.length < 1000000) (hT : Tms (TmC K V) X p) (ht : TmC K V vs t) : Pw B K V (some ⟨g, 0, none⟩) (X.length + 1) c' (p ++ [t]) := by
 refine ⟨X ++ [vs], ⟨.inr ⟨g, 0, O ++ vs ++ Z, rfl, hB, hA, clean_append (clean_append hOc hvc) hZc, ?_, hc, hbig, by omega, by simp, hE.append (Each.mk1 hv3 hv1), ?_⟩⟩, Tms.append hT ⟨ht, trivial⟩⟩
 ·simp only [List.length_append, hOl, hv3, hZl]; omega
 ·refine Seg.append ?_ ?_
  ·intro k hk j hj
   have : (k + 1) * 3 ≤ X.length * 3 := Nat.mul_le_mul_right _ hk
   rw [List.append_assoc, List.getElem?_append_left (by omega)]
   exact hX k hk j hj
  ·intro k hk j hj
   have hk0 : k = 0 := by simpa using hk
   subst hk0
   rw [List.append_assoc, List.getElem?_append_right (by omega), List.getElem?_append_left (by omega)]
   rw [show 0 + X.length * 3 + 0 * 3 + j - O.length = j by omega]
   rfl
theorem push_run {B K : Nat} {po : Option Addr} {pn pc : Nat} {p : List Term} {w : World} (h : Pw B K w po pn pc p) (hB : B ≤ w.heap.size) (hn : pn < 1000000) {m : Bool} {ao : Option Addr} {n cap : Nat} {bo : Option Addr} {l cb : Nat} {t : Term} (hC : Cn w m ao n cap t.1) (hb : Bd t.1 K) (hM : Ml w bo l cb t.2) (tt ty : TypeId) :
  ∃ v W, (Builtin.append_ #[23, 23] ty #[.slice po pn pc, .slice (some ⟨w.heap.size, 0, none⟩) 1 1]).run Tryz.prog (w.alloc (.cells #[.bool m, .slice ao n cap, .slice bo l cb] tt)) = .ok v W ∧ Pushed B K w po pn (p ++ [t]) v W := by
 obtain ⟨i0, hi, hz0, hz1, hz2⟩ := info_parts Tryz.info_term; obtain ⟨vs, hvs⟩ : ∃ vs : List Value, vs = [.bool m, .slice ao n cap, .slice bo l cb] := ⟨_, rfl⟩; obtain ⟨w1, hw1⟩ : ∃ w1, w1 = w.alloc (.cells #[.bool m, .slice ao n cap, .slice bo l cb] tt) := ⟨_, rfl⟩
 have hA1 : AtN w1 w.heap.size vs tt := by rw [hw1, hvs]; exact AtN.new w _ tt
 have hB1 : Below w.heap.size w w1 := by rw [hw1]; exact below_alloc _ _
 have hs1 : w1.heap.size = w.heap.size + 1 := by rw [hw1]; simp
 rw [← hw1]
 have hvc : Clean vs := by rw [hvs]; exact clean3 _ _ _ _ _ _ _
 have hv1 : ∀ v ∈ vs, v.oneCell' = true := by rw [hvs]; intro v hv; simp at hv; rcases hv with rfl | rfl | rfl <;> rfl
 have hv3 : vs.length = 3 := by rw [hvs]; rfl
 have ht1 : TmC K w1 vs t := ⟨m, ao, n, cap, bo, l, cb, hvs, hC.below hB1, hb, hM.below hB1⟩
 have hnews : ∀ j v, vs[j]? = some v → w1.cell? ((⟨w.heap.size, 0, none⟩ : Addr).add j) = some v := fun j v hj => by rw [Addr.add_lit, hA1.cell, Nat.zero_add, hj]
 clear hC hM hw1 hvs; obtain ⟨X, hR, hT⟩ := h; have hT1 := tmsC_below hT hB1
 have hnl : vs.length = 1 * i0.size := by rw [hz1, hv3]
 rcases hR.ex with ⟨rfl, rfl, rfl, rfl⟩ | ⟨g, off, L, rfl, hBg, hA, hCl, hroom, hnc, hbig, hn42, hX, hE, hS⟩
 ·have hr := run_append_nil (P := Tryz.prog) w1 23 ty 53 i0 _ Tryz.underlying23 hi hz0 ⟨w.heap.size, 0, none⟩ 1 1 vs hnl hnews (by omega) (by omega) (by rw [hz2]; omega)
  obtain ⟨c', hc'⟩ : ∃ c', c' = grownCap w1 1 0 53 := ⟨_, rfl⟩
  have hge : 1 ≤ c' := by rw [hc']; exact grownCap_ge _ _ _ _
  have hle : c' ≤ maxLen := by rw [hc']; exact grownCap_le_maxLen _ _ _ _ (by unfold maxLen; omega)
  rw [← hc'] at hr; obtain ⟨Z, hZ⟩ : ∃ Z, Z = (Builtin.zeroCells (Value.agg #[.bool false, .slice none 0 0, .slice none 0 0]).cells (c' - 1)).toList := ⟨_, rfl⟩
  have hZc : Clean Z := by rw [hZ]; exact notInt_zeros _
  have hZl : Z.length = (c' - 1) * 3 := by rw [hZ]; exact zeros_len _
  have hMe : vs.toArray ++ Builtin.zeroCells (Value.agg #[.bool false, .slice none 0 0, .slice none 0 0]).cells (c' - 1) = ([] ++ vs ++ Z).toArray := by
   apply Array.ext'
   rw [hZ]
   simp
  rw [hMe] at hr
  have hBV : Below w1.heap.size w1 (w1.drew.alloc (.cells ([] ++ vs ++ Z).toArray 53)) := (Below.refl _ w1).drew.alloc (Nat.le_refl _) _
  refine ⟨_, _, hr, some ⟨w1.heap.size, 0, none⟩, c', rfl, newRow_pw (O := []) (X := []) (AtN.new _ _ _) (by omega) (Seg.nil _ _ _) (fun _ h => by cases h) rfl (fun _ h => by cases h) hvc hZc hv3 hv1 hZl hge hle (by simp) (tmsC_below hT1 hBV) (ht1.below hBV), grown_below _ ((Below.steps hB1 hBV)), .inr fun g' e => by have e' : w1.heap.size = g' := Option.some.inj e; omega⟩
 ·by_cases hr : pn + 1 ≤ pc
  ·have hlt : off + (pn + 1) * 3 ≤ L.length := Nat.le_trans (Nat.add_le_add_left (Nat.mul_le_mul_right _ hr) _) hroom
   have hAw := hA.below hB1
   have hrun := run_append_in (P := Tryz.prog) w1 23 ty 53 i0 Tryz.underlying23 hi g off pn pc ⟨w.heap.size, 0, none⟩ 1 1 vs hnl hnews hv1 hr (fun j hj => by
     rw [hAw.cell, hz1, List.getElem?_eq_getElem (by omega)]; rfl) (fun j hj => hAw.fz _)
   rw [hz1] at hrun; have hG := grown_puts g vs w1 (off + pn * 3)
   have hcb := hAw.cleanB hCl
   refine ⟨_, _, hrun, some ⟨g, off, none⟩, pc, rfl, ⟨X ++ [vs], ⟨.inr ⟨g, off, putL L (off + pn * 3) vs, rfl, hBg, hAw.put vs _, clean_put _ _ _ hCl hvc, by rw [putL_length]; exact hroom, hr, hbig, by omega, by simp [hX], hE.append (Each.mk1 hv3 hv1), ?_⟩⟩, Tms.append (tmsC_stays hT1 hcb hG) ⟨ht1.staysC hcb hG, trivial⟩⟩, ?_, .inl rfl⟩
   ·refine Seg.append (hS.far (.inr (by rw [hX]; omega))) ?_
    rw [hX]
    have := Seg.here (L := L) (o := off + pn * 3) (X := [vs]) (Each.mk1 hv3 hv1) (by simp; omega)
    simpa using this
   ·exact grown_trans (grown_below _ hB1) hG
  ·obtain rfl : pn = pc := by omega
   obtain ⟨O, hO⟩ : ∃ O, O = (L.drop off).take (pn * 3) := ⟨_, rfl⟩
   have hOl : O.length = pn * 3 := by rw [hO, List.length_take, List.length_drop]; omega
   have hOg : ∀ j, j < pn * 3 → O[j]? = L[off + j]? := fun j hj => by rw [hO, List.getElem?_take, if_pos hj, List.getElem?_drop]
   have hAw := hA.below hB1
   have hr := run_append_grow (P := Tryz.prog) w1 23 ty 53 i0 _ Tryz.underlying23 hi hz0 ⟨g, off, none⟩ pn pn O (by rw [hOl, hz1]) (fun j v hj => by
     have hj2 : j < pn * 3 := by rw [← hOl]; exact (List.getElem?_eq_some_iff.1 hj).1
     rw [Addr.add_lit, hAw.cell, ← hOg j hj2, hj]) ⟨w.heap.size, 0, none⟩ 1 1 vs hnl hnews (by omega) (by omega) (by rw [hz2]; exact growslice_fits (by omega) (by omega))
   obtain ⟨c', hc'⟩ : ∃ c', c' = grownCap w1 (pn + 1) pn 53 := ⟨_, rfl⟩
   have hge : pn + 1 ≤ c' := by rw [hc']; exact grownCap_ge _ _ _ _
   have hle : c' ≤ maxLen := by rw [hc']; exact grownCap_le_maxLen _ _ _ _ (by unfold maxLen; omega)
   rw [← hc'] at hr; obtain ⟨Z, hZ⟩ : ∃ Z, Z = (Builtin.zeroCells (Value.agg #[.bool false, .slice none 0 0, .slice none 0 0]).cells (c' - (pn + 1))).toList := ⟨_, rfl⟩
   have hZc : Clean Z := by rw [hZ]; exact notInt_zeros _
   have hZl : Z.length = (c' - (pn + 1)) * 3 := by rw [hZ]; exact zeros_len _
   have hOc : Clean O := fun u hu => hCl u (List.mem_of_mem_drop (List.mem_of_mem_take (hO ▸ hu)))
   have hMe : O.toArray ++ vs.toArray ++ Builtin.zeroCells (Value.agg #[.bool false, .slice none 0 0, .slice none 0 0]).cells (c' - (pn + 1)) = (O ++ vs ++ Z).toArray := by
    apply Array.ext'
    rw [hZ]
    simp
   rw [hMe] at hr
   have hMS : Seg 3 O 0 X := fun t ht j hj => by
    have : (t + 1) * 3 ≤ pn * 3 := Nat.mul_le_mul_right _ (by omega)
    rw [Nat.zero_add, hOg _ (by omega), ← hS t ht j hj, Nat.add_assoc]
   have hBV : Below w1.heap.size w1 (w1.drew.alloc (.cells (O ++ vs ++ Z).toArray 53)) := (Below.refl _ w1).drew.alloc (Nat.le_refl _) _
   refine ⟨_, _, hr, some ⟨w1.heap.size, 0, none⟩, c', rfl, ?_, grown_below _ (Below.steps hB1 hBV), .inr fun g' e => by have e' : w1.heap.size = g' := Option.some.inj e; omega⟩
   have := newRow_pw (B := B) (p := p) (AtN.new w1.drew (O ++ vs ++ Z) 53) (by show B ≤ w1.heap.size; omega) hMS hE (by rw [hOl, hX]) hOc hvc hZc hv3 hv1 (by rw [hX]; exact hZl) (by rw [hX]; exact hge) hle (by rw [hX]; exact hn) (tmsC_below hT1 hBV) (ht1.below hBV)
   rw [hX] at this
   exact this
end Go.Proofs.YtdgpnfjohijpeaaGreat

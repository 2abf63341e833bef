/-
  A pile of empty polynomials, as make lays it; a member put anew, in its old row or in a new one.
-/
import Derived.Test.YtdgpnfjohijpeaaGreatGP6
set_option maxHeartbeats 40000000
set_option maxRecDepth 100000
namespace Go.Proofs.YtdgpnfjohijpeaaGreat
open Go.RowKit
theorem rep_flat (n : Nat) (v : Value) : (List.replicate n [v]).flatten = List.replicate n v := by
 induction n with
 | zero => rfl
 | succ n ih => rw [List.replicate_succ, List.flatten_cons, ih]; rfl
theorem rep_tms {B K : Nat} {w : World} : ∀ n : Nat, Tms (PlE B K w) (List.replicate n [.slice none 0 0]) (List.replicate n [])
 | 0 => trivial
 | n + 1 => ⟨⟨none, 0, 0, rfl, Pw.zero _ _ _, trivial⟩, rep_tms n⟩
theorem rep_apart (n : Nat) : Aparts (List.replicate n [.slice none 0 0]) := by
 unfold Aparts
 rw [List.pairwise_replicate]
 exact .inr fun g e => by cases e
theorem pile_new {B K n : Nat} {w : World} {g : Nat} (h : AtN w g (List.replicate n (.slice none 0 0)) 23) (hB : B ≤ g) (hn : n ≤ 1000000) : Pile B K w (some ⟨g, 0, none⟩) n n (List.replicate n [.slice none 0 0]) (List.replicate n []) := by
 have hc : Clean (List.replicate n (Value.slice none 0 0)) := fun u hu => by rw [List.eq_of_mem_replicate hu]; rfl
 refine ⟨⟨⟨by rw [rep_flat]; simp, .inr ⟨g, n, (List.replicate n (Value.slice none 0 0)).toArray, rfl, hB, h, Nat.le_refl _, by unfold maxLen; omega, by simp, by rw [rep_flat]; simp⟩⟩, by simp, by omega, fun vs hvs => ?_, fun g' e => ?_⟩, rep_tms n, rep_apart n⟩
 ·rw [List.eq_of_mem_replicate hvs]
  exact ⟨rfl, fun v hv => by rw [List.mem_singleton] at hv; subst hv; rfl⟩
 ·have e' : g = g' := Option.some.inj e
  subst e'
  exact h.cleanB hc
theorem aparts_new {X : List (List Value)} {b : Nat} (h : Aparts X) (hlt : ∀ vs ∈ X, ∀ g, blkV vs = some g → g < b) {v : List Value} (hv : ∀ g, blkV v = some g → b ≤ g) : ∀ {k : Nat}, k < X.length → Aparts (X.set k v) := by
 intro k hk
 unfold Aparts at *
 rw [List.pairwise_iff_getElem] at h ⊢
 intro i j hi hj hij g e1 e2
 rw [List.length_set] at hi hj; rw [List.getElem_set] at e1 e2
 by_cases h1 : k = i
 ·rw [if_pos h1] at e1
  rw [if_neg (by omega)] at e2
  have := hv g e1
  have := hlt _ (List.getElem_mem hj) g e2
  omega
 ·rw [if_neg h1] at e1
  by_cases h2 : k = j
  ·rw [if_pos h2] at e2
   have := hv g e2
   have := hlt _ (List.getElem_mem hi) g e1
   omega
  ·rw [if_neg h2] at e2
   exact h i j hi hj hij g e1 e2
theorem tms_of_get {α : Type} {R : List Value → α → Prop} (d : α) : ∀ {X : List (List Value)} {l : List α}, X.length = l.length → (∀ i, i < l.length → R (X.getD i []) (l.getD i d)) → Tms R X l
 | [], [], _, _ => trivial
 | [], _ :: _, h, _ => by simp at h
 | _ :: _, [], h, _ => by simp at h
 | x :: X, a :: l, h, hr => ⟨by simpa using hr 0 (by simp), tms_of_get d (by simpa using h) fun i hi => by simpa using hr (i + 1) (by simpa using hi)⟩
theorem Pile.pushed {B K : Nat} {w W : World} {g n cap : Nat} {X : List (List Value)} {ps : List (List Term)} (h : Pile B K w (some ⟨g, 0, none⟩) n cap X ps) {k : Nat} (hk : k < n) {po : Option Addr} {pn pc : Nat} (hx : X.getD k [] = [.slice po pn pc]) {q : List Term} {ro : Option Addr} {rn rc : Nat} (hq : Pw B K W ro rn rc q) (hf : fall q) (hG : w.grownBy W (blk po)) (hb : blk ro = blk po ∨ ∀ g', blk ro = some g' → w.heap.size ≤ g') :
  Pile B K (W.setCell ⟨g, k, none⟩ (.slice ro rn rc)) (some ⟨g, 0, none⟩) n cap (X.set k [.slice ro rn rc]) (ps.set k q) := by
 have hl := h.len
 have hxm : X.getD k [] ∈ X := getD_in [] (by rw [hl.1]; exact hk)
 have hne : ∀ r, blk po = some r → r ≠ g := fun r e e2 => by
  obtain ⟨L, hL⟩ := at_mem h.mem _ hxm r (by rw [hx]; exact e)
  rcases h.row.parts with ⟨h1, _⟩ | ⟨g', cur, h1, _, _, _, hh⟩
  ·cases h1
  ·cases h1
   subst e2
   unfold AtN at hL
   rw [hh] at hL
   cases hL
 have hrow : Go1 B 23 1 W (some ⟨g, 0, none⟩) n cap X := h.row.keep fun a ha => by
  cases ha
  rcases h.row.parts with ⟨h1, _⟩ | ⟨g', cur, h1, _, hlt, _, _⟩
  ·cases h1
  ·cases h1
   exact hG.block g hlt fun e => hne g e.symm rfl
 have hg2 := grown_put1 W g k (.slice ro rn rc)
 have hn2 : ∀ r, some g = some r → NoInt W r := fun r e => by cases e; exact (hrow.cln g rfl).noInt
 have hnp : ∀ r, blk po = some r → NoInt w r := fun r e => by
  obtain ⟨_, _, _, po', pn', pc', hv', _, h1, _⟩ := h.get hk; rw [hx] at hv'
  cases hv'
  exact h1.noInt r e
 have hgl : g < w.heap.size := by
  rcases h.row.parts with ⟨h1, _⟩ | ⟨g', cur, h1, _, hlt, _, _⟩
  ·cases h1
  ·cases h1; exact hlt
 have hgB : B ≤ g := by
  rcases h.row.parts with ⟨h1, _⟩ | ⟨g', cur, h1, hB, _, _, _⟩
  ·cases h1
  ·cases h1; exact hB
 have hrg : ∀ r, blk ro = some r → r ≠ g := fun r e e2 => by
  rcases hb with h1 | h1
  ·exact hne r (h1 ▸ e) e2
  ·have := h1 r e; omega
 refine ⟨go1_set hrow hk rfl rfl, tms_of_get [] (by simp [hl.1, hl.2]) fun i hi => ?_, ?_⟩
 ·rw [List.length_set] at hi
  by_cases e : i = k
  ·subst e
   have e1 : (X.set i [.slice ro rn rc]).getD i [] = [.slice ro rn rc] := by simp [List.getD, hl.1, hk]
   have e2 : (ps.set i q).getD i [] = q := by simp [List.getD, hi]
   rw [e1, e2]
   exact ⟨ro, rn, rc, rfl, hq.stepG hg2 hn2 (fun r e e2 => hrg r e2 (Option.some.inj e).symm), hf⟩
  ·have e1 : (X.set k [.slice ro rn rc]).getD i [] = X.getD i [] := by simp [List.getD, List.getElem?_set_ne (Ne.symm e)]
   have e2 : (ps.set k q).getD i [] = ps.getD i [] := by simp [List.getD, List.getElem?_set_ne (Ne.symm e)]
   rw [e1, e2]
   obtain ⟨g', hge, _, ao, an, ac, hv, _, h1, h2⟩ := h.get (k := i) (by omega)
   have hap : ∀ r, blk po = some r → blk ao ≠ some r := fun r e3 e4 => by
    have hA := h.apart
    unfold Aparts at hA
    rw [List.pairwise_iff_getElem] at hA
    have a1 : blkV (X.getD i []) = some r := by rw [hv]; exact e4
    have a2 : blkV (X.getD k []) = some r := by rw [hx]; exact e3
    rw [getD_of [] (by omega)] at a1 a2
    rcases Nat.lt_or_gt_of_ne e with h3 | h3
    ·exact hA i k (by omega) (by omega) h3 r a1 a2
    ·exact hA k i (by omega) (by omega) h3 r a2 a1
   have h3 := h1.stepG hG hnp hap
   refine ⟨ao, an, ac, hv, h3.stepG hg2 hn2 (fun r e3 e4 => ?_), h2⟩
   obtain ⟨L, hL⟩ := at_mem h.mem _ (getD_in [] (show i < X.length by omega)) r (by rw [hv]; exact e4)
   rcases h.row.parts with ⟨h5, _⟩ | ⟨g2, cur, h5, _, _, _, hh⟩
   ·cases h5
   ·cases h5
    cases e3
    unfold AtN at hL
    rw [hh] at hL
    cases hL
 ·rcases hb with h1 | h1
  ·exact aparts_set h.apart (fun g' e => by rw [hx]; show blk po = some g'; rw [← h1]; exact e) (by rw [hl.1]; exact hk)
  ·exact aparts_new h.apart (fun vs hvs g2 e => lt_mem h.mem vs hvs g2 e) (v := [.slice ro rn rc]) (fun g2 e => h1 g2 e) (by rw [hl.1]; exact hk)
end Go.Proofs.YtdgpnfjohijpeaaGreat

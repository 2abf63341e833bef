/- PlTk, PlWh, PlPart, PlTake, PlPush, PlDivP, PlWithF -/
import Derived.Test.YtmbgljjfmbhelaaGreatGP5
set_option maxHeartbeats 40000000
set_option maxRecDepth 100000
namespace Go.Proofs.YtmbgljjfmbhelaaGreat
open Go.RowKit
theorem flat_set {u : Value} : ∀ {X : List (List Value)} {k : Nat}, Each 1 X → k < X.length → (X.set k [u]).flatten = X.flatten.set k u
 | [], _, _, hk => by simp at hk
 | x :: X, 0, hE, _ => by
  obtain ⟨a, rfl⟩ := List.length_eq_one_iff.1 (hE x (by simp)).1
  simp
 | x :: X, k + 1, hE, hk => by
  obtain ⟨a, rfl⟩ := List.length_eq_one_iff.1 (hE x (by simp)).1
  have := flat_set (X := X) (k := k) (u := u) (fun v hv => hE v (by simp [hv])) (by simpa using hk)
  simp [this]
theorem tms_set {α : Type} {R : List Value → α → Prop} {v : List Value} {a : α} : ∀ {X : List (List Value)} {l : List α} (k : Nat), Tms R X l → R v a → Tms R (X.set k v) (l.set k a)
 | [], [], _, _, _ => trivial
 | _ :: _, _ :: _, 0, h, hr => ⟨hr, h.2⟩
 | _ :: _, _ :: _, k + 1, h, hr => ⟨h.1, tms_set k h.2 hr⟩
 | [], _ :: _, _, h, _ => h.elim
 | _ :: _, [], _, h, _ => h.elim
theorem aparts_set {v : List Value} : ∀ {X : List (List Value)} {k : Nat}, Aparts X → (∀ g, blkV v = some g → blkV (X.getD k []) = some g) → k < X.length → Aparts (X.set k v)
 | [], _, h, _, _ => h
 | x :: X, 0, h, hv, _ => by
  obtain ⟨h1, h2⟩ := List.pairwise_cons.1 h
  exact List.pairwise_cons.2 ⟨fun y hy g hg => h1 y hy g (hv g hg), h2⟩
 | x :: X, k + 1, h, hv, hk => by
  obtain ⟨h1, h2⟩ := List.pairwise_cons.1 h
  have hk' : k < X.length := by simpa using hk
  have ih := aparts_set (X := X) (k := k) h2 (by simpa [List.getD] using hv) hk'
  refine List.pairwise_cons.2 ⟨fun y hy g hg e => ?_, ih⟩
  rcases List.mem_or_eq_of_mem_set hy with hy | rfl
  ·exact h1 y hy g hg e
  ·have := hv g e
   exact h1 (X.getD k []) (getD_in [] hk') g hg (by simpa [List.getD] using this)
theorem go1_set {B : Nat} {T : TypeId} {w : World} {g n cap : Nat} {X : List (List Value)} (h : Go1 B T 1 w (some ⟨g, 0, none⟩) n cap X) {k : Nat} (hk : k < n) {u : Value} (h1 : u.oneCell' = true) (h2 : notInt u = true) : Go1 B T 1 (w.setCell ⟨g, k, none⟩ u) (some ⟨g, 0, none⟩) n cap (X.set k [u]) := by
 have hE : Each 1 (X.set k [u]) := fun vs hvs => by
  rcases List.mem_or_eq_of_mem_set hvs with hv | rfl
  ·exact h.each vs hv
  ·exact ⟨rfl, fun v hv => by simp at hv; subst hv; exact h1⟩
 rcases h.row.2 with ⟨hv, _⟩ | ⟨g', cap', cur, hv, hB, hh, hn, hm, hs, ht⟩
 ·cases hv
 ·simp only [Value.slice.injEq, Option.some.injEq, Addr.mk.injEq, and_true, true_and] at hv
  obtain ⟨rfl, rfl⟩ := hv
  have hA : AtN w g cur.toList T := by unfold AtN; simpa using hh
  have hS := hA.set k u
  have hC : Clean (cur.toList.set k u) := fun v hv => by
   rcases List.mem_or_eq_of_mem_set hv with hv | rfl
   ·exact h.cln g rfl cur T (0, 0) hh v hv
   ·exact h2
  refine ⟨⟨by rw [zz49 hE, List.length_set, h.len], .inr ⟨g, cap, (cur.toList.set k u).toArray, rfl, hB, hS, hn, hm, by simpa using hs, ?_⟩⟩, by rw [List.length_set, h.len], h.big, hE, fun g' hg' => ?_⟩
  ·rw [flat_set h.each (by rw [h.len]; exact hk), ← ht]
   simp [List.take_set]
  ·simp only [Value.ownBlock, Option.some.injEq] at hg'
   subst hg'
   exact hS.cleanB hC
theorem Pile.put {B K : Nat} {w : World} {g n cap : Nat} {X : List (List Value)} {ps : List (List Term)} (h : Pile B K w (some ⟨g, 0, none⟩) n cap X ps) {k : Nat} (hk : k < n) {ro : Option Addr} {rn rc : Nat} {r : List Term} (hr : Pw B K w ro rn rc r) (hf : fall r) (hb : ∀ g', blk ro = some g' → blkV (X.getD k []) = some g') :
  Pile B K (w.setCell ⟨g, k, none⟩ (.slice ro rn rc)) (some ⟨g, 0, none⟩) n cap (X.set k [.slice ro rn rc]) (ps.set k r) := by
 have hg := zz76 w g k (.slice ro rn rc)
 have hn : ∀ r, some g = some r → NoInt w r := fun r e => by cases e; exact (h.row.cln g rfl).noInt
 have hT : ∀ L, ¬ AtN w g L 53 := fun L hA => by
  rcases h.row.parts with ⟨h1, _⟩ | ⟨g', cur, h1, _, _, _, hh⟩
  ·cases h1
  ·cases h1
   unfold AtN at hA
   rw [hh] at hA
   cases hA
 refine ⟨go1_set h.row hk rfl rfl, ?_, aparts_set h.apart hb (by rw [h.len.1]; exact hk)⟩
 refine tms_set k (zz138 hg hn h.mem (fun r e v hv e2 => ?_)) ⟨ro, rn, rc, rfl, hr.stepG hg hn (fun r e e2 => ?_), hf⟩
 ·cases e
  obtain ⟨L, hL⟩ := at_mem h.mem v hv g e2
  exact hT L hL
 ·cases e
  obtain ⟨L, hL⟩ := hr.at1 g e2
  exact hT L hL
theorem Pw.tailE {B K : Nat} {w : World} {g off n cap : Nat} {t : Term} {r : List Term} (h : Pw B K w (some ⟨g, off, none⟩) (n + 1) cap (t :: r)) (hc : cap = 1) : Pw B K w (some ⟨g, off, none⟩) 0 0 r ∧ n = 0 := by
 have hl := h.len; obtain ⟨X, h1, h2⟩ := h
 rcases h1.ex with ⟨e, _⟩ | ⟨g', off', L, e, hB, hA, hC, h3, h4, h5, h6, h7, h8, h9⟩
 ·cases e
 ·cases e
  have hn : n = 0 := by omega
  subst hn
  simp at hl
  subst hl
  exact ⟨⟨[], ⟨.inr ⟨g, off, L, rfl, hB, hA, hC, by omega, Nat.le_refl _, by omega, by omega, rfl, (fun _ h => by cases h), Seg.nil _ _ _⟩⟩, trivial⟩, rfl⟩
theorem Pw.tailN {B K : Nat} {w : World} {g off n cap : Nat} {t : Term} {r : List Term} (h : Pw B K w (some ⟨g, off, none⟩) (n + 1) cap (t :: r)) : Pw B K w (some ⟨g, off + 3, none⟩) n (cap - 1) r := by
 obtain ⟨X, h1, h2⟩ := h
 rcases h1.ex with ⟨e, _⟩ | ⟨g', off', L, e, hB, hA, hC, h3, h4, h5, h6, h7, h8, h9⟩
 ·cases e
 ·cases e
  cases X with
  | nil => simp at h7
  | cons x X =>
   refine ⟨X, ⟨.inr ⟨g, off + 3, L, rfl, hB, hA, hC, ?_, by omega, by omega, by omega, by simpa using h7, fun v hv => h8 v (by simp [hv]), ?_⟩⟩, h2.2⟩
   ·have : cap = cap - 1 + 1 := by omega
    rw [this] at h3
    omega
   ·have := h9.drop 1
    simpa using this
theorem cmpM_zero {a b : List (Int × Int)} (ha : mayM 0 a = true) (hb : mayM 0 b = true) (h : cmpM a b = 0) : a = b := by
 have h1 := cmpM_is ha hb; rw [h] at h1
 rcases h1 with ⟨_, h2⟩ | ⟨v, h2, _⟩ | ⟨v, h2, _⟩
 ·exact zz113 ha hb h2
 ·cases h2
 ·cases h2
structure IsTop (l : List (List Term)) (f : Bool) (M : List (Int × Int)) : Prop where
 yes : f = true → mayM 0 M = true ∧ (∃ t r, (t :: r) ∈ l ∧ t.2 = M) ∧ ∀ t r, (t :: r) ∈ l → t.2 = M ∨ gtM M t.2
 no : f = false → ∀ p ∈ l, p = []
theorem IsTop.start : IsTop [] false [] := ⟨(fun h => by cases h), fun _ p hp => by cases hp⟩
theorem IsTop.nil {l : List (List Term)} {f : Bool} {M : List (Int × Int)} (h : IsTop l f M) : IsTop (l ++ [[]]) f M := by
 refine ⟨fun hf => ?_, fun hf p hp => ?_⟩
 ·obtain ⟨h1, ⟨t, r, h2, h3⟩, h4⟩ := h.yes hf
  exact ⟨h1, ⟨t, r, by simp [h2], h3⟩, fun t r hm => h4 t r (by simpa using hm)⟩
 ·rcases List.mem_append.1 hp with hp | hp
  ·exact h.no hf p hp
  ·simpa using hp
theorem IsTop.first {l : List (List Term)} {M : List (Int × Int)} {t : Term} {r : List Term} (h : IsTop l false M) (ht : mayM 0 t.2 = true) : IsTop (l ++ [t :: r]) true t.2 := by
 refine ⟨fun _ => ⟨ht, ⟨t, r, by simp, rfl⟩, fun s q hm => ?_⟩, fun hf => by cases hf⟩
 rcases List.mem_append.1 hm with hm | hm
 ·cases h.no rfl _ hm
 ·simp at hm
  rw [hm.1]
  exact .inl rfl
theorem IsTop.more {l : List (List Term)} {M : List (Int × Int)} {t : Term} {r : List Term} (h : IsTop l true M) (ht : mayM 0 t.2 = true) (hc : cmpM t.2 M > 0) : IsTop (l ++ [t :: r]) true t.2 := by
 obtain ⟨h1, h2, h4⟩ := h.yes rfl
 have hg : gtM t.2 M := by
  rcases zz82 ht h1 with h | h | h
  ·exact h
  ·rw [h, zz38 h1] at hc; omega
  ·have e := cmpM_is ht h1
   rcases e with ⟨e, _⟩ | ⟨v, e, _⟩ | e
   ·omega
   ·omega
   ·obtain ⟨v, e1, e2⟩ := e
    exact .inr (.inr ⟨v, rfl, e2⟩)
 refine ⟨fun _ => ⟨ht, ⟨t, r, by simp, rfl⟩, fun s q hm => ?_⟩, fun hf => by cases hf⟩
 rcases List.mem_append.1 hm with hm | hm
 ·rcases h4 s q hm with e | e
  ·rw [e]; exact .inr hg
  ·exact .inr (zz83 hg e)
 ·simp at hm
  rw [hm.1]
  exact .inl rfl
theorem IsTop.less {l : List (List Term)} {M : List (Int × Int)} {t : Term} {r : List Term} (h : IsTop l true M) (ht : mayM 0 t.2 = true) (hc : ¬ cmpM t.2 M > 0) : IsTop (l ++ [t :: r]) true M := by
 obtain ⟨h1, ⟨t', r', h2, h3⟩, h4⟩ := h.yes rfl
 refine ⟨fun _ => ⟨h1, ⟨t', r', by simp [h2], h3⟩, fun s q hm => ?_⟩, fun hf => by cases hf⟩
 rcases List.mem_append.1 hm with hm | hm
 ·exact h4 s q hm
 ·simp at hm
  rw [hm.1]
  rcases zz82 ht h1 with h | h | h
  ·rw [gt_cmp ht h1 h] at hc; omega
  ·exact .inl h
  ·exact .inr h
def dropM (M : List (Int × Int)) : List Term → List Term
 | [] => []
 | t :: r => if t.2 = M then r else t :: r
def headC (M : List (Int × Int)) : List Term → Int
 | [] => 0
 | t :: _ => if t.2 = M then t.1 else 0
def sumM (M : List (Int × Int)) : List (List Term) → Int
 | [] => 0
 | p :: l => headC M p + sumM M l
theorem zz179 (M : List (Int × Int)) : ∀ a b : List (List Term), sumM M (a ++ b) = sumM M a + sumM M b
 | [], b => by simp [sumM]
 | p :: a, b => by simp only [List.cons_append, sumM]; rw [zz179 M a b]; omega
theorem drop_ev (M : List (Int × Int)) (ρ : Nat → Int) (p : List Term) : ev p ρ = headC M p * evM M ρ + ev (dropM M p) ρ := by
 cases p with
 | nil => simp [headC, dropM, ev]
 | cons t r =>
  simp only [headC, dropM]
  split
  ·next h => simp only [ev]; rw [h]
  ·simp [ev]
theorem drops_ev (M : List (Int × Int)) (ρ : Nat → Int) : ∀ l : List (List Term), evs l ρ = sumM M l * evM M ρ + evs (l.map (dropM M)) ρ
 | [] => by simp [evs, sumM]
 | p :: l => by
  simp only [List.map_cons, evs, sumM]
  rw [drop_ev M ρ p, drops_ev M ρ l]
  grind
theorem dropM_below {l : List (List Term)} {M : List (Int × Int)} (h : IsTop l true M) {p : List Term} (hp : p ∈ l) (hf : fall p) : ∀ s ∈ dropM M p, gtM M s.2 := by
 obtain ⟨h1, _, h4⟩ := h.yes rfl
 cases p with
 | nil => intro s hs; cases hs
 | cons t r =>
  simp only [dropM]
  split
  ·next e => intro s hs; rw [← e]; exact hf.2.2.1 s hs
  ·next e =>
   have hg : gtM M t.2 := (h4 t r hp).resolve_left e
   intro s hs
   rcases List.mem_cons.1 hs with rfl | hs
   ·exact hg
   ·exact zz83 hg (hf.2.2.1 s hs)
theorem dropM_len (M : List (Int × Int)) (p : List Term) : (dropM M p).length ≤ p.length := by
 cases p with
 | nil => exact Nat.le_refl _
 | cons t r => simp only [dropM]; split <;> simp
theorem drops_len (M : List (Int × Int)) : ∀ l : List (List Term), lens (l.map (dropM M)) ≤ lens l
 | [] => Nat.le_refl _
 | p :: l => by
  have h1 := dropM_len M p; have h2 := drops_len M l
  simp only [List.map_cons, lens]
  omega
theorem drops_less {M : List (Int × Int)} : ∀ {l : List (List Term)}, (∃ t r, (t :: r) ∈ l ∧ t.2 = M) → lens (l.map (dropM M)) < lens l
 | [], ⟨_, _, h, _⟩ => by cases h
 | p :: l, ⟨t, r, h, e⟩ => by
  simp only [List.map_cons, lens]
  rcases List.mem_cons.1 h with rfl | h
  ·have h2 := drops_len M l
   simp only [dropM, if_pos e, List.length_cons]
   omega
  ·have h1 := dropM_len M p
   have h2 := drops_less ⟨t, r, h, e⟩
   omega
def tkL (M : List (Int × Int)) (ps : List (List Term)) (k : Nat) : List (List Term) := (ps.take k).map (dropM M) ++ ps.drop k
theorem tkL_zero (M : List (Int × Int)) (ps : List (List Term)) : tkL M ps 0 = ps := by simp [tkL]
theorem tkL_all (M : List (Int × Int)) (ps : List (List Term)) (n : Nat) (h : ps.length = n) : tkL M ps n = ps.map (dropM M) := by
 subst h
 simp [tkL]
theorem tkL_len (M : List (Int × Int)) (ps : List (List Term)) (k : Nat) : (tkL M ps k).length = ps.length := by
 simp only [tkL, List.length_append, List.length_map, List.length_take, List.length_drop]
 omega
theorem tkL_get (M : List (Int × Int)) {ps : List (List Term)} {k : Nat} (hk : k < ps.length) : (tkL M ps k).getD k [] = ps.getD k [] := by
 unfold tkL
 have hl : ((ps.take k).map (dropM M)).length = k := by rw [List.length_map, List.length_take]; omega
 simp only [List.getD]
 rw [List.getElem?_append_right (by omega), hl, Nat.sub_self, List.getElem?_drop, Nat.add_zero]
theorem tkL_next (M : List (Int × Int)) {ps : List (List Term)} {k : Nat} (hk : k < ps.length) : tkL M ps (k + 1) = (tkL M ps k).set k (dropM M (ps.getD k [])) := by
 unfold tkL
 have hl : ((ps.take k).map (dropM M)).length = k := by rw [List.length_map, List.length_take]; omega
 rw [List.take_succ_eq_append_getElem hk, List.map_append, List.set_append_right _ _ (by omega), hl, Nat.sub_self, List.drop_eq_getElem_cons hk, getD_of [] hk]
 simp only [List.map_cons, List.map_nil, List.append_assoc, List.singleton_append, List.set_cons_zero]
theorem set_self {α : Type} : ∀ (l : List α) (k : Nat) (d : α), k < l.length → l.set k (l.getD k d) = l
 | [], _, _, h => by simp at h
 | _ :: _, 0, _, _ => rfl
 | _ :: l, k + 1, d, h => by
  have := set_self l k d (by simpa using h)
  simp only [List.set_cons_succ]
  simpa [List.getD] using this
open Lib (hid)
theorem wholeFn_any {m k : Bool} {ao bo : Option Addr} {n cap l cb : Nat} {po : Option Addr} {pn pc : Nat} {x y : Int} {ps : List (Int × Int)} {K q : Nat} {w : World} (hx : Nx w m ao n cap x) (hm : Ml w po pn pc ps) (hq : AtN w q [.bool k, .slice bo l cb] 43) (hy : Nx w k bo l cb y) (h0 : y ≠ 0) (hr : x.tmod y = 0) (hd : Bd (x.tdiv y) K) :
  Calls Tryz.prog 105 #[.agg #[.bool m, .slice ao n cap, .slice po pn pc], .pointer (some ⟨q, 0, none⟩)] w (NewT K w (x.tdiv y, ps)) := by
 have hqw := hq.lt
 go_enter Tryz.func105, Tryz.ntmps105
 go_upto_region 1 with (fail)
 refine zz232 (fun W hW => ?_)
 obtain ⟨a1, a2, hB⟩ := box2 w [.bool m, .slice ao n cap, .slice po pn pc] [.bool false, .slice none 0 0, .slice none 0 0] 53 53; rw [← hW] at a1 a2 hB; clear hW; have A := hid a1; have R := hid a2; have HB := hid hB; have D := hid (hq.below hB); have HX := hid hx; have HY := hid hy; have HM := hid hm; have HE := hid (wexact_any (hx.below hB) (hy.below hB) h0 hr); clear a1 a2 hB hq hx hy hm; obtain ⟨c0, c1, c2⟩ := A.out.c3; obtain ⟨e0, e1⟩ := D.out.c2; go_wp2_with fail
 refine HE.out.mono ?_
 rintro e w1 ⟨xm, xa, xn, xc, rfl, hC, hB⟩; have A1 := hid (A.out.below hB); have R1 := hid (R.out.below hB); have HB1 := hid (Below.steps HB.out hB); have C1 := hid hC; clear hC hB A R D HB HE c0 c1 c2 e0 e1
 go_upto_region 2 with (fail)
 refine zz232 (fun W2 hW => ?_)
 obtain ⟨g, hg⟩ : ∃ g, g = w1.heap.size := ⟨_, rfl⟩
 have G2 : Hid (AtN W2 g [.bool xm, .slice xa xn xc] 43) := by rw [hW, hg]; exact AtN.new w1 [.bool xm, .slice xa xn xc] 43
 have hB2 : Below w1.heap.size w1 W2 := by rw [hW]; exact zz13 _ _
 have A2 := hid (A1.out.below hB2); have R2 := hid (R1.out.below hB2); have HB2 := hid (Below.steps HB1.out hB2); have C2 := hid (C1.out.below hB2)
 have hgw : w.heap.size + 1 < g := by rw [hg]; exact R1.out.lt
 rw [← hg]; clear hW hg hB2 A1 R1 HB1 C1
 refine wp_region_held_drew (S := fun w' => (w'.cell? ⟨w.heap.size, 0, none⟩ = some (.bool m) ∧ w'.cell? ⟨w.heap.size, 1, none⟩ = some (.slice ao n cap) ∧ w'.cell? ⟨w.heap.size, 2, none⟩ = some (.slice po pn pc)) ∧ w'.cell? ⟨g, 0, none⟩ = some (.bool xm) ∧ w'.cell? ⟨g, 1, none⟩ = some (.slice xa xn xc)) (by kernel_rfl) ⟨A2.out.c3, G2.out.c2⟩ (fun hH => ?_)
 refine zz9 (fun w3 hW => ?_)
 have dr := (Below.refl W2.heap.size W2).drew
 have HB3 : Hid (Below w.heap.size w w3) := by rw [hW]; exact HB2.out.drew
 have A3 : Hid (AtN w3 w.heap.size [.bool m, .slice ao n cap, .slice po pn pc] 53) := by rw [hW]; exact A2.out.below dr
 have R3 : Hid (AtN w3 (w.heap.size + 1) [.bool false, .slice none 0 0, .slice none 0 0] 53) := by rw [hW]; exact R2.out.below dr
 have G3 : Hid (AtN w3 g [.bool xm, .slice xa xn xc] 43) := by rw [hW]; exact G2.out.below dr
 have C3 : Hid (Cn w3 xm xa xn xc (x.tdiv y)) := by rw [hW]; exact C2.out.below dr
 rw [← hW] at hH; clear HB2 A2 R2 G2 C2 dr
 clear hW
 refine son 0 hH ?_; try simp only [nrm]
 refine son 1 hH ?_; try simp only [nrm]
 refine son 2 hH ?_; try simp only [nrm]
 refine zz176 3 rfl (by kernel_rfl) (fun KK hK => ?_)
 go_simp; refine (clone_any (HM.out.below HB3.out)).mono ?_
 rintro e w4 ⟨ma, mn, mc, rfl, hM, hB⟩; have A4 := hid (A3.out.below hB); have R4 := hid (R3.out.below hB); have G4 := hid (G3.out.below hB); have C4 := hid (C3.out.below hB); have HB4 := hid (Below.steps HB3.out hB); have M4 := hid hM.ml; clear hB hM A3 R3 G3 C3 HB3; go_wp2_with fail
 clear hH; refine hK.out _ _ ⟨A4.out.c3, G4.out.c2⟩ fun hH => ?_; clear hK KK
 try simp only [nrm]
 refine son 4 hH ?_; try simp only [nrm]
 obtain ⟨d0, d1, d2⟩ := R4.out.c3; obtain ⟨f0, f1, f2⟩ := R4.out.f3
 refine zz176 5 rfl (by kernel_rfl) (fun KK hK => ?_)
 go_simp; clear d0 d1 d2 f0 f1 f2
 clear hH; refine hK.out _ _ ⟨AtN.c3 (T := 53) (A4.out.keep (zz149 (Nat.ne_of_lt (Nat.lt_succ_self _)) _ _ _)), AtN.c2 (T := 43) (G4.out.keep (zz149 (Nat.ne_of_gt hgw) _ _ _))⟩ fun hH => ?_; clear hK KK
 try simp only [nrm]
 refine wpAnyH_done (by kernel_rfl) ?_ _
 go_wp2_with fail
 refine zz141 (Q := bodyPost _ _ _ _ _) (fun W hW => ?_)
 have R : AtN W (w.heap.size + 1) [.bool xm, .slice xa xn xc, .slice ma mn mc] 53 := by rw [hW]; exact ((R4.out.set 0 _).set 1 _).set 2 _
 have HC : Cn W xm xa xn xc (x.tdiv y) := by rw [hW]; exact C4.out.staysC (R4.out.cleanB (clean3 _ _ _ _ _ _ _)) (zz78 _ _ 0 _ _ _)
 have HM : Ml W ma mn mc ps := by rw [hW]; exact M4.out.staysC (R4.out.cleanB (clean3 _ _ _ _ _ _ _)) (zz78 _ _ 0 _ _ _)
 have HBW : Below w.heap.size w W := by rw [hW]; exact HB4.out.trans (zz14 (zz78 _ _ 0 _ _ _) (by omega) HB4.out.size)
 clear hW; obtain ⟨d0, d1, d2⟩ := R.c3
 refine bodyPost_ret (v := .agg #[.bool xm, .slice xa xn xc, .slice ma mn mc]) (by simp [results, Tryz.results105, go_sem, d0, d1, d2]) rfl ?_
 exact ⟨_, _, _, _, _, _, _, rfl, ⟨HC, hd, HM⟩, HBW⟩
def divZ (p : List Term) (y : Int) : List Term := p.map fun s => (s.1.tdiv y, s.2)
theorem divZ_len (p : List Term) (y : Int) : (divZ p y).length = p.length := by simp [divZ]
theorem divZ_get {p : List Term} (y : Int) {k : Nat} (hk : k < p.length) : (divZ p y).getD k (0, []) = ((p.getD k (0, [])).1.tdiv y, (p.getD k (0, [])).2) := by
 rw [getD_of _ (by rw [divZ_len]; exact hk), getD_of _ hk]
 simp [divZ]
theorem wholeEach_any {K : Nat} {ao : Option Addr} {n cap : Nat} {p : List Term} {w : World} {k : Bool} {bo : Option Addr} {l cb q : Nat} {y : Int} (h : Pc K w ao n cap p) (hn : n ≤ 1000000) (hK : K ≤ 1000000) (hq : AtN w q [.bool k, .slice bo l cb] 43) (hy : Nx w k bo l cb y) (hr : ∀ s ∈ p, y ≠ 0 ∧ s.1.tmod y = 0) :
  Calls Tryz.prog 104 #[.slice ao n cap, .func (.func 105) #[] #[.pointer (some ⟨q, 0, none⟩)]] w (NewPw K w (divZ p y)) := by
 have hl := h.len
 have eg : ∀ args w, (callFunc 105 args).run Tryz.prog w = .ok (.enter 105 args) w := enters_of Tryz.func105 (by kernel_rfl) rfl
 obtain ⟨vss, hG, hE⟩ := h.gl3
 exact zz47 eg (lb := #[.pointer (some ⟨q, 0, none⟩)]) (K := K) (ts := divZ p y) hG hn (by rw [divZ_len, hl]) (fun i hi => by obtain ⟨xm, xa, xn, xc, xp, xq, xr, hv, _⟩ := hE i hi; exact ⟨xm, xa, xn, xc, xp, xq, xr, hv⟩) (fun i hi W hW => by
  obtain ⟨xm, xa, xn, xc, xp, xq, xr, hv, h1, h2, h3⟩ := hE i hi
  have hip : i < p.length := by omega
  have hx : Nx W xm xa xn xc (p.getD i (0, [])).1 := ⟨(h1.below hW).inn, by have := h1.le h2; omega⟩
  have hm := h3.below hW; obtain ⟨r1, r2⟩ := hr _ (getD_in (0, []) hip); rw [hv, divZ_get y hip]
  exact wholeFn_any hx hm (hq.below hW) (hy.below hW) r1 r2 h2.tdiv)
section
variable {K : Nat} {ao : Option Addr} {n cap : Nat} {p : List Term} {ps : List Raw} {w : World}
theorem zz40 : ∀ {p : List Term} (c : Nat), ((p.foldl (fun c t => Nat.gcd c t.1.natAbs) c : Nat) ∣ c) ∧ ∀ s ∈ p, (p.foldl (fun c t => Nat.gcd c t.1.natAbs) c : Nat) ∣ s.1.natAbs
 | [], c => ⟨Nat.dvd_refl _, fun s h => by cases h⟩
 | t :: r, c => by
  have ih := zz40 (p := r) (Nat.gcd c t.1.natAbs); rw [List.foldl_cons]
  refine ⟨Nat.dvd_trans ih.1 (Nat.gcd_dvd_left _ _), fun s hs => ?_⟩
  rcases List.mem_cons.1 hs with rfl | hs
  ·exact Nat.dvd_trans ih.1 (Nat.gcd_dvd_right _ _)
  ·exact ih.2 s hs
theorem contT_bd {p : List Term} {t : Term} {K : Nat} (hf : fall p) (ht : t ∈ p) (hb : Bd t.1 K) : Bd (contT p) K := by
 have h := (zz40 (p := p) 0).2 t ht; have h0 := fall_nz hf t ht; have h1 := Nat.le_of_dvd (Int.natAbs_pos.2 h0) h
 unfold Bd contT at *
 rw [Int.natAbs_natCast]
 exact Nat.lt_of_le_of_lt h1 hb
theorem Bd.neg' {x : Int} {K : Nat} (h : Bd x K) : Bd (-x) K := by unfold Bd at *; rw [Int.natAbs_neg]; exact h
def byT (p : List Term) : Int := if (p.headD (0, [])).1 < 0 then -contT p else contT p
theorem byT_ok {p : List Term} (hf : fall p) : ∀ s ∈ p, byT p ≠ 0 ∧ s.1.tmod (byT p) = 0 := by
 intro s hs
 have h1 : contT p ∣ s.1 := by
  have h := (zz40 (p := p) 0).2 s hs
  unfold contT
  exact Int.ofNat_dvd_left.2 h
 have h2 : contT p ≠ 0 := fun e => by
  rw [e] at h1
  exact fall_nz hf s hs (Int.zero_dvd.1 h1)
 unfold byT
 split
 ·exact ⟨by omega, Int.tmod_eq_zero_of_dvd (Int.neg_dvd.2 h1)⟩
 ·exact ⟨h2, Int.tmod_eq_zero_of_dvd h1⟩
theorem pwhole_any (hp : Pc K w ao n cap p) (hf : fall p) (hK : 2 ≤ K ∧ K ≤ 1000) (hn : n ≤ 1000000) (h0 : 0 < n) :
  Calls Tryz.prog 39 #[.slice ao n cap] w (PE K w (divZ p (byT p)) 0) := by
 have HP := hid hp; have HF := hid hf
 have hp0 : 0 < p.length := by rw [hp.len]; exact h0
 obtain ⟨b, off, xm, xa, xn, xc, xp, xq, xr, hbo, hbl, hc, hCn, hBd, hMl⟩ := hp.at (k := 0) h0; subst hbo; obtain ⟨t, ht⟩ : ∃ t, t = p.getD 0 (0, []) := ⟨_, rfl⟩; rw [← ht] at hCn hBd
 have hby : byT p = if t.1 < 0 then -contT p else contT p := by
  unfold byT
  rw [ht]
  cases p with
  | nil => simp at hp0
  | cons x r => rfl
 obtain ⟨s, hs⟩ : ∃ s, t.1.sign = s := ⟨_, rfl⟩; obtain ⟨C, hC⟩ : ∃ C, decide (s < 0) = C := ⟨_, rfl⟩
 have hby2 : byT p = if C = true then -contT p else contT p := by
  rw [hby, ← hC, ← hs]
  simp only [decide_eq_true_eq, Int.sign_neg_iff]
 have HT := hid (And.intro hCn (And.intro hBd hs)); have HY := hid hby2; have HC := hid hc
 have hd : decide ((0 : Int) < (n : Int)) = true := decide_eq_true (by omega)
 have HBD := hid (contT_bd hf (by rw [ht]; exact getD_in _ hp0) hBd)
 clear hp hf hbl hc hCn hBd hMl hby hby2 hs ht hp0
 go_enter Tryz.func39, Tryz.ntmps39
 go_wp2_with fail; refine (zz108 HP.out HF.out hK.2).mono ?_
 rintro e w1 ⟨rfl, hB⟩; have HB1 := hid hB; have HP1 := hid (HP.out.below hB); clear hB; go_wp2_with fail; refine (pcont_any HP1.out HF.out hK hn).mono ?_; rintro e w2 ⟨cm, ca, cn, cc, rfl, hX, hB⟩; have HB2 := hid (Below.steps HB1.out hB); have HX2 := hid hX; clear hX hB HB1 HP1
 go_upto_region 4 with (fail)
 refine zz232 (fun W hW => ?_)
 obtain ⟨g, hg⟩ : ∃ g, g = w2.heap.size := ⟨_, rfl⟩; obtain ⟨a1, hB⟩ := box1 w2 [.bool cm, .slice ca cn cc] 43; rw [← hW, ← hg] at a1; rw [← hW] at hB; rw [← hg]
 have hgw : w.heap.size ≤ g := by rw [hg]; exact HB2.out.size
 have HI : Hid (AtN W g [.bool cm, .slice ca cn cc] 43 ∧ Below w.heap.size w W ∧ Cn W cm ca cn cc (contT p)) := ⟨a1, Below.steps HB2.out hB, HX2.out.below hB⟩
 clear hW a1 hB HB2 HX2 hg; obtain ⟨c0, c1, c2⟩ := HC.out W HI.out.2.1; rw [Nat.zero_mul, Nat.add_zero] at c0 c1 c2; go_wp2_with fail
 refine (zz234 s ((HT.out.1.below HI.out.2.1).cx HT.out.2.1 (by omega)).nx HT.out.2.2).mono ?_
 rintro e w3 ⟨rfl, hB⟩
 have HI3 : Hid (AtN w3 g [.bool cm, .slice ca cn cc] 43 ∧ Below w.heap.size w w3 ∧ Cn w3 cm ca cn cc (contT p) ∧ Bd (contT p) K) := ⟨HI.out.1.below hB, Below.steps HI.out.2.1 hB, HI.out.2.2.below hB, HBD.out⟩
 clear hB HI c0 c1 c2; obtain ⟨d0, d1⟩ := HI3.out.1.c2
 cases C with
 | true =>
  go_wp2_with fail
  refine (zz220 (HI3.out.2.2.1.cx HI3.out.2.2.2 (by omega)).nx).mono ?_
  rintro e w4 ⟨nm, na, nn, nc, rfl, hX, hB⟩
  have HI4 : Hid (AtN w4 g [.bool cm, .slice ca cn cc] 43 ∧ Below w.heap.size w w4 ∧ Cn w4 nm na nn nc (-contT p)) := ⟨HI3.out.1.below hB, Below.steps HI3.out.2.1 hB, hX⟩
  clear hX hB HI3 d0 d1; have f0 := HI4.out.1.fz 0; have f1 := HI4.out.1.fz 1; obtain ⟨d0, d1⟩ := HI4.out.1.c2
  go_upto_region 6 with (fail)
  clear f0 f1 d0 d1
  refine zz232 (fun V hV => ?_)
  have HI5 : Hid (AtN V g [.bool nm, .slice na nn nc] 43 ∧ Below w.heap.size w V ∧ Cn V nm na nn nc (-contT p)) := by
   rw [hV]
   exact ⟨(HI4.out.1.set 0 (.bool nm)).set 1 (.slice na nn nc), (HI4.out.2.1.setCell (p := ⟨g, 0, none⟩) hgw (.bool nm)).setCell (p := ⟨g, 1, none⟩) hgw (.slice na nn nc), HI4.out.2.2.far HI4.out.1 (clean2 _ _ _ _) (zz77 _ _ _ _ _)⟩
  clear hV HI4
  have hy : byT p = -contT p := by rw [HY.out]; simp
  have HW := hid (wholeEach_any (HP.out.below HI5.out.2.1) hn (by omega) HI5.out.1 (HI5.out.2.2.cx (HBD.out.neg') (by omega)).nx (y := -contT p) (by rw [← hy]; exact byT_ok HF.out))
  have HYY := hid hy; clear hy; go_wp2_with fail
  refine HW.out.mono ?_
  rintro e w6 ⟨ro, rn, rc, rfl, h1, hB⟩; rw [← HYY.out] at h1
  have HR : Hid (PE K w (divZ p (byT p)) 0 (.returned (.tuple #[.slice ro rn rc, .int .i64 0])) w6) := ⟨ro, rn, rc, rfl, h1.pc, Below.steps HI5.out.2.1 hB⟩
  clear h1 hB HW HYY HI5; go_wp2_with fail
  go_ret2
  exact HR.out
 | false =>
  have hy : byT p = contT p := by rw [HY.out]; simp
  have HW := hid (wholeEach_any (HP.out.below HI3.out.2.1) hn (by omega) HI3.out.1 (HI3.out.2.2.1.cx HBD.out (by omega)).nx (y := contT p) (by rw [← hy]; exact byT_ok HF.out))
  have HYY := hid hy; clear hy; go_wp2_with fail
  refine HW.out.mono ?_
  rintro e w6 ⟨ro, rn, rc, rfl, h1, hB⟩; rw [← HYY.out] at h1
  have HR : Hid (PE K w (divZ p (byT p)) 0 (.returned (.tuple #[.slice ro rn rc, .int .i64 0])) w6) := ⟨ro, rn, rc, rfl, h1.pc, Below.steps HI3.out.2.1 hB⟩
  clear h1 hB HW HYY HI3; go_wp2_with fail
  go_ret2
  exact HR.out
end
open Lib (hid)
def exactT (x y : Int) : Int × Int := if x.tmod y = 0 then (x.tdiv y, 0) else (0, 2)
theorem wexact_is {m k : Bool} {ao bo : Option Addr} {n cap l cb : Nat} {x y : Int} {w : World} (c er : Int) (hx : Nx w m ao n cap x) (hy : Nx w k bo l cb y) (h : y ≠ 0 ∧ exactT x y = (c, er)) :
  Calls Tryz.prog 106 #[.agg #[.bool m, .slice ao n cap], .agg #[.bool k, .slice bo l cb]] w (NewIE w c er) := by
 obtain ⟨h0, h1⟩ := h
 unfold exactT at h1
 by_cases hr : x.tmod y = 0
 ·rw [if_pos hr] at h1
  cases h1
  exact wexact_any hx hy h0 hr
 ·rw [if_neg hr] at h1
  cases h1
  refine (wexact_rest hx hy h0 hr).mono ?_; rintro e V ⟨rfl, hB⟩
  exact ⟨_, _, _, _, rfl, ⟨rfl, Sl.none _⟩, hB⟩
def PartOk (w : World) (c : Int) (ms : List (Int × Int)) (r : Bool) (e : Ending) (V : World) : Prop := ∃ cm ca cn cc ma mn mc, e = .returned (.tuple #[.agg #[.bool cm, .slice ca cn cc, .slice ma mn mc], .bool r]) ∧ Cn V cm ca cn cc c ∧ Ml V ma mn mc ms ∧ Below w.heap.size w V
theorem part_any {m k : Bool} {ao bo po qo ro : Option Addr} {n cap l cb pn pc qn qc rn rc : Nat} {x y c er fo go : Int} {ps qs room ms rs : List (Int × Int)} {E F G : Bool} {w : World} (hx : Nx w m ao n cap x ∧ Ml w po pn pc ps) (hy : Nx w k bo l cb y ∧ Ml w qo qn qc qs) (hr : Ml w ro rn rc room) (hex : y ≠ 0 ∧ exactT x y = (c, er)) (hov : joinR (fun x y => x - y) 5 ps qs = (ms, fo)) (hpt : joinR (fun x y => x - y) 5 room ms = (rs, go)) (hE : (er == 0) = E) (hF : (fo == 0) = F) (hG : (go == 0) = G) :
  Calls Tryz.prog 158 #[.agg #[.bool m, .slice ao n cap, .slice po pn pc], .agg #[.bool k, .slice bo l cb, .slice qo qn qc], .slice ro rn rc] w (PartOk w c ms (E && F && G)) := by
 have HX := hid hx; have HY := hid hy; have HR := hid hr; have HEX := hid hex; have HO := hid hov; have HP := hid hpt; clear hx hy hr hex hov hpt
 go_enter Tryz.func158, Tryz.ntmps158
 go_upto_region 1 with (fail)
 refine zz232 (fun W hW => ?_)
 obtain ⟨a1, a2, a3, hB⟩ := box3 w [.bool m, .slice ao n cap, .slice po pn pc] [.bool k, .slice bo l cb, .slice qo qn qc] [.bool false, .slice none 0 0, .slice none 0 0] 53 53 53; rw [← hW] at a1 a2 a3 hB; clear hW; have A := hid a1; have B := hid a2; have R := hid a3; have HB := hid hB; clear a1 a2 a3 hB; obtain ⟨c0, c1, c2⟩ := A.out.c3; obtain ⟨e0, e1, e2⟩ := B.out.c3; have HE := hid (wexact_is c er (HX.out.1.below HB.out) (HY.out.1.below HB.out) HEX.out); go_wp2_with fail
 refine HE.out.mono ?_
 rintro e w1 ⟨cm, ca, cn, cc, rfl, hC, hB⟩; have A1 := hid (A.out.below hB); have B1 := hid (B.out.below hB); have R1 := hid (R.out.below hB); have HB1 := hid (Below.steps HB.out hB); have C1 := hid hC; clear hC hB A B R HB HE c0 c1 c2 e0 e1 e2
 go_upto_region 2 with (fail)
 refine zz232 (fun W2 hW => ?_)
 obtain ⟨g, hg⟩ : ∃ g, g = w1.heap.size := ⟨_, rfl⟩
 have G2 : Hid (AtN W2 g [.bool cm, .slice ca cn cc] 43) := by rw [hW, hg]; exact AtN.new w1 [.bool cm, .slice ca cn cc] 43
 have hB2 : Below w1.heap.size w1 W2 := by rw [hW]; exact zz13 _ _
 have A2 := hid (A1.out.below hB2); have B2 := hid (B1.out.below hB2); have R2 := hid (R1.out.below hB2); have HB2 := hid (Below.steps HB1.out hB2); have C2 := hid (C1.out.below hB2); rw [← hg]; clear hW hg hB2 A1 B1 R1 HB1 C1; obtain ⟨c0, c1, c2⟩ := A2.out.c3; obtain ⟨e0, e1, e2⟩ := B2.out.c3; go_wp2_with fail; refine (over_is ms fo (HX.out.2.below HB2.out) (HY.out.2.below HB2.out) HO.out).mono ?_; rintro e w3 ⟨ma, mn, mc, rfl, hM, hB⟩; have R3 := hid (R2.out.below hB); have G3 := hid (G2.out.below hB)
 have H3 : Hid (Cn w3 cm ca cn cc c ∧ Ml w3 ma mn mc ms ∧ Below w.heap.size w w3) := ⟨C2.out.below hB, hM, Below.steps HB2.out hB⟩
 clear hM hB A2 B2 R2 G2 C2 HB2 c0 c1 c2 e0 e1 e2; go_wp2_with fail; refine (over_is rs go (HR.out.below H3.out.2.2) H3.out.2.1 HP.out).mono ?_; rintro e w4 ⟨za, zn, zc, rfl, hM, hB⟩; have R4 := hid (R3.out.below hB); have G4 := hid (G3.out.below hB)
 have H4 : Hid (Cn w4 cm ca cn cc c ∧ Ml w4 ma mn mc ms ∧ Below w.heap.size w w4) := ⟨H3.out.1.below hB, H3.out.2.1.below hB, Below.steps H3.out.2.2 hB⟩
 clear hM hB R3 G3 H3; obtain ⟨d0, d1, d2⟩ := R4.out.c3; obtain ⟨f0, f1, f2⟩ := R4.out.f3; obtain ⟨g0, g1⟩ := G4.out.c2
 cases E with
 | false =>
  go_wp2_with fail; clear d0 d1 d2 f0 f1 f2 g0 g1
  refine zz141 (Q := bodyPost _ _ _ _ _) (fun W hW => ?_)
  have R : AtN W (w.heap.size + 1 + 1) [.bool cm, .slice ca cn cc, .slice ma mn mc] 53 := by rw [hW]; exact ((R4.out.set 0 _).set 1 _).set 2 _
  have HC : Cn W cm ca cn cc c := by rw [hW]; exact H4.out.1.staysC (R4.out.cleanB (clean3 _ _ _ _ _ _ _)) (zz78 _ _ 0 _ _ _)
  have HM : Ml W ma mn mc ms := by rw [hW]; exact H4.out.2.1.staysC (R4.out.cleanB (clean3 _ _ _ _ _ _ _)) (zz78 _ _ 0 _ _ _)
  have HBW : Below w.heap.size w W := by rw [hW]; exact H4.out.2.2.trans (zz14 (zz78 _ _ 0 _ _ _) (by omega) H4.out.2.2.size)
  clear hW; obtain ⟨d0, d1, d2⟩ := R.c3
  refine bodyPost_ret (v := .tuple #[.agg #[.bool cm, .slice ca cn cc, .slice ma mn mc], .bool false]) (by simp [results, Tryz.results158, go_sem, d0, d1, d2]) rfl ?_
  exact ⟨_, _, _, _, _, _, _, rfl, HC, HM, HBW⟩
 | true =>
  cases F with
  | false =>
   go_wp2_with fail; clear d0 d1 d2 f0 f1 f2 g0 g1
   refine zz141 (Q := bodyPost _ _ _ _ _) (fun W hW => ?_)
   have R : AtN W (w.heap.size + 1 + 1) [.bool cm, .slice ca cn cc, .slice ma mn mc] 53 := by rw [hW]; exact ((R4.out.set 0 _).set 1 _).set 2 _
   have HC : Cn W cm ca cn cc c := by rw [hW]; exact H4.out.1.staysC (R4.out.cleanB (clean3 _ _ _ _ _ _ _)) (zz78 _ _ 0 _ _ _)
   have HM : Ml W ma mn mc ms := by rw [hW]; exact H4.out.2.1.staysC (R4.out.cleanB (clean3 _ _ _ _ _ _ _)) (zz78 _ _ 0 _ _ _)
   have HBW : Below w.heap.size w W := by rw [hW]; exact H4.out.2.2.trans (zz14 (zz78 _ _ 0 _ _ _) (by omega) H4.out.2.2.size)
   clear hW; obtain ⟨d0, d1, d2⟩ := R.c3
   refine bodyPost_ret (v := .tuple #[.agg #[.bool cm, .slice ca cn cc, .slice ma mn mc], .bool false]) (by simp [results, Tryz.results158, go_sem, d0, d1, d2]) rfl ?_
   exact ⟨_, _, _, _, _, _, _, rfl, HC, HM, HBW⟩
  | true =>
   go_wp2_with fail; clear d0 d1 d2 f0 f1 f2 g0 g1
   refine zz141 (Q := bodyPost _ _ _ _ _) (fun W hW => ?_)
   have R : AtN W (w.heap.size + 1 + 1) [.bool cm, .slice ca cn cc, .slice ma mn mc] 53 := by rw [hW]; exact ((R4.out.set 0 _).set 1 _).set 2 _
   have HC : Cn W cm ca cn cc c := by rw [hW]; exact H4.out.1.staysC (R4.out.cleanB (clean3 _ _ _ _ _ _ _)) (zz78 _ _ 0 _ _ _)
   have HM : Ml W ma mn mc ms := by rw [hW]; exact H4.out.2.1.staysC (R4.out.cleanB (clean3 _ _ _ _ _ _ _)) (zz78 _ _ 0 _ _ _)
   have HBW : Below w.heap.size w W := by rw [hW]; exact H4.out.2.2.trans (zz14 (zz78 _ _ 0 _ _ _) (by omega) H4.out.2.2.size)
   clear hW; obtain ⟨d0, d1, d2⟩ := R.c3
   refine bodyPost_ret (v := .tuple #[.agg #[.bool cm, .slice ca cn cc, .slice ma mn mc], .bool G]) (by simp [results, Tryz.results158, go_sem, d0, d1, d2]) rfl ?_
   exact ⟨_, _, _, _, _, _, _, rfl, HC, HM, HBW⟩
open Lib (hid)
theorem cell3_far {w : World} {b o : Nat} {u0 u1 u2 : Value} (h : w.cell? ⟨b, o, none⟩ = some u0 ∧ w.cell? ⟨b, o + 1, none⟩ = some u1 ∧ w.cell? ⟨b, o + 2, none⟩ = some u2) {g : Nat} (hg : b ≠ g) (x y : Value) : ((w.setCell ⟨g, 0, none⟩ x).setCell ⟨g, 1, none⟩ y).cell? ⟨b, o, none⟩ = some u0 ∧ ((w.setCell ⟨g, 0, none⟩ x).setCell ⟨g, 1, none⟩ y).cell? ⟨b, o + 1, none⟩ = some u1 ∧ ((w.setCell ⟨g, 0, none⟩ x).setCell ⟨g, 1, none⟩ y).cell? ⟨b, o + 2, none⟩ = some u2 := by
 have hG := zz77 w g 0 x y
 exact ⟨hG.cell h.1 (fun e => hg (Option.some.inj e)), hG.cell h.2.1 (fun e => hg (Option.some.inj e)), hG.cell h.2.2 (fun e => hg (Option.some.inj e))⟩
theorem zz182 {ps : List (List Term)} {k : Nat} (h : k < ps.length) : ps.take (k + 1) = ps.take k ++ [ps.getD k []] := by
 rw [List.take_succ_eq_append_getElem h, getD_of [] h]
theorem Pw.tailE' {B K : Nat} {w : World} {g off n cap : Nat} {t : Term} {r : List Term} (h : Pw B K w (some ⟨g, off, none⟩) n cap (t :: r)) (hc : cap = 1) : Pw B K w (some ⟨g, off, none⟩) 0 0 r ∧ n = 1 := by
 have hl := h.len
 simp at hl
 subst hl
 have := h.tailE hc
 exact ⟨this.1, by omega⟩
theorem Pw.tailN' {B K : Nat} {w : World} {g off n cap : Nat} {t : Term} {r : List Term} (h : Pw B K w (some ⟨g, off, none⟩) n cap (t :: r)) : Pw B K w (some ⟨g, off + 3, none⟩) (n - 1) (cap - 1) r := by
 have hl := h.len
 simp at hl
 subst hl
 exact h.tailN
theorem zz75 {w V V' : World} {r : Option Nat} {g : Nat} (h : w.grownBy V r) (hg : V.grownBy V' (some g)) (hn : w.heap.size ≤ g) : w.grownBy V' r :=
 ⟨hg.os.trans h.os, hg.tape.trans h.tape, hg.output.trans h.output, Nat.le_trans h.size hg.size, fun k hk hr => (hg.block k (Nat.lt_of_lt_of_le hk h.size) (fun e => by have := Option.some.inj e; omega)).trans (h.block k hk hr)⟩
def TakeOk (B K n : Nat) (w : World) (so : Option Addr) (cap : Nat) (X : List (List Value)) (ps : List (List Term)) (e : Ending) (V : World) : Prop :=
 Below B w V ∧ w.grownBy V (blk so) ∧ ∃ m ao na ca mo mn mc f, e = .returned (.tuple #[.agg #[.bool m, .slice ao na ca, .slice mo mn mc], .bool f]) ∧ ((f = false ∧ ∀ p ∈ ps, p = []) ∨
  (f = true ∧ ∃ c M X' ps', Cn V m ao na ca c ∧ Bd c (K + n) ∧ Ml V mo mn mc M ∧ mayM 0 M = true ∧ Pile B K V so n cap X' ps' ∧ (∀ ρ, evs ps ρ = c * evM M ρ + evs ps' ρ) ∧ (∀ p ∈ ps', ∀ s ∈ p, gtM M s.2) ∧ lens ps' < lens ps ∧ (∃ p ∈ ps, ∃ s ∈ p, s.2 = M) ∧ ∀ vs ∈ X', ∀ g, blkV vs = some g → ∃ v0 ∈ X, blkV v0 = some g))
structure TS1 (B K : Nat) (w : World) (so : Option Addr) (n cap : Nat) (X : List (List Value)) (ps : List (List Term)) (k : Nat) (f : Bool) (mo : Option Addr) (mn mc : Nat) (M : List (Int × Int)) (V : World) : Prop where
 pl : Pile B K V so n cap X ps
 rs : AtN V w.heap.size [.bool false, .slice none 0 0, .slice none 0 0] 53
 ld : AtN V (w.heap.size + 1) [.bool false, .slice none 0 0, .slice mo mn mc] 53
 ml : Ml V mo mn mc M
 tp : IsTop (ps.take k) f M
 gr : w.grownBy V (blk so)
 bw : Below B w V
 bz : B ≤ w.heap.size
section
variable {B K : Nat} {w : World} {so : Option Addr} {n cap : Nat} {X : List (List Value)} {ps : List (List Term)} {k : Nat} {f : Bool} {mo : Option Addr} {mn mc : Nat} {M : List (Int × Int)} {V V' : World}
theorem TS1.below (h : TS1 B K w so n cap X ps k f mo mn mc M V) (hb : Below V.heap.size V V') : TS1 B K w so n cap X ps k f mo mn mc M V' :=
 ⟨h.pl.below hb, h.rs.below hb, h.ld.below hb, h.ml.below hb, h.tp, zz80 h.gr (zz73 _ hb), h.bw.trans (hb.mono (Nat.le_trans h.bz (Nat.le_of_lt h.rs.lt))), h.bz⟩
theorem TS1.next (h : TS1 B K w so n cap X ps k f mo mn mc M V) (hk : k < n) : ps.take (k + 1) = ps.take k ++ [ps.getD k []] := zz182 (by rw [h.pl.len.2]; exact hk)
theorem TS1.nil (h : TS1 B K w so n cap X ps k f mo mn mc M V) (hk : k < n) (h0 : ps.getD k [] = []) : TS1 B K w so n cap X ps (k + 1) f mo mn mc M V :=
 { h with tp := by rw [h.next hk, h0]; exact h.tp.nil }
theorem TS1.put (h : TS1 B K w so n cap X ps k f mo mn mc M V) (hlo : ∀ vs ∈ X, ∀ g, blkV vs = some g → g < w.heap.size) (hBw : B ≤ w.heap.size) {xo : Option Addr} {xn xc : Nat} {N : List (Int × Int)} {f' : Bool} (hM : Ml V xo xn xc N) (hT : IsTop (ps.take (k + 1)) f' N) :
  TS1 B K w so n cap X ps (k + 1) f' xo xn xc N (V.setCell ⟨w.heap.size + 1, 2, none⟩ (.slice xo xn xc)) := by
 have hg := zz76 V (w.heap.size + 1) 2 (.slice xo xn xc)
 have hn : NoInt V (w.heap.size + 1) := (h.ld.cleanB (clean3 _ _ _ _ _ _ _)).noInt
 have hn' : ∀ r, some (w.heap.size + 1) = some r → NoInt V r := fun r e => by cases e; exact hn
 exact ⟨h.pl.far h.ld hn (fun g e v hv e2 => by cases e; have := hlo v hv _ e2; omega) hg, h.rs.far (by omega) 2 _, h.ld.set 2 _, hM.stepG hg hn', hT, zz75 h.gr hg (by omega), h.bw.grown hg (Nat.le_trans hBw (Nat.le_of_lt h.rs.lt)) (fun r e => by cases e; omega), hBw⟩
end
structure TS2 (B K : Nat) (w : World) (so : Option Addr) (n cap : Nat) (X0 : List (List Value)) (L : List (List Term)) (c : Int) (kb : Nat) (cm : Bool) (ca : Option Addr) (cn cc : Nat) (mo : Option Addr) (mn mc : Nat) (M : List (Int × Int)) (X : List (List Value)) (V : World) : Prop where
 pl : Pile B K V so n cap X L
 lo : ∀ vs ∈ X, ∀ g, blkV vs = some g → g < w.heap.size
 lx : ∀ vs ∈ X, ∀ g, blkV vs = some g → ∃ v0 ∈ X0, blkV v0 = some g
 rs : AtN V w.heap.size [.bool false, .slice none 0 0, .slice none 0 0] 53
 ld : AtN V (w.heap.size + 1) [.bool cm, .slice ca cn cc, .slice mo mn mc] 53
 ml : Ml V mo mn mc M
 cn : Cn V cm ca cn cc c
 bd : Bd c (K + kb)
 gr : w.grownBy V (blk so)
 bw : Below B w V
 bz : B ≤ w.heap.size
section
variable {B K : Nat} {w : World} {so : Option Addr} {n cap : Nat} {X0 : List (List Value)} {L : List (List Term)} {c : Int} {kb : Nat} {cm : Bool} {ca : Option Addr} {cn cc : Nat} {mo : Option Addr} {mn mc : Nat} {M : List (Int × Int)} {X : List (List Value)} {ps : List (List Term)} {k : Nat} {V V' : World}
theorem TS2.below (h : TS2 B K w so n cap X0 L c kb cm ca cn cc mo mn mc M X V) (hb : Below V.heap.size V V') : TS2 B K w so n cap X0 L c kb cm ca cn cc mo mn mc M X V' :=
 ⟨h.pl.below hb, h.lo, h.lx, h.rs.below hb, h.ld.below hb, h.ml.below hb, h.cn.below hb, h.bd, zz80 h.gr (zz73 _ hb), h.bw.trans (hb.mono (Nat.le_trans h.bz (Nat.le_of_lt h.rs.lt))), h.bz⟩
theorem TS2.num (h : TS2 B K w so n cap X0 L c kb cm ca cn cc mo mn mc M X V) (hBw : B ≤ w.heap.size) {rm : Bool} {ra : Option Addr} {rn rc : Nat} {d : Int} {kd : Nat} (hC : Cn V rm ra rn rc d) (hD : Bd d (K + kd)) :
  TS2 B K w so n cap X0 L d kd rm ra rn rc mo mn mc M X ((V.setCell ⟨w.heap.size + 1, 0, none⟩ (.bool rm)).setCell ⟨w.heap.size + 1, 1, none⟩ (.slice ra rn rc)) := by
 have hg := zz77 V (w.heap.size + 1) 0 (.bool rm) (.slice ra rn rc)
 have hn : NoInt V (w.heap.size + 1) := (h.ld.cleanB (clean3 _ _ _ _ _ _ _)).noInt
 have hn' : ∀ r, some (w.heap.size + 1) = some r → NoInt V r := fun r e => by cases e; exact hn
 exact ⟨h.pl.far h.ld hn (fun g e v hv e2 => by cases e; have := h.lo v hv _ e2; omega) hg, h.lo, h.lx, (h.rs.far (by omega) 0 _).far (by omega) 1 _, (h.ld.set 0 _).set 1 _, h.ml.stepG hg hn', hC.stepG hg hn', hD, zz75 h.gr hg (by omega), h.bw.grown hg (Nat.le_trans hBw (Nat.le_of_lt h.rs.lt)) (fun r e => by cases e; omega), hBw⟩
theorem TS2.at (h : TS2 B K w so n cap X0 (tkL M ps k) c kb cm ca cn cc mo mn mc M X V) {po : Option Addr} {pn pc : Nat} (hv : X.getD k [] = [.slice po pn pc]) (hk : k < n) : Pw B K V po pn pc ((tkL M ps k).getD k []) := by
 obtain ⟨g, _, _, po', pn', pc', hv', _, h1, _⟩ := h.pl.get hk; rw [hv] at hv'
 cases hv'
 exact h1
theorem TS2.same (h : TS2 B K w so n cap X0 (tkL M ps k) (sumM M (ps.take k)) k cm ca cn cc mo mn mc M X V) (hL : ps.length = n) (hk : k < n) (h0 : ps.getD k [] = [] ∨ ∃ t r, ps.getD k [] = t :: r ∧ t.2 ≠ M) :
  TS2 B K w so n cap X0 (tkL M ps (k + 1)) (sumM M (ps.take (k + 1))) (k + 1) cm ca cn cc mo mn mc M X V := by
 have hkp : k < ps.length := by rw [hL]; exact hk
 have h1 : dropM M (ps.getD k []) = ps.getD k [] ∧ headC M (ps.getD k []) = 0 := by
  rcases h0 with e | ⟨t, r, e, e2⟩
  ·rw [e]; exact ⟨rfl, rfl⟩
  ·rw [e]; simp [dropM, headC, e2]
 have e1 : tkL M ps (k + 1) = tkL M ps k := by
  rw [tkL_next M hkp, h1.1, ← tkL_get M hkp, set_self _ _ _ (by rw [tkL_len]; exact hkp)]
 have e2 : sumM M (ps.take (k + 1)) = sumM M (ps.take k) := by
  rw [zz182 hkp, zz179]
  simp only [sumM, h1.2]
  omega
 rw [e1, e2]
 exact { h with bd := h.bd.mono (by omega) }
theorem TS2.put2 {g : Nat} (h : TS2 B K w (some ⟨g, 0, none⟩) n cap X0 (tkL M ps k) c kb cm ca cn cc mo mn mc M X V) (hL : ps.length = n) (hk : k < n) {t : Term} {r : List Term} (ht : ps.getD k [] = t :: r ∧ t.2 = M) {pb po pn pc ro rn rc : Nat} (hr : Pw B K V (some ⟨pb, ro, none⟩) rn rc r) (hf : fall r) (hv : X.getD k [] = [.slice (some ⟨pb, po, none⟩) pn pc]) (hgw : g < w.heap.size) (hB : B ≤ g) :
  TS2 B K w (some ⟨g, 0, none⟩) n cap X0 (tkL M ps (k + 1)) c kb cm ca cn cc mo mn mc M (X.set k [.slice (some ⟨pb, ro, none⟩) rn rc]) (V.setCell ⟨g, k, none⟩ (.slice (some ⟨pb, ro, none⟩) rn rc)) := by
 have hkp : k < ps.length := by rw [hL]; exact hk
 have hg := zz76 V g k (.slice (some ⟨pb, ro, none⟩) rn rc)
 have hn' : ∀ r, some g = some r → NoInt V r := fun r e => by cases e; exact (h.pl.row.cln g rfl).noInt
 have e1 : tkL M ps (k + 1) = (tkL M ps k).set k r := by
  rw [tkL_next M hkp, ht.1]
  simp only [dropM, if_pos ht.2]
 have hX : ∀ vs ∈ X.set k [.slice (some ⟨pb, ro, none⟩) rn rc], ∀ g, blkV vs = some g → g < w.heap.size := fun vs hvs g' e => by
  rcases List.mem_or_eq_of_mem_set hvs with h1 | rfl
  ·exact h.lo vs h1 g' e
  ·exact h.lo (X.getD k []) (getD_in [] (by rw [h.pl.len.1]; exact hk)) g' (by rw [hv]; exact e)
 have hX0 : ∀ vs ∈ X.set k [.slice (some ⟨pb, ro, none⟩) rn rc], ∀ g, blkV vs = some g → ∃ v0 ∈ X0, blkV v0 = some g := fun vs hvs g' e => by
  rcases List.mem_or_eq_of_mem_set hvs with h1 | rfl
  ·exact h.lx vs h1 g' e
  ·exact h.lx (X.getD k []) (getD_in [] (by rw [h.pl.len.1]; exact hk)) g' (by rw [hv]; exact e)
 rw [e1]
 exact ⟨h.pl.put hk hr hf (fun g' e => by rw [hv]; exact e), hX, hX0, h.rs.far (by omega) k _, h.ld.far (by omega) k _, h.ml.stepG hg hn', h.cn.stepG hg hn', h.bd, zz80 h.gr hg, h.bw.grown hg (Nat.le_trans hB (Nat.le_trans (Nat.le_of_lt hgw) (Nat.le_of_lt h.rs.lt))) (fun r e => by cases e; exact hB), h.bz⟩
theorem TS2.cg {g : Nat} (h : TS2 B K w (some ⟨g, 0, none⟩) n cap X0 L c kb cm ca cn cc mo mn mc M X V) (hk : k < n) : ∃ u, V.cell? ⟨g, k, none⟩ = some u := by
 obtain ⟨g', e, _, po, pn, pc, _, h1, _⟩ := h.pl.get hk
 cases e
 exact ⟨_, h1⟩
theorem TS2.fz {g : Nat} (h : TS2 B K w (some ⟨g, 0, none⟩) n cap X0 L c kb cm ca cn cc mo mn mc M X V) : V.frozen? ⟨g, k, none⟩ = false := by
 rcases h.pl.row.parts with ⟨h1, _⟩ | ⟨g', cur, h1, _, _, _, hh⟩
 ·cases h1
 ·cases h1
  exact AtN.fz (vs := cur.toList) (T := 23) (by unfold AtN; simpa using hh) k
theorem TS2.fin {f : Bool} (h : TS2 B K w so n cap X0 (ps.map (dropM M)) (sumM M ps) n cm ca cn cc mo mn mc M X V) (ht : IsTop ps f M) (hf : ∀ p ∈ ps, fall p) (hBw : B ≤ w.heap.size) :
  TakeOk B K n w so cap X0 ps (.returned (.tuple #[.agg #[.bool cm, .slice ca cn cc, .slice mo mn mc], .bool f])) (((V.setCell ⟨w.heap.size, 0, none⟩ (.bool cm)).setCell ⟨w.heap.size, 1, none⟩ (.slice ca cn cc)).setCell ⟨w.heap.size, 2, none⟩ (.slice mo mn mc)) := by
 have hg := zz78 V w.heap.size 0 (.bool cm) (.slice ca cn cc) (.slice mo mn mc)
 have hn : NoInt V w.heap.size := (h.rs.cleanB (clean3 _ _ _ _ _ _ _)).noInt
 have hn' : ∀ r, some w.heap.size = some r → NoInt V r := fun r e => by cases e; exact hn
 refine ⟨h.bw.grown hg (Nat.le_trans hBw (Nat.le_of_lt h.rs.lt)) (fun r e => by cases e; exact hBw), zz75 h.gr hg (Nat.le_refl _), _, _, _, _, _, _, _, f, rfl, ?_⟩
 cases f with
 | false => exact .inl ⟨rfl, ht.no rfl⟩
 | true =>
  obtain ⟨h1, ⟨t, r, h2, h3⟩, h4⟩ := ht.yes rfl
  refine .inr ⟨rfl, sumM M ps, M, X, ps.map (dropM M), h.cn.stepG hg hn', h.bd, h.ml.stepG hg hn', h1, h.pl.far h.rs hn (fun g e v hv e2 => by cases e; have := h.lo v hv _ e2; omega) hg, fun ρ => drops_ev M ρ ps, fun p hp => ?_, drops_less ⟨t, r, h2, h3⟩, ⟨t :: r, h2, t, by simp, h3⟩, h.lx⟩
  obtain ⟨q, hq, rfl⟩ := List.mem_map.1 hp
  exact dropM_below ht hq (hf q hq)
end
theorem take_any {B K : Nat} {so : Option Addr} {n cap : Nat} {X : List (List Value)} {ps : List (List Term)} {w : World} (hs : Pile B K w so n cap X ps) (hK : K + n ≤ 900000) (hBw : B ≤ w.heap.size) :
  Calls Tryz.prog 157 #[.slice so n cap] w (TakeOk B K n w so cap X ps) := by
 have hlm := lt_mem hs.mem
 have hfl : ∀ p ∈ ps, fall p := fun p hp => by
  obtain ⟨i, hi, rfl⟩ := List.mem_iff_getElem.1 hp
  obtain ⟨_, _, _, _, _, _, _, _, _, h⟩ := hs.get (k := i) (by rw [← hs.len.2]; exact hi)
  rwa [getD_of [] hi] at h
 have HLF := hid hfl; have HLO := hid hlm
 have HL : Hid (ps.length = n ∧ ps.length = n ∧ ∀ g, so = some ⟨g, 0, none⟩ → g < w.heap.size ∧ B ≤ g) := ⟨hs.len.2, hs.len.2, fun g e => by
  rcases hs.row.parts with ⟨h1, _⟩ | ⟨g', cur, h1, hB, hlt, _⟩
  ·rw [h1] at e; cases e
  ·rw [h1] at e; cases e; exact ⟨hlt, hB⟩⟩
 have HS0 := hid hs; have hcap := hs.row.gl.le; have hbig := hs.row.gl.big; clear hlm hfl hs
 go_enter Tryz.func157, Tryz.ntmps157
 go_upto_region 2 with (fail)
 refine zz232 (fun W hW => ?_)
 obtain ⟨a1, a2, hB⟩ := box2 w [.bool false, .slice none 0 0, .slice none 0 0] [.bool false, .slice none 0 0, .slice none 0 0] 53 53; rw [← hW] at a1 a2 hB
 have HI : Hid (TS1 B K w so n cap X ps 0 false none 0 0 [] W) := ⟨HS0.out.below hB, a1, a2, Ml.zero _, by rw [List.take_zero]; exact IsTop.start, zz73 _ hB, hB.mono hBw, hBw⟩
 clear hW a1 a2 hB HS0
 go_wp2
 go_loopw [5, 12] (fun s5 s12 wr => ∃ (k : Nat) (f : Bool) (mo : Option Addr) (mn mc : Nat) (M : List (Int × Int)), s5 = .bool f ∧ s12 = .int .i64 k ∧ k ≤ n ∧ Hid (TS1 B K w so n cap X ps k f mo mn mc M wr)) (fun _ s12 _ => n - (intOf s12).toNat)
 case atStart => exact ⟨0, false, none, 0, 0, [], rfl, rfl, Nat.zero_le _, HI.out⟩
 case round =>
  clear HI; obtain ⟨k, f, mo, mn, mc, M, rfl, rfl, hk, HS⟩ := hrel
  by_cases hkn : k < n
  ·obtain ⟨g, hso, hgl, po, pn, pc, hv, hc5, hPw, hfl⟩ := HS.out.pl.get hkn
   have hso2 := hso; subst hso
   have hzk : (0 : Nat) + k = k := Nat.zero_add k
   go_upto_region 6 with (fail)
   clear hc5
   rcases Nat.eq_zero_or_pos pn with h0 | h0
   ·have HN : Hid (TS1 B K w (some ⟨g, 0, none⟩) n cap X ps (k + 1) f mo mn mc M wr) := HS.out.nil hkn (List.eq_nil_of_length_eq_zero (by rw [hPw.len]; exact h0))
    subst h0
    have hd : decide ((0 : Int) < ((0 : Nat) : Int)) = false := rfl
    clear hPw hfl
    go_upto_region 6 with (fail)
    refine wp_region_held_drew (S := fun w' => True) (by kernel_rfl) trivial (fun hH => ?_)
    refine zz9 (fun w8 hW => ?_)
    have HN8 : Hid (TS1 B K w (some ⟨g, 0, none⟩) n cap X ps (k + 1) f mo mn mc M w8) := by rw [hW]; exact HN.out.below (Below.refl _ _).drew
    clear HN HS; clear hW
    refine son 0 hH ?_; try simp only [nrm]
    refine son 1 hH ?_; try simp only [nrm]
    refine son 2 hH ?_; try simp only [nrm]
    refine son 3 hH ?_; try simp only [nrm]
    refine sof 4 hH ?_; try simp only [nrm]
    refine sof 5 hH ?_; try simp only [nrm]
    refine sof 6 hH ?_; try simp only [nrm]
    refine sof 7 hH ?_; try simp only [nrm]
    refine sof 8 hH ?_; try simp only [nrm]
    refine sof 9 hH ?_; try simp only [nrm]
    refine sof 10 hH ?_; try simp only [nrm]
    refine sof 11 hH ?_; try simp only [nrm]
    refine sof 12 hH ?_; try simp only [nrm]
    refine sof 13 hH ?_; try simp only [nrm]
    refine son 14 hH ?_; try simp only [nrm]
    refine wpAnyH_done (by kernel_rfl) ?_ _
    go_wp2_with fail
    go_roundw
    case rel => exact ⟨k + 1, f, mo, mn, mc, M, rfl, by go_num, by omega, HN8.out⟩
    case measure => simp [intOf]; omega
   ·obtain ⟨pb, po, xm, xa, xn, xc, xp, xq, xr, hpo, hpb, hc, hCn, hBd, hMl⟩ := hPw.pc.at (k := 0) (by omega)
    subst hpo; rw [Nat.zero_mul, Nat.add_zero] at hc
    obtain ⟨t, r, htr⟩ : ∃ t r, ps.getD k [] = t :: r := by cases he : ps.getD k [] with | nil => rw [he] at hPw; have := hPw.len; simp at this; omega | cons t r => exact ⟨t, r, rfl⟩
    rw [htr] at hPw hfl hCn hBd hMl
    have hCn : Cn wr xm xa xn xc t.1 := hCn
    have hBd : Bd t.1 K := hBd
    have hMl : Ml wr xp xq xr t.2 := hMl
    have hd : decide ((0 : Int) < (pn : Int)) = true := decide_eq_true (by omega)
    have HT : Hid (Cn wr xm xa xn xc t.1 ∧ Bd t.1 K ∧ Ml wr xp xq xr t.2 ∧ mayM 0 t.2 = true ∧ fall (t :: r)) := ⟨hCn, hBd, hMl, hfl.2.1, hfl⟩
    have HC := hid hc; have HPW := hid hPw; have HTR := hid htr
    have h0n : 0 < pn := by omega
    cases f with
    | false =>
     have hT1 := HS.out.tp.first (r := r) HT.out.2.2.2.1; rw [← HTR.out, ← HS.out.next hkn] at hT1; have HTP := hid hT1; clear hT1; clear hCn hBd hMl hc hPw hfl htr
     go_upto_region 6 with (fail)
     refine wp_region_held_drew (S := fun w' => True) (by kernel_rfl) trivial (fun hH => ?_)
     refine zz9 (fun w9 hW => ?_)
     have HB9 : Hid (Below wr.heap.size wr w9) := by rw [hW]; exact (Below.refl _ _).drew
     have HN9 : Hid (TS1 B K w (some ⟨g, 0, none⟩) n cap X ps k false mo mn mc M w9) := by rw [hW]; exact HS.out.below (Below.refl _ _).drew
     have HT9 : Hid (Ml w9 xp xq xr t.2 ∧ mayM 0 t.2 = true) := ⟨HT.out.2.2.1.below HB9.out, HT.out.2.2.2.1⟩
     clear HS; clear hW
     refine son 0 hH ?_; try simp only [nrm]
     refine son 1 hH ?_; try simp only [nrm]
     refine son 2 hH ?_; try simp only [nrm]
     refine son 3 hH ?_; try simp only [nrm]
     refine son 4 hH ?_; try simp only [nrm]
     refine son 5 hH ?_; try simp only [nrm]
     refine son 6 hH ?_; try simp only [nrm]
     refine sof 7 hH ?_; try simp only [nrm]
     refine sof 8 hH ?_; try simp only [nrm]
     refine sof 9 hH ?_; try simp only [nrm]
     refine sof 10 hH ?_; try simp only [nrm]
     refine sof 11 hH ?_; try simp only [nrm]
     refine sof 12 hH ?_; try simp only [nrm]
     refine son 13 hH ?_; try simp only [nrm]
     refine son 14 hH ?_; try simp only [nrm]
     refine wpAnyH_done (by kernel_rfl) ?_ _
     obtain ⟨c0, c1, c2⟩ := HC.out w9 (HB9.out); obtain ⟨f0, f1, f2⟩ := HN9.out.ld.f3; obtain ⟨d0, d1, d2⟩ := HN9.out.ld.c3
     go_upto_region 8 with (fail)
     clear c0 c1 c2 d0 d1 d2 f0 f1 f2
     refine zz232 (fun V hV => ?_)
     have HV : Hid (TS1 B K w (some ⟨g, 0, none⟩) n cap X ps (k + 1) true xp xq xr t.2 V) := by rw [hV]; exact HN9.out.put HLO.out hBw HT9.out.1 (HTP.out)
     clear hV HN9 HT9
     go_wp2
     go_roundw
     case rel => exact ⟨k + 1, true, xp, xq, xr, t.2, rfl, by go_num, by omega, HV.out⟩
     case measure => simp [intOf]; omega
    | true =>
     obtain ⟨z, hz⟩ : ∃ z, cmpM t.2 M = z := ⟨_, rfl⟩; have hm1 := (HS.out.tp.yes rfl).1
     have HO : Hid (∀ W, Below wr.heap.size wr W → Calls Tryz.prog 82 #[.agg #[.bool xm, .slice xa xn xc, .slice xp xq xr], .agg #[.bool false, .slice none 0 0, .slice mo mn mc]] W (RetB (.int .i64 z) W)) := fun W hW => zz133 z (HT.out.2.2.1.below hW) (HS.out.ml.below hW) HT.out.2.2.2.1 hm1 hz
     clear hm1
     by_cases hz0 : z > 0
     ·have hT1 := HS.out.tp.more (r := r) HT.out.2.2.2.1 (by rw [hz]; exact hz0)
      rw [← HTR.out, ← HS.out.next hkn] at hT1; have HTP := hid hT1
      have hd2 : decide ((0 : Int) < z) = true := decide_eq_true hz0
      clear hT1 hz hz0; clear hCn hBd hMl hc hPw hfl htr
      go_upto_region 6 with (fail)
      refine wp_region_held_drew (S := (fun w' => (w'.cell? ⟨pb, po, none⟩ = some (.bool xm) ∧ w'.cell? ⟨pb, po + 1, none⟩ = some (.slice xa xn xc) ∧ w'.cell? ⟨pb, po + 2, none⟩ = some (.slice xp xq xr)) ∧ w'.cell? ⟨w.heap.size + 1, 0, none⟩ = some (.bool false) ∧ w'.cell? ⟨w.heap.size + 1, 1, none⟩ = some (.slice none 0 0) ∧ w'.cell? ⟨w.heap.size + 1, 2, none⟩ = some (.slice mo mn mc))) (by kernel_rfl) ⟨HC.out _ (Below.refl _ _).drew, HS.out.ld.c3⟩ (fun hH => ?_)
      refine zz9 (fun w8 hW => ?_)
      have HB8 : Hid (Below wr.heap.size wr w8) := by rw [hW]; exact (Below.refl _ _).drew
      have HN8 : Hid (TS1 B K w (some ⟨g, 0, none⟩) n cap X ps k true mo mn mc M w8) := by rw [hW]; exact HS.out.below (Below.refl _ _).drew
      rw [← hW] at hH; clear HS
      clear hW
      refine son 0 hH ?_; try simp only [nrm]
      refine son 1 hH ?_; try simp only [nrm]
      refine son 2 hH ?_; try simp only [nrm]
      refine son 3 hH ?_; try simp only [nrm]
      refine son 4 hH ?_; try simp only [nrm]
      refine son 5 hH ?_; try simp only [nrm]
      refine son 6 hH ?_; try simp only [nrm]
      refine son 7 hH ?_; try simp only [nrm]
      refine son 8 hH ?_; try simp only [nrm]
      refine son 9 hH ?_; try simp only [nrm]
      refine son 10 hH ?_; try simp only [nrm]
      refine zz176 11 rfl (by kernel_rfl) (fun KK hK => ?_)
      go_simp; refine (HO.out _ HB8.out).mono ?_
      rintro e w9 ⟨rfl, hB⟩; have HB9 := hid (Below.steps HB8.out hB); have HN9 := hid (HN8.out.below hB)
      have HT9 : Hid (Ml w9 xp xq xr t.2 ∧ mayM 0 t.2 = true) := ⟨HT.out.2.2.1.below HB9.out, HT.out.2.2.2.1⟩
      clear hB HB8 HN8; go_wp2_with fail
      clear hH; refine hK.out _ _ ⟨HC.out _ HB9.out, HN9.out.ld.c3⟩ fun hH => ?_; clear hK KK
      try simp only [nrm]
      refine son 12 hH ?_; try simp only [nrm]
      refine son 13 hH ?_; try simp only [nrm]
      refine son 14 hH ?_; try simp only [nrm]
      refine wpAnyH_done (by kernel_rfl) ?_ _
      obtain ⟨c0, c1, c2⟩ := HC.out w9 (HB9.out); obtain ⟨f0, f1, f2⟩ := HN9.out.ld.f3; obtain ⟨d0, d1, d2⟩ := HN9.out.ld.c3
      go_upto_region 8 with (fail)
      clear c0 c1 c2 d0 d1 d2 f0 f1 f2
      refine zz232 (fun V hV => ?_)
      have HV : Hid (TS1 B K w (some ⟨g, 0, none⟩) n cap X ps (k + 1) true xp xq xr t.2 V) := by rw [hV]; exact HN9.out.put HLO.out hBw HT9.out.1 (HTP.out)
      clear hV HN9 HT9
      go_wp2
      go_roundw
      case rel => exact ⟨k + 1, true, xp, xq, xr, t.2, rfl, by go_num, by omega, HV.out⟩
      case measure => simp [intOf]; omega
     ·have hT1 := HS.out.tp.less (r := r) HT.out.2.2.2.1 (by rw [hz]; exact hz0)
      rw [← HTR.out, ← HS.out.next hkn] at hT1; have HTP := hid hT1
      have hd2 : decide ((0 : Int) < z) = false := decide_eq_false hz0
      clear hT1 hz hz0; clear hCn hBd hMl hc hPw hfl htr
      go_upto_region 6 with (fail)
      refine wp_region_held_drew (S := (fun w' => (w'.cell? ⟨pb, po, none⟩ = some (.bool xm) ∧ w'.cell? ⟨pb, po + 1, none⟩ = some (.slice xa xn xc) ∧ w'.cell? ⟨pb, po + 2, none⟩ = some (.slice xp xq xr)) ∧ w'.cell? ⟨w.heap.size + 1, 0, none⟩ = some (.bool false) ∧ w'.cell? ⟨w.heap.size + 1, 1, none⟩ = some (.slice none 0 0) ∧ w'.cell? ⟨w.heap.size + 1, 2, none⟩ = some (.slice mo mn mc))) (by kernel_rfl) ⟨HC.out _ (Below.refl _ _).drew, HS.out.ld.c3⟩ (fun hH => ?_)
      refine zz9 (fun w8 hW => ?_)
      have HB8 : Hid (Below wr.heap.size wr w8) := by rw [hW]; exact (Below.refl _ _).drew
      have HN8 : Hid (TS1 B K w (some ⟨g, 0, none⟩) n cap X ps k true mo mn mc M w8) := by rw [hW]; exact HS.out.below (Below.refl _ _).drew
      rw [← hW] at hH; clear HS
      clear hW
      refine son 0 hH ?_; try simp only [nrm]
      refine son 1 hH ?_; try simp only [nrm]
      refine son 2 hH ?_; try simp only [nrm]
      refine son 3 hH ?_; try simp only [nrm]
      refine son 4 hH ?_; try simp only [nrm]
      refine son 5 hH ?_; try simp only [nrm]
      refine son 6 hH ?_; try simp only [nrm]
      refine son 7 hH ?_; try simp only [nrm]
      refine son 8 hH ?_; try simp only [nrm]
      refine son 9 hH ?_; try simp only [nrm]
      refine son 10 hH ?_; try simp only [nrm]
      refine zz176 11 rfl (by kernel_rfl) (fun KK hK => ?_)
      go_simp; refine (HO.out _ HB8.out).mono ?_
      rintro e w9 ⟨rfl, hB⟩; have HB9 := hid (Below.steps HB8.out hB); have HN9 := hid (HN8.out.below hB)
      have HT9 : Hid (Ml w9 xp xq xr t.2 ∧ mayM 0 t.2 = true) := ⟨HT.out.2.2.1.below HB9.out, HT.out.2.2.2.1⟩
      clear hB HB8 HN8; go_wp2_with fail
      clear hH; refine hK.out _ _ ⟨HC.out _ HB9.out, HN9.out.ld.c3⟩ fun hH => ?_; clear hK KK
      try simp only [nrm]
      refine son 12 hH ?_; try simp only [nrm]
      refine son 13 hH ?_; try simp only [nrm]
      refine son 14 hH ?_; try simp only [nrm]
      refine wpAnyH_done (by kernel_rfl) ?_ _
      go_wp2_with fail
      have HN10 : Hid (TS1 B K w (some ⟨g, 0, none⟩) n cap X ps (k + 1) true mo mn mc M w9) := { HN9.out with tp := HTP.out }
      clear HN9
      go_roundw
      case rel => exact ⟨k + 1, true, mo, mn, mc, M, rfl, by go_num, by omega, HN10.out⟩
      case measure => simp [intOf]; omega
  ·obtain rfl : n = k := by omega
   have hS := HS.out; have HTOP := hid hS.tp
   have HI2 : Hid (TS2 B K w so n cap X (tkL M ps 0) (sumM M (ps.take 0)) 0 false none 0 0 mo mn mc M X wr) := ⟨by rw [tkL_zero]; exact hS.pl, HLO.out, (fun v hv g e => ⟨v, hv, e⟩), hS.rs, hS.ld, hS.ml, ⟨rfl, Sl.none _⟩, by rw [List.take_zero]; unfold Bd sumM; exact Nat.pos_of_ne_zero (by simp), hS.gr, hS.bw, hBw⟩
   have hT2 := HTOP.out
   rw [List.take_of_length_le (by rw [HL.out.1]; exact Nat.le_refl _)] at hT2
   have HTOP2 := hid hT2; clear hS HS HTOP hT2 hk; have HTOP := HTOP2; clear HTOP2
   go_wp2
   go_loopw [39] (fun s39 wr2 => ∃ (k : Nat) (cm : Bool) (ca : Option Addr) (cn cc : Nat) (X2 : List (List Value)), s39 = .int .i64 k ∧ k ≤ n ∧ Hid (TS2 B K w so n cap X (tkL M ps k) (sumM M (ps.take k)) k cm ca cn cc mo mn mc M X2 wr2)) (fun s39 _ => n - (intOf s39).toNat)
   case atStart => exact ⟨0, false, none, 0, 0, X, rfl, Nat.zero_le _, HI2.out⟩
   case round =>
    clear HI2; obtain ⟨k, cm, ca, cn, cc, X2, rfl, hk, HS⟩ := hrel
    by_cases hkn : k < n
    ·obtain ⟨g, hso, hgl, po, pn, pc, hv, hc5, hPw, hfl⟩ := HS.out.pl.get hkn
     have hso2 := hso; subst hso; have hgw := HL.out.2.2 g rfl
     have hzk : (0 : Nat) + k = k := Nat.zero_add k
     rw [tkL_get M (by rw [HL.out.2.1]; exact hkn)] at hPw hfl
     go_upto_region 12 with (fail)
     clear hc5
     rcases Nat.eq_zero_or_pos pn with h0 | h0
     ·have HN : Hid (TS2 B K w (some ⟨g, 0, none⟩) n cap X (tkL M ps (k + 1)) (sumM M (ps.take (k + 1))) (k + 1) cm ca cn cc mo mn mc M X2 wr) := HS.out.same HL.out.1 hkn (.inl (List.eq_nil_of_length_eq_zero (by rw [hPw.len]; exact h0)))
      subst h0
      have hd : decide ((0 : Int) < ((0 : Nat) : Int)) = false := rfl
      clear hPw hfl
      go_upto_region 12 with (fail)
      refine wp_region_held_drew (S := fun w' => True) (by kernel_rfl) trivial (fun hH => ?_)
      refine zz9 (fun w8 hW => ?_)
      have HN8 : Hid (TS2 B K w (some ⟨g, 0, none⟩) n cap X (tkL M ps (k + 1)) (sumM M (ps.take (k + 1))) (k + 1) cm ca cn cc mo mn mc M X2 w8) := by rw [hW]; exact HN.out.below (Below.refl _ _).drew
      clear HN HS; clear hW
      refine son 0 hH ?_; try simp only [nrm]
      refine son 1 hH ?_; try simp only [nrm]
      refine son 2 hH ?_; try simp only [nrm]
      refine son 3 hH ?_; try simp only [nrm]
      refine sof 4 hH ?_; try simp only [nrm]
      refine sof 5 hH ?_; try simp only [nrm]
      refine sof 6 hH ?_; try simp only [nrm]
      refine sof 7 hH ?_; try simp only [nrm]
      refine sof 8 hH ?_; try simp only [nrm]
      refine sof 9 hH ?_; try simp only [nrm]
      refine son 10 hH ?_; try simp only [nrm]
      refine wpAnyH_done (by kernel_rfl) ?_ _
      go_wp2_with fail
      go_roundw
      case rel => exact ⟨k + 1, cm, ca, cn, cc, X2, by go_num, by omega, HN8.out⟩
      case measure => simp [intOf]; omega
     ·obtain ⟨pb, po, xm, xa, xn, xc, xp, xq, xr, hpo, hpb, hc, hCn, hBd, hMl⟩ := hPw.pc.at (k := 0) (by omega)
      subst hpo; rw [Nat.zero_mul, Nat.add_zero] at hc
      obtain ⟨t, r, htr⟩ : ∃ t r, ps.getD k [] = t :: r := by cases he : ps.getD k [] with | nil => rw [he] at hPw; have := hPw.len; simp at this; omega | cons t r => exact ⟨t, r, rfl⟩
      rw [htr] at hPw hfl hCn hBd hMl
      have hCn : Cn wr xm xa xn xc t.1 := hCn
      have hBd : Bd t.1 K := hBd
      have hMl : Ml wr xp xq xr t.2 := hMl
      have hd : decide ((0 : Int) < (pn : Int)) = true := decide_eq_true (by omega)
      have HT : Hid (Cn wr xm xa xn xc t.1 ∧ Bd t.1 K ∧ Ml wr xp xq xr t.2 ∧ mayM 0 t.2 = true ∧ fall (t :: r)) := ⟨hCn, hBd, hMl, hfl.2.1, hfl⟩
      have HC := hid hc; have HPW := hid hPw; have HTR := hid htr
      have h0n : 0 < pn := by omega
      have hkp : k < ps.length := by rw [HL.out.2.1]; exact hkn
      have hft : f = true := by cases f with | true => rfl | false => have := HTOP.out.no rfl (ps.getD k []) (getD_in [] hkp); rw [HTR.out] at this; cases this
      subst hft; have hm1 := (HTOP.out.yes rfl).1
      have hpbw : pb < w.heap.size + 1 := by have := HS.out.lo _ (getD_in [] (by rw [HS.out.pl.len.1]; exact hkn)) pb (by rw [hv]; rfl); omega
      obtain ⟨z, hz⟩ : ∃ z, cmpM t.2 M = z := ⟨_, rfl⟩
      have HO : Hid (∀ W, Below wr.heap.size wr W → Calls Tryz.prog 82 #[.agg #[.bool xm, .slice xa xn xc, .slice xp xq xr], .agg #[.bool cm, .slice ca cn cc, .slice mo mn mc]] W (RetB (.int .i64 z) W)) := fun W hW => zz133 z (HT.out.2.2.1.below hW) (HS.out.ml.below hW) HT.out.2.2.2.1 hm1 hz
      have HVK : Hid (X2.getD k [] = [.slice (some ⟨pb, po, none⟩) pn pc]) := hv
      by_cases hz0 : z = 0
      ·have hd2 : decide (z = 0) = true := decide_eq_true hz0
       have hd3 : (z == 0) = true := by simpa using hz0
       have HM2 : Hid (t.2 = M) := cmpM_zero HT.out.2.2.2.1 hm1 (by rw [hz]; exact hz0)
       have HQ : Hid (sumM M (ps.take (k + 1)) = sumM M (ps.take k) + t.1) := by rw [Hid, zz182 hkp, zz179, HTR.out]; simp only [sumM, headC, if_pos HM2.out]; omega
       clear hz hz0 hm1; clear hCn hBd hMl hc hPw hfl htr
       go_upto_region 12 with (fail)
       refine wp_region_held_drew (S := (fun w' => (w'.cell? ⟨pb, po, none⟩ = some (.bool xm) ∧ w'.cell? ⟨pb, po + 1, none⟩ = some (.slice xa xn xc) ∧ w'.cell? ⟨pb, po + 2, none⟩ = some (.slice xp xq xr)) ∧ w'.cell? ⟨w.heap.size + 1, 0, none⟩ = some (.bool cm) ∧ w'.cell? ⟨w.heap.size + 1, 1, none⟩ = some (.slice ca cn cc) ∧ w'.cell? ⟨w.heap.size + 1, 2, none⟩ = some (.slice mo mn mc))) (by kernel_rfl) ⟨HC.out _ (Below.refl _ _).drew, HS.out.ld.c3⟩ (fun hH => ?_)
       refine zz9 (fun w8 hW => ?_)
       have HB8 : Hid (Below wr.heap.size wr w8) := by rw [hW]; exact (Below.refl _ _).drew
       have HN8 : Hid (TS2 B K w (some ⟨g, 0, none⟩) n cap X (tkL M ps k) (sumM M (ps.take k)) k cm ca cn cc mo mn mc M X2 w8) := by rw [hW]; exact HS.out.below (Below.refl _ _).drew
       rw [← hW] at hH; clear HS
       clear hW
       refine son 0 hH ?_; try simp only [nrm]
       refine son 1 hH ?_; try simp only [nrm]
       refine son 2 hH ?_; try simp only [nrm]
       refine son 3 hH ?_; try simp only [nrm]
       refine son 4 hH ?_; try simp only [nrm]
       refine son 5 hH ?_; try simp only [nrm]
       refine son 6 hH ?_; try simp only [nrm]
       refine son 7 hH ?_; try simp only [nrm]
       refine zz176 8 rfl (by kernel_rfl) (fun KK hK => ?_)
       go_simp; refine (HO.out _ HB8.out).mono ?_
       rintro e w9 ⟨rfl, hB⟩; have HB9 := hid (Below.steps HB8.out hB); have HN9 := hid (HN8.out.below hB); clear hB HB8 HN8 HO; go_wp2_with fail
       clear hH; refine hK.out _ _ ⟨HC.out _ HB9.out, HN9.out.ld.c3⟩ fun hH => ?_; clear hK KK
       try simp only [nrm]
       refine son 9 hH ?_; try simp only [nrm]
       refine son 10 hH ?_; try simp only [nrm]
       refine wpAnyH_done (by kernel_rfl) ?_ _
       go_wp2_with fail
       go_upto_region 13 with (fail)
       refine wp_region_held_drew (S := (fun w' => w'.cell? ⟨pb, po, none⟩ = some (.bool xm) ∧ w'.cell? ⟨pb, po + 1, none⟩ = some (.slice xa xn xc) ∧ w'.cell? ⟨pb, po + 2, none⟩ = some (.slice xp xq xr))) (by kernel_rfl) (HC.out _ HB9.out.drew) (fun hH => ?_)
       refine zz9 (fun w10 hW => ?_)
       have HB10 : Hid (Below wr.heap.size wr w10) := by rw [hW]; exact HB9.out.drew
       have HN10 : Hid (TS2 B K w (some ⟨g, 0, none⟩) n cap X (tkL M ps k) (sumM M (ps.take k)) k cm ca cn cc mo mn mc M X2 w10) := by rw [hW]; exact HN9.out.below (Below.refl _ _).drew
       rw [← hW] at hH; clear HB9 HN9
       clear hW
       refine son 0 hH ?_; try simp only [nrm]
       refine son 2 hH ?_; try simp only [nrm]
       refine son 3 hH ?_; try simp only [nrm]
       refine son 4 hH ?_; try simp only [nrm]
       refine son 5 hH ?_; try simp only [nrm]
       refine zz176 1 rfl (by kernel_rfl) (fun KK hK => ?_)
       obtain ⟨d0, d1, d2⟩ := HN10.out.ld.c3; go_simp; clear d0 d1 d2
       clear hH; refine hK.out _ _ (HC.out _ HB10.out) fun hH => ?_; clear hK KK
       try simp only [nrm]
       refine zz176 6 rfl (by kernel_rfl) (fun KK hK => ?_)
       go_simp
       refine (zz218 (HN10.out.cn.cx HN10.out.bd (by omega)).nx ((HT.out.1.below HB10.out).cx HT.out.2.1 (by omega)).nx).mono ?_
       rintro e w11 ⟨rm, ra, rn, rc, rfl, hX, hB⟩; have HB11 := hid (Below.steps HB10.out hB); have HN11 := hid (HN10.out.below hB); have HX := hid hX; clear hX hB HB10 HN10; go_wp2_with fail
       clear hH; refine hK.out _ _ (HC.out _ HB11.out) fun hH => ?_; clear hK KK
       try simp only [nrm]
       refine son 7 hH ?_; try simp only [nrm]
       refine zz176 8 rfl (by kernel_rfl) (fun KK hK => ?_)
       obtain ⟨d0, d1, d2⟩ := HN11.out.ld.c3; obtain ⟨f0, f1, f2⟩ := HN11.out.ld.f3; go_simp; clear d0 d1 d2 f0 f1 f2
       clear hH; refine hK.out _ _ (cell3_far (HC.out _ HB11.out) (Nat.ne_of_lt hpbw) _ _) fun hH => ?_; clear hK KK
       try simp only [nrm]
       refine zz9 (fun V hW => ?_)
       have HV : Hid (TS2 B K w (some ⟨g, 0, none⟩) n cap X (tkL M ps k) (sumM M (ps.take (k + 1))) (k + 1) rm ra rn rc mo mn mc M X2 V) := by rw [hW]; exact HN11.out.num hBw (by rw [HQ.out]; exact HX.out) (by rw [HQ.out]; exact HN11.out.bd.add (HT.out.2.1.mono (Nat.le_add_right K k)) (Nat.le_refl _))
       have HPV : Hid (Pw B K V (some ⟨pb, po, none⟩) pn pc (t :: r)) := by rw [← HTR.out, ← tkL_get M (by rw [HL.out.2.1]; exact hkn)]; exact HV.out.at HVK.out hkn
       clear HN11 HX HC; clear hW
       refine wpAnyH_done (by kernel_rfl) ?_ _
       by_cases hc1 : pc = 1
       ·obtain ⟨hpe, hpn⟩ := HPV.out.tailE'  hc1
        have HPE := hid hpe; clear hpe; subst hc1; have fg := HV.out.fz (k := k); obtain ⟨u0, cg⟩ := HV.out.cg hkn
        go_upto_region 15 with (fail)
        clear fg cg
        refine zz232 (fun V2 hV => ?_)
        have HE : Hid (TS2 B K w (some ⟨g, 0, none⟩) n cap X (tkL M ps (k + 1)) (sumM M (ps.take (k + 1))) (k + 1) rm ra rn rc mo mn mc M (X2.set k [.slice (some ⟨pb, po, none⟩) 0 0]) V2) := by rw [hV]; exact HV.out.put2 HL.out.1 hkn ⟨HTR.out, HM2.out⟩ (HPE.out) HT.out.2.2.2.2.2.2.2 HVK.out hgw.1 hgw.2
        clear hV HV HPV
        go_wp2
        go_roundw
        case rel => exact ⟨k + 1, rm, ra, rn, rc, _, by go_num, by omega, HE.out⟩
        case measure => simp [intOf]; omega
       ·have HPE := hid HPV.out.tailN'
        have hc2 : ¬ pc = 1 := hc1
        have fg := HV.out.fz (k := k); obtain ⟨u0, cg⟩ := HV.out.cg hkn
        go_upto_region 15 with (fail)
        clear fg cg
        refine zz232 (fun V2 hV => ?_)
        have HE : Hid (TS2 B K w (some ⟨g, 0, none⟩) n cap X (tkL M ps (k + 1)) (sumM M (ps.take (k + 1))) (k + 1) rm ra rn rc mo mn mc M (X2.set k [.slice (some ⟨pb, po + 3, none⟩) (pn - 1) (pc - 1)]) V2) := by rw [hV]; exact HV.out.put2 HL.out.1 hkn ⟨HTR.out, HM2.out⟩ (HPE.out) HT.out.2.2.2.2.2.2.2 HVK.out hgw.1 hgw.2
        clear hV HV HPV
        go_wp2
        go_roundw
        case rel => exact ⟨k + 1, rm, ra, rn, rc, _, by go_num, by omega, HE.out⟩
        case measure => simp [intOf]; omega
      ·have hd2 : decide (z = 0) = false := decide_eq_false hz0
       have hd3 : (z == 0) = false := by simpa using hz0
       have HNE : Hid (∃ t r, ps.getD k [] = t :: r ∧ t.2 ≠ M) := ⟨t, r, HTR.out, fun e => hz0 (by rw [← hz, e]; exact zz38 hm1)⟩
       clear hz hz0 hm1; clear hCn hBd hMl hc hPw hfl htr
       go_upto_region 12 with (fail)
       refine wp_region_held_drew (S := (fun w' => (w'.cell? ⟨pb, po, none⟩ = some (.bool xm) ∧ w'.cell? ⟨pb, po + 1, none⟩ = some (.slice xa xn xc) ∧ w'.cell? ⟨pb, po + 2, none⟩ = some (.slice xp xq xr)) ∧ w'.cell? ⟨w.heap.size + 1, 0, none⟩ = some (.bool cm) ∧ w'.cell? ⟨w.heap.size + 1, 1, none⟩ = some (.slice ca cn cc) ∧ w'.cell? ⟨w.heap.size + 1, 2, none⟩ = some (.slice mo mn mc))) (by kernel_rfl) ⟨HC.out _ (Below.refl _ _).drew, HS.out.ld.c3⟩ (fun hH => ?_)
       refine zz9 (fun w8 hW => ?_)
       have HB8 : Hid (Below wr.heap.size wr w8) := by rw [hW]; exact (Below.refl _ _).drew
       have HN8 : Hid (TS2 B K w (some ⟨g, 0, none⟩) n cap X (tkL M ps k) (sumM M (ps.take k)) k cm ca cn cc mo mn mc M X2 w8) := by rw [hW]; exact HS.out.below (Below.refl _ _).drew
       rw [← hW] at hH; clear HS
       clear hW
       refine son 0 hH ?_; try simp only [nrm]
       refine son 1 hH ?_; try simp only [nrm]
       refine son 2 hH ?_; try simp only [nrm]
       refine son 3 hH ?_; try simp only [nrm]
       refine son 4 hH ?_; try simp only [nrm]
       refine son 5 hH ?_; try simp only [nrm]
       refine son 6 hH ?_; try simp only [nrm]
       refine son 7 hH ?_; try simp only [nrm]
       refine zz176 8 rfl (by kernel_rfl) (fun KK hK => ?_)
       go_simp; refine (HO.out _ HB8.out).mono ?_
       rintro e w9 ⟨rfl, hB⟩; have HB9 := hid (Below.steps HB8.out hB); have HN9 := hid (HN8.out.below hB); clear hB HB8 HN8 HO; go_wp2_with fail
       clear hH; refine hK.out _ _ ⟨HC.out _ HB9.out, HN9.out.ld.c3⟩ fun hH => ?_; clear hK KK
       try simp only [nrm]
       refine son 9 hH ?_; try simp only [nrm]
       refine son 10 hH ?_; try simp only [nrm]
       refine wpAnyH_done (by kernel_rfl) ?_ _
       go_wp2_with fail; have HN10 := hid (HN9.out.same HL.out.1 hkn (.inr HNE.out))
       clear HN9
       go_roundw
       case rel => exact ⟨k + 1, cm, ca, cn, cc, X2, by go_num, by omega, HN10.out⟩
       case measure => simp [intOf]; omega
    ·obtain rfl : n = k := by omega
     have hS := HS.out
     rw [tkL_all M ps n HL.out.2.1, List.take_of_length_le (by rw [HL.out.2.1]; exact Nat.le_refl _)] at hS
     have HF := hid hS; clear hS HS; obtain ⟨d0, d1, d2⟩ := HF.out.rs.c3; obtain ⟨c0, c1, c2⟩ := HF.out.ld.c3; obtain ⟨f0, f1, f2⟩ := HF.out.rs.f3; go_wp2_with fail; clear d0 d1 d2 c0 c1 c2 f0 f1 f2
     refine zz141 (Q := bodyPost _ _ _ _ _) (fun W hW => ?_)
     have R : AtN W w.heap.size [.bool cm, .slice ca cn cc, .slice mo mn mc] 53 := by rw [hW]; exact ((HF.out.rs.set 0 _).set 1 _).set 2 _
     have HK : TakeOk B K n w so cap X ps (.returned (.tuple #[.agg #[.bool cm, .slice ca cn cc, .slice mo mn mc], .bool f])) W := by rw [hW]; exact HF.out.fin HTOP.out HLF.out hBw
     clear hW; obtain ⟨d0, d1, d2⟩ := R.c3
     exact bodyPost_ret (v := .tuple #[.agg #[.bool cm, .slice ca cn cc, .slice mo mn mc], .bool f]) (by simp [results, Tryz.results157, go_sem, d0, d1, d2]) rfl HK
def Pushed (B K : Nat) (w : World) (po : Option Addr) (pn : Nat) (p : List Term) (v : Value) (W : World) : Prop :=
 ∃ ro rc, v = .slice ro (pn + 1) rc ∧ Pw B K W ro (pn + 1) rc p ∧ w.grownBy W (blk po) ∧ (blk ro = blk po ∨ ∀ g', blk ro = some g' → w.heap.size ≤ g')
theorem newRow_pw {B K : Nat} {V : World} {g c' : Nat} {O vs Z : List Value} {X : List (List Value)} {p : List Term} {t : Term} (hA : AtN V g (O ++ vs ++ Z) 53) (hB : B ≤ g) (hX : Seg 3 O 0 X) (hE : Each 3 X) (hOl : O.length = X.length * 3) (hOc : Clean O) (hvc : Clean vs) (hZc : Clean Z) (hv3 : vs.length = 3) (hv1 : ∀ v ∈ vs, v.oneCell' = true)
  (hZl : Z.length = (c' - (X.length + 1)) * 3) (hc : X.length + 1 ≤ c') (hbig : c' ≤ maxLen) (hn : X.length < 1000000) (hT : Tms (TmC K V) X p) (ht : TmC K V vs t) : Pw B K V (some ⟨g, 0, none⟩) (X.length + 1) c' (p ++ [t]) := by
 refine ⟨X ++ [vs], ⟨.inr ⟨g, 0, O ++ vs ++ Z, rfl, hB, hA, zz30 (zz30 hOc hvc) hZc, ?_, hc, hbig, by omega, by simp, hE.append (Each.mk1 hv3 hv1), ?_⟩⟩, Tms.append hT ⟨ht, trivial⟩⟩
 ·simp only [List.length_append, hOl, hv3, hZl]; omega
 ·refine Seg.append ?_ ?_
  ·intro k hk j hj
   have : (k + 1) * 3 ≤ X.length * 3 := Nat.mul_le_mul_right _ hk
   rw [List.append_assoc, List.getElem?_append_left (by omega)]
   exact hX k hk j hj
  ·intro k hk j hj
   have hk0 : k = 0 := by simpa using hk
   subst hk0
   rw [List.append_assoc, List.getElem?_append_right (by omega), List.getElem?_append_left (by omega)]
   rw [show 0 + X.length * 3 + 0 * 3 + j - O.length = j by omega]
   rfl
theorem zz148 {B K : Nat} {po : Option Addr} {pn pc : Nat} {p : List Term} {w : World} (h : Pw B K w po pn pc p) (hB : B ≤ w.heap.size) (hn : pn < 1000000) {m : Bool} {ao : Option Addr} {n cap : Nat} {bo : Option Addr} {l cb : Nat} {t : Term} (hC : Cn w m ao n cap t.1) (hb : Bd t.1 K) (hM : Ml w bo l cb t.2) (tt ty : TypeId) :
  ∃ v W, (Builtin.append_ #[23, 23] ty #[.slice po pn pc, .slice (some ⟨w.heap.size, 0, none⟩) 1 1]).run Tryz.prog (w.alloc (.cells #[.bool m, .slice ao n cap, .slice bo l cb] tt)) = .ok v W ∧ Pushed B K w po pn (p ++ [t]) v W := by
 obtain ⟨i0, hi, hz0, hz1, hz2⟩ := info_parts Tryz.info_term; obtain ⟨vs, hvs⟩ : ∃ vs : List Value, vs = [.bool m, .slice ao n cap, .slice bo l cb] := ⟨_, rfl⟩; obtain ⟨w1, hw1⟩ : ∃ w1, w1 = w.alloc (.cells #[.bool m, .slice ao n cap, .slice bo l cb] tt) := ⟨_, rfl⟩
 have hA1 : AtN w1 w.heap.size vs tt := by rw [hw1, hvs]; exact AtN.new w _ tt
 have hB1 : Below w.heap.size w w1 := by rw [hw1]; exact zz13 _ _
 have hs1 : w1.heap.size = w.heap.size + 1 := by rw [hw1]; simp
 rw [← hw1]
 have hvc : Clean vs := by rw [hvs]; exact clean3 _ _ _ _ _ _ _
 have hv1 : ∀ v ∈ vs, v.oneCell' = true := by rw [hvs]; intro v hv; simp at hv; rcases hv with rfl | rfl | rfl <;> rfl
 have hv3 : vs.length = 3 := by rw [hvs]; rfl
 have ht1 : TmC K w1 vs t := ⟨m, ao, n, cap, bo, l, cb, hvs, hC.below hB1, hb, hM.below hB1⟩
 have hnews : ∀ j v, vs[j]? = some v → w1.cell? ((⟨w.heap.size, 0, none⟩ : Addr).add j) = some v := fun j v hj => by rw [Addr.add_lit, hA1.cell, Nat.zero_add, hj]
 clear hC hM hw1 hvs; obtain ⟨X, hR, hT⟩ := h; have hT1 := zz189 hT hB1
 have hnl : vs.length = 1 * i0.size := by rw [hz1, hv3]
 rcases hR.ex with ⟨rfl, rfl, rfl, rfl⟩ | ⟨g, off, L, rfl, hBg, hA, hCl, hroom, hnc, hbig, hn42, hX, hE, hS⟩
 ·have hr := run_append_nil (P := Tryz.prog) w1 23 ty 53 i0 _ Tryz.underlying23 hi hz0 ⟨w.heap.size, 0, none⟩ 1 1 vs hnl hnews (by omega) (by omega) (by rw [hz2]; omega)
  obtain ⟨c', hc'⟩ : ∃ c', c' = grownCap w1 1 0 53 := ⟨_, rfl⟩
  have hge : 1 ≤ c' := by rw [hc']; exact grownCap_ge _ _ _ _
  have hle : c' ≤ maxLen := by rw [hc']; exact grownCap_le_maxLen _ _ _ _ (by unfold maxLen; omega)
  rw [← hc'] at hr; obtain ⟨Z, hZ⟩ : ∃ Z, Z = (Builtin.zeroCells (Value.agg #[.bool false, .slice none 0 0, .slice none 0 0]).cells (c' - 1)).toList := ⟨_, rfl⟩
  have hZc : Clean Z := by rw [hZ]; exact zz126 _
  have hZl : Z.length = (c' - 1) * 3 := by rw [hZ]; exact zz238 _
  have hMe : vs.toArray ++ Builtin.zeroCells (Value.agg #[.bool false, .slice none 0 0, .slice none 0 0]).cells (c' - 1) = ([] ++ vs ++ Z).toArray := by
   apply Array.ext'
   rw [hZ]
   simp
  rw [hMe] at hr
  have hBV : Below w1.heap.size w1 (w1.drew.alloc (.cells ([] ++ vs ++ Z).toArray 53)) := (Below.refl _ w1).drew.alloc (Nat.le_refl _) _
  refine ⟨_, _, hr, some ⟨w1.heap.size, 0, none⟩, c', rfl, newRow_pw (O := []) (X := []) (AtN.new _ _ _) (by omega) (Seg.nil _ _ _) (fun _ h => by cases h) rfl (fun _ h => by cases h) hvc hZc hv3 hv1 hZl hge hle (by simp) (zz189 hT1 hBV) (ht1.below hBV), zz73 _ ((Below.steps hB1 hBV)), .inr fun g' e => by have e' : w1.heap.size = g' := Option.some.inj e; omega⟩
 ·by_cases hr : pn + 1 ≤ pc
  ·have hlt : off + (pn + 1) * 3 ≤ L.length := Nat.le_trans (Nat.add_le_add_left (Nat.mul_le_mul_right _ hr) _) hroom
   have hAw := hA.below hB1
   have hrun := run_append_in (P := Tryz.prog) w1 23 ty 53 i0 Tryz.underlying23 hi g off pn pc ⟨w.heap.size, 0, none⟩ 1 1 vs hnl hnews hv1 hr (fun j hj => by
     rw [hAw.cell, hz1, List.getElem?_eq_getElem (by omega)]; rfl) (fun j hj => hAw.fz _)
   rw [hz1] at hrun; have hG := zz79 g vs w1 (off + pn * 3)
   have hcb := hAw.cleanB hCl
   refine ⟨_, _, hrun, some ⟨g, off, none⟩, pc, rfl, ⟨X ++ [vs], ⟨.inr ⟨g, off, putL L (off + pn * 3) vs, rfl, hBg, hAw.put vs _, zz31 _ _ _ hCl hvc, by rw [zz150]; exact hroom, hr, hbig, by omega, by simp [hX], hE.append (Each.mk1 hv3 hv1), ?_⟩⟩, Tms.append (zz191 hT1 hcb hG) ⟨ht1.staysC hcb hG, trivial⟩⟩, ?_, .inl rfl⟩
   ·refine Seg.append (hS.far (.inr (by rw [hX]; omega))) ?_
    rw [hX]
    have := Seg.here (L := L) (o := off + pn * 3) (X := [vs]) (Each.mk1 hv3 hv1) (by simp; omega)
    simpa using this
   ·exact zz80 (zz73 _ hB1) hG
  ·obtain rfl : pn = pc := by omega
   obtain ⟨O, hO⟩ : ∃ O, O = (L.drop off).take (pn * 3) := ⟨_, rfl⟩
   have hOl : O.length = pn * 3 := by rw [hO, List.length_take, List.length_drop]; omega
   have hOg : ∀ j, j < pn * 3 → O[j]? = L[off + j]? := fun j hj => by rw [hO, List.getElem?_take, if_pos hj, List.getElem?_drop]
   have hAw := hA.below hB1
   have hr := run_append_grow (P := Tryz.prog) w1 23 ty 53 i0 _ Tryz.underlying23 hi hz0 ⟨g, off, none⟩ pn pn O (by rw [hOl, hz1]) (fun j v hj => by
     have hj2 : j < pn * 3 := by rw [← hOl]; exact (List.getElem?_eq_some_iff.1 hj).1
     rw [Addr.add_lit, hAw.cell, ← hOg j hj2, hj]) ⟨w.heap.size, 0, none⟩ 1 1 vs hnl hnews (by omega) (by omega) (by rw [hz2]; exact growslice_fits (by omega) (by omega))
   obtain ⟨c', hc'⟩ : ∃ c', c' = grownCap w1 (pn + 1) pn 53 := ⟨_, rfl⟩
   have hge : pn + 1 ≤ c' := by rw [hc']; exact grownCap_ge _ _ _ _
   have hle : c' ≤ maxLen := by rw [hc']; exact grownCap_le_maxLen _ _ _ _ (by unfold maxLen; omega)
   rw [← hc'] at hr; obtain ⟨Z, hZ⟩ : ∃ Z, Z = (Builtin.zeroCells (Value.agg #[.bool false, .slice none 0 0, .slice none 0 0]).cells (c' - (pn + 1))).toList := ⟨_, rfl⟩
   have hZc : Clean Z := by rw [hZ]; exact zz126 _
   have hZl : Z.length = (c' - (pn + 1)) * 3 := by rw [hZ]; exact zz238 _
   have hOc : Clean O := fun u hu => hCl u (List.mem_of_mem_drop (List.mem_of_mem_take (hO ▸ hu)))
   have hMe : O.toArray ++ vs.toArray ++ Builtin.zeroCells (Value.agg #[.bool false, .slice none 0 0, .slice none 0 0]).cells (c' - (pn + 1)) = (O ++ vs ++ Z).toArray := by
    apply Array.ext'
    rw [hZ]
    simp
   rw [hMe] at hr
   have hMS : Seg 3 O 0 X := fun t ht j hj => by
    have : (t + 1) * 3 ≤ pn * 3 := Nat.mul_le_mul_right _ (by omega)
    rw [Nat.zero_add, hOg _ (by omega), ← hS t ht j hj, Nat.add_assoc]
   have hBV : Below w1.heap.size w1 (w1.drew.alloc (.cells (O ++ vs ++ Z).toArray 53)) := (Below.refl _ w1).drew.alloc (Nat.le_refl _) _
   refine ⟨_, _, hr, some ⟨w1.heap.size, 0, none⟩, c', rfl, ?_, zz73 _ (Below.steps hB1 hBV), .inr fun g' e => by have e' : w1.heap.size = g' := Option.some.inj e; omega⟩
   have := newRow_pw (B := B) (p := p) (AtN.new w1.drew (O ++ vs ++ Z) 53) (by show B ≤ w1.heap.size; omega) hMS hE (by rw [hOl, hX]) hOc hvc hZc hv3 hv1 (by rw [hX]; exact hZl) (by rw [hX]; exact hge) hle (by rw [hX]; exact hn) (zz189 hT1 hBV) (ht1.below hBV)
   rw [hX] at this
   exact this
theorem clonePoly_any {K : Nat} {ao : Option Addr} {n cap : Nat} {p : List Term} {w : World} (h : Pc K w ao n cap p) (hn : n ≤ 1000000) :
  Calls Tryz.prog 156 #[.slice ao n cap] w (NewPw K w p) := by
 have q1 : ∀ (w : World) (a : Option Addr) (n c n' c' : Nat), (binOp .eql 23 (.slice a n c) (.slice none n' c')).run Tryz.prog w = .ok (.bool a.isNone) w := fun w a n c n' c' => Lib.run_eql_slice_nil w _ _ a n c n' c' Tryz.underlying23
 obtain ⟨i0, hi, hz0, hz1, hz2⟩ := info_parts Tryz.info_term
 cases ao with
 | none =>
  obtain ⟨vss, hG, hT⟩ := h.ex; have h1 := hG.nil rfl; have h2 := hG.le
  obtain rfl : n = 0 := by omega
  have hp : p = [] := List.eq_nil_of_length_eq_zero h.len
  have HP : Hid (p = []) := hp
  clear h h1 h2 hp hG hT
  go_enter Tryz.func156, Tryz.ntmps156
  go_wp2
  go_ret
  exact ⟨none, 0, 0, rfl, by rw [HP.out]; exact Pw.zero _ _ _, Below.refl _ _⟩
 | some ad =>
  obtain ⟨vss, hG, hT⟩ := h.ex
  have hcn : ∀ u ∈ vss.flatten, notInt u = true := fun u hu => by
   obtain ⟨v, hv, huv⟩ := List.mem_flatten.1 hu; obtain ⟨i, hi2, rfl⟩ := List.mem_iff_getElem.1 hv
   obtain ⟨xm, xa, xn, xc, xp, xq, xr, e, _⟩ := Tms.get (0, []) hT i (by rw [← hT.len]; exact hi2)
   rw [getD_of [] hi2] at e
   rw [e] at huv
   simp at huv
   rcases huv with rfl | rfl | rfl <;> rfl
  have HG := Lib.hid hG; have HT := Lib.hid hT; clear h hG hT
  go_enter Tryz.func156, Tryz.ntmps156
  go_wp2_with (at_builtin; refine wpList_dupG w w rfl (.tmp 5) (.tmp 6) 23 rfl w.heap.size 53 3 56 i0 (.agg #[.bool false, .slice none 0 0, .slice none 0 0]) Tryz.underlying23 hi hz0 hz1 hz2 rfl (by omega) rfl _ _ _ _ rfl HG.out (Below.refl _ _) (Nat.le_refl _) (by omega) (by intro u hu; simp [Value.cells] at hu; rcases hu with rfl | rfl | rfl <;> rfl) hcn ?_; intro mo cm w1 hM hB _; have HM := Lib.hid hM; have HB := Lib.hid hB; clear hM hB HG hi hz0 hz1 hz2)
  go_ret
  exact ⟨_, _, _, rfl, ⟨vss, HM.out.rw, zz189 HT.out HB.out⟩, HB.out⟩
theorem least_ex {P : Nat → Prop} : ∀ k, P k → ∃ m, P m ∧ ∀ j, P j → m ≤ j := by
 intro k
 induction k using Nat.strongRecOn with
 | ind k ih =>
  intro hk
  by_cases h : ∃ j, P j ∧ j < k
  ·obtain ⟨j, hj, hlt⟩ := h
   exact ih j hlt hj
  ·exact ⟨k, hk, fun j hj => Nat.le_of_not_lt fun hlt => h ⟨j, hj, hlt⟩⟩
open Classical in
noncomputable def leastN (P : Nat → Prop) : Nat := if h : ∃ m, P m ∧ ∀ j, P j → m ≤ j then Classical.choose h else 0
theorem zz97 {P : Nat → Prop} {k : Nat} (h : P k) : P (leastN P) ∧ ∀ j, P j → leastN P ≤ j := by
 have he := least_ex k h
 unfold leastN
 rw [dif_pos he]
 exact Classical.choose_spec he
def partT (a b : Term) (room : List (Int × Int)) : Term × Bool :=
 ((( exactT a.1 b.1).1, (joinR (fun x y => x - y) 5 a.2 b.2).1), ((exactT a.1 b.1).2 == 0) && ((joinR (fun x y => x - y) 5 a.2 b.2).2 == 0) && ((joinR (fun x y => x - y) 5 room (joinR (fun x y => x - y) 5 a.2 b.2).1).2 == 0))
def divT (q0 : Term) (qr : List Term) (room : List (Int × Int)) : Nat → List Term → List Term → Option (List Term × Bool)
 | 0, _, _ => none
 | _ + 1, [], P => some (P, true)
 | f + 1, a :: R, P => if (partT a q0 room).2 = true then divT q0 qr room f (addT R (rowT qr (-(partT a q0 room).1.1, (partT a q0 room).1.2))) (P ++ [(partT a q0 room).1]) else some ([], false)
theorem zz55 {a b : List (Int × Int)} (ha : mayM 0 a = true) (hb : mayM 0 b = true) (h : (joinR (fun x y => x - y) 5 a b).2 = 0) : mayM 0 (joinR (fun x y => x - y) 5 a b).1 = true ∧ ∀ v, expo (joinR (fun x y => x - y) 5 a b).1 v = expo a v - expo b v := by
 unfold joinR at h ⊢
 rw [if_pos ⟨ha, hb⟩] at h ⊢
 cases hm : mayM 0 (joinL (fun x y => x - y) a b) with
 | false => simp [hm] at h
 | true =>
  simp only [if_true]
  exact ⟨hm, fun v => zz87 (f := fun x y => x - y) (by rfl) ha hb v⟩
theorem part_fits {a b : Term} {room : List (Int × Int)} (ha : mayM 0 a.2 = true) (hb : mayM 0 b.2 = true) (hr : mayM 0 room = true) (h : (partT a b room).2 = true) :
  a.1.tmod b.1 = 0 ∧ (partT a b room).1.1 = a.1.tdiv b.1 ∧ mayM 0 (partT a b room).1.2 = true ∧ mulM b.2 (partT a b room).1.2 = a.2 ∧ ∀ v, expo (partT a b room).1.2 v ≤ expo room v := by
 unfold partT at h ⊢
 simp only [Bool.and_eq_true, beq_iff_eq] at h
 obtain ⟨⟨h1, h2⟩, h3⟩ := h; have e1 := zz55 ha hb h2; have e2 := zz55 hr e1.1 h3
 have h4 : a.1.tmod b.1 = 0 := by
  unfold exactT at h1
  by_cases h : a.1.tmod b.1 = 0
  ·exact h
  ·rw [if_neg h] at h1; cases h1
 refine ⟨h4, by unfold exactT; rw [if_pos h4], e1.1, ?_, fun v => ?_⟩
 ·have hx : ∀ v, expo (mulM b.2 (joinR (fun x y => x - y) 5 a.2 b.2).1) v = expo a.2 v := fun v => by
   have := zz87 (f := fun x y => x + y) (by rfl) hb e1.1 v
   rw [show mulM b.2 (joinR (fun x y => x - y) 5 a.2 b.2).1 = joinL (fun x y => x + y) b.2 (joinR (fun x y => x - y) 5 a.2 b.2).1 from rfl, this, e1.2 v]
   omega
  have hm : mayM 0 (mulM b.2 (joinR (fun x y => x - y) 5 a.2 b.2).1) = true := by
   rw [zz112 hb e1.1]
   intro v
   have := may_bd ha v
   rw [e1.2 v]
   omega
  exact zz113 hm ha hx
 ·have := may_bd e2.1 v
  rw [e2.2 v] at this
  dsimp only
  omega
theorem ev_flat (ρ : Nat → Int) : ∀ ps : List (List Term), ev ps.flatten ρ = evs ps ρ
 | [] => by simp [ev, evs]
 | p :: ps => by rw [List.flatten_cons, zz51, ev_flat ρ ps]; rfl
theorem rest_lead {R : List Term} {ps' : List (List Term)} {c : Int} {M : List (Int × Int)} (hR : fall R) (hps : ∀ p ∈ ps', fall p) (hM : mayM 0 M = true) (hlt : ∀ p ∈ ps', ∀ s ∈ p, gtM M s.2) (hv : ∀ ρ, ev R ρ = c * evM M ρ + evs ps' ρ) :
  (c = 0 → ∀ ρ, ev R ρ = evs ps' ρ) ∧ (c ≠ 0 → ∃ R', R = (c, M) :: R' ∧ fall R' ∧ ∀ ρ, ev R' ρ = evs ps' ρ) := by
 refine ⟨fun h ρ => by rw [hv, h]; omega, fun h => ?_⟩
 have hm : mays ps'.flatten := fun s hs => by
  obtain ⟨p, hp, hsp⟩ := List.mem_flatten.1 hs
  exact zz58 (hps p hp) s hsp
 have hs := zz128 hm
 refine ⟨ofT ps'.flatten, ?_, hs.1, fun ρ => by rw [hs.2, ev_flat]⟩
 have hf : fall ((c, M) :: ofT ps'.flatten) := by
  refine ⟨h, hM, fun s hs2 => ?_, hs.1⟩
  have h1 := cf_fall hs.1 s hs2
  have h2 : cf ps'.flatten s.2 ≠ 0 := by
   rw [← cf_ofT s.2 hm, h1]
   exact fall_nz hs.1 s hs2
  obtain ⟨t, ht, e⟩ := cf_mem h2; obtain ⟨p, hp, htp⟩ := List.mem_flatten.1 ht; rw [← e]
  exact hlt p hp t htp
 exact zz57 hR hf fun ρ => by simp only [ev]; rw [hs.2, ev_flat, hv]
theorem rest_nil {R : List Term} {ps : List (List Term)} (hR : fall R) (hps : ∀ p ∈ ps, p = []) (hv : ∀ ρ, ev R ρ = evs ps ρ) : R = [] := by
 refine zz57 hR trivial fun ρ => ?_
 rw [hv]
 have : ∀ l : List (List Term), (∀ p ∈ l, p = []) → evs l ρ = 0 := fun l => by
  induction l with
  | nil => intro _; rfl
  | cons p l ih => intro h; simp only [evs]; rw [h p (by simp), ih fun p hp => h p (by simp [hp])]; rfl
 rw [this ps hps]
 rfl
open Lib (hid)
def OffP (X : List (List Value)) (gd : Nat → Prop) : Prop := ∀ g, gd g → ∀ vs ∈ X, blkV vs ≠ some g
structure Fr (gd : Nat → Prop) (w V : World) : Prop where
 ints : ∀ (ad : Addr) (k : IntKind) (x : Int), w.cell? ad = some (.int k x) → V.cell? ad = some (.int k x)
 row : ∀ g, gd g → V.heap[g]? = w.heap[g]?
theorem Fr.refl (gd : Nat → Prop) (w : World) : Fr gd w w := ⟨fun _ _ _ h => h, fun _ _ => rfl⟩
theorem Fr.trans {gd : Nat → Prop} {w V W : World} (h : Fr gd w V) (k : Fr gd V W) : Fr gd w W := ⟨fun ad i x hc => k.ints ad i x (h.ints ad i x hc), fun g hg => (k.row g hg).trans (h.row g hg)⟩
theorem Fr.step {gd : Nat → Prop} {w V : World} {row : Option Nat} (hG : w.grownBy V row) (hn : ∀ r, row = some r → NoInt w r) (hd : ∀ g, gd g → row ≠ some g ∧ g < w.heap.size) : Fr gd w V :=
 ⟨fun ad k x hc => hG.cell hc fun e => hn ad.block e.symm ad k x hc rfl, fun g hg => hG.block g (hd g hg).2 fun e => (hd g hg).1 e.symm⟩
theorem Fr.below {gd : Nat → Prop} {w V : World} (hB : Below w.heap.size w V) (hd : ∀ g, gd g → g < w.heap.size) : Fr gd w V :=
 Fr.step (zz73 none hB) (fun _ e => by cases e) (fun g hg => ⟨by simp, hd g hg⟩)
theorem Cn.fr {gd : Nat → Prop} {w V : World} (hF : Fr gd w V) {m : Bool} {ao : Option Addr} {n cap : Nat} {z : Int} (h : Cn w m ao n cap z) : Cn V m ao n cap z :=
 ⟨h.neg, h.sl.len, h.sl.le, h.sl.big, h.sl.wf, h.sl.nil, fun ad had t ht => hF.ints _ _ _ (h.sl.cells ad had t ht)⟩
theorem Ml.fr {gd : Nat → Prop} {w V : World} (hF : Fr gd w V) {ao : Option Addr} {n cap : Nat} {ps : List (Int × Int)} (h : Ml w ao n cap ps) : Ml V ao n cap ps :=
 ⟨h.len, h.le, h.big, h.wf, h.nil, fun ad had t ht => ⟨hF.ints _ _ _ (h.cells ad had t ht).1, hF.ints _ _ _ (h.cells ad had t ht).2⟩⟩
theorem TmC.fr {gd : Nat → Prop} {w V : World} (hF : Fr gd w V) {K : Nat} {vs : List Value} {t : Term} (h : TmC K w vs t) : TmC K V vs t := by
 obtain ⟨m, ao, n, cap, bo, k, cb, h1, h2, h3, h4⟩ := h
 exact ⟨m, ao, n, cap, bo, k, cb, h1, h2.fr hF, h3, h4.fr hF⟩
theorem Pw.fr {B K : Nat} {w V : World} {ao : Option Addr} {n cap : Nat} {p : List Term} (h : Pw B K w ao n cap p) {gd : Nat → Prop} (hF : Fr gd w V) (hg : ∀ g, blk ao = some g → gd g) : Pw B K V ao n cap p := by
 obtain ⟨X, h1, h2⟩ := h
 exact ⟨X, h1.keep fun a ha => hF.row a.block (hg _ (by rw [ha]; rfl)), h2.imp fun _ _ h => h.fr hF⟩
structure WFr (gd : Nat → Prop) (w : World) (so po : Option Addr) (X : List (List Value)) (V : World) : Prop where
 fr : Fr gd w V
 ox : OffP X gd
 op : ∀ g, gd g → blk po ≠ some g
 os : ∀ g, gd g → blk so ≠ some g
 lt : ∀ g, gd g → g < V.heap.size
theorem WFr.pop {gd : Nat → Prop} {w : World} {so po : Option Addr} {X : List (List Value)} {V V2 : World} (h : WFr gd w so po X V) {k : Nat} {lo : Option Addr} {ln lc : Nat} (hv : X.getD k [] = [.slice lo ln lc]) (hk : k < X.length) (hn : ∀ g, blk lo = some g → NoInt V g) {ro : Option Addr} (hG : V.grownBy V2 (blk lo)) (hb : blk ro = blk lo ∨ ∀ g', blk ro = some g' → V.heap.size ≤ g') : WFr gd w so ro (X.take k) V2 := by
 have hlo : ∀ g, gd g → blk lo ≠ some g := fun g hg e => h.ox g hg (X.getD k []) (getD_in [] hk) (by rw [hv]; exact e)
 refine ⟨h.fr.trans (Fr.step hG hn fun g hg => ⟨hlo g hg, h.lt g hg⟩), fun g hg v hvm => h.ox g hg v (List.mem_of_mem_take hvm), fun g hg e => ?_, h.os, fun g hg => Nat.lt_of_lt_of_le (h.lt g hg) hG.size⟩
 rcases hb with h1 | h1
 ·exact hlo g hg (h1 ▸ e)
 ·have := h1 g e
  have := h.lt g hg
  omega
theorem WFr.fin {gd : Nat → Prop} {w : World} {so po : Option Addr} {X : List (List Value)} {V V3 : World} (h : WFr gd w so po X V) {pn pc : Nat} {T : TypeId} (hn : ∀ r, blk so = some r → NoInt (V.alloc (.cells [Value.slice po pn pc].toArray T)) r) (hG : (V.alloc (.cells [Value.slice po pn pc].toArray T)).grownBy V3 (blk so)) : OffP (X ++ [[.slice po pn pc]]) gd ∧ Fr gd w V3 := by
 have hA := zz13 V (.cells [Value.slice po pn pc].toArray T)
 refine ⟨fun g hg v hv e => ?_, h.fr.trans ((Fr.below hA h.lt).trans (Fr.step hG hn fun g hg => ⟨h.os g hg, Nat.lt_of_lt_of_le (h.lt g hg) hA.size⟩))⟩
 rcases List.mem_append.1 hv with hv | hv
 ·exact h.ox g hg v hv e
 ·simp at hv
  subst hv
  exact h.op g hg e
def WithFr (B K n : Nat) (w : World) (ps : List (List Term)) (p : List Term) (gd : Nat → Prop) (e : Ending) (V : World) : Prop :=
 ∃ so n' cap' X' ps' K', e = .returned (.slice so n' cap') ∧ Pile B K' V so n' cap' X' ps' ∧ K' + n' ≤ K + n + 1 ∧ n' ≤ n + 1 ∧ (∀ ρ, evs ps' ρ = evs ps ρ + ev p ρ) ∧ lens ps' ≤ lens ps + p.length ∧ Below B w V ∧ OffP X' gd ∧ Fr gd w V
theorem WSt.finF {B K0 n0 : Nat} {w : World} {ps0 : List (List Term)} {p0 : List Term} {K : Nat} {so : Option Addr} {n cap : Nat} {po : Option Addr} {pn pc : Nat} {X : List (List Value)} {ps : List (List Term)} {p : List Term} {V : World} (h : WSt B K0 n0 w ps0 p0 K so n cap po pn pc X ps p V) {ao : Option Addr} {c : Nat} {V3 : World} {T : TypeId}
  {gd : Nat → Prop} (hF : WFr gd w so po X V) (hO : Go1 B 23 1 V3 ao (n + 1) c (X ++ [[.slice po pn pc]])) (hB : Below B w V3) (hG : (V.alloc (.cells [Value.slice po pn pc].toArray T)).grownBy V3 (Value.slice so n cap).ownBlock) : WithFr B K0 n0 w ps0 p0 gd (.returned (.slice ao (n + 1) c)) V3 := by
 have hA := zz13 V (.cells [Value.slice po pn pc].toArray T); have h1 := h.pl.below hA; have h2 := h.pw.below hA
 have e : (Value.slice so n cap).ownBlock = blk so := blk_own so n cap
 rw [e] at hG; have hn := h1.noInt
 have hm : Tms (PlE B K (V.alloc (.cells [Value.slice po pn pc].toArray T))) (X ++ [[.slice po pn pc]]) (ps ++ [p]) := Tms.append h1.mem ⟨⟨po, pn, pc, rfl, h2, h.fl⟩, trivial⟩
 refine ⟨ao, n + 1, c, X ++ [[.slice po pn pc]], ps ++ [p], K, rfl, ⟨hO, zz138 hG hn hm (h1.offRow hm), ?_⟩, by have := h.kn; omega, by have := h.nn; omega, fun ρ => ?_, ?_, hB, hF.fin hn hG⟩
 ·refine List.pairwise_append.2 ⟨h.pl.apart, List.pairwise_singleton _ _, fun a ha b hb => ?_⟩
  simp at hb
  subst hb
  intro g hg hg2
  exact h.off g hg2 a ha hg
 ·rw [zz53, ← h.vs]; simp [evs]
 ·rw [zz99]; have := h.ln; simp only [lens]; omega
theorem with_fr {B K : Nat} {so : Option Addr} {n cap : Nat} {X : List (List Value)} {ps : List (List Term)} {po : Option Addr} {pn pc : Nat} {p : List Term} {w : World} (hs : Pile B K w so n cap X ps) (hp : Pw B K w po pn pc p) (hfp : fall p) (hoff : Off X (blk po)) (hM : lens ps + p.length ≤ 1000000) (hK : K + n ≤ 900000) (hBw : B ≤ w.heap.size) (gd : Nat → Prop) (hgx : OffP X gd) (hgp : ∀ g, gd g → blk po ≠ some g) (hgs : ∀ g, gd g → blk so ≠ some g) (hgl : ∀ g, gd g → g < w.heap.size) :
  Calls Tryz.prog 137 #[.slice so n cap, .slice po pn pc] w (WithFr B K n w ps p gd) := by
 obtain ⟨i0, hi, hz0, hz1, hz2⟩ := info_parts Tryz.info_poly
 have HS0 : Hid (WSt B K n w ps p K so n cap po pn pc X ps p w ∧ WFr gd w so po X w) := ⟨⟨hs, hp, hfp, hoff, fun _ => rfl, Nat.le_refl _, Nat.le_refl _, Nat.le_refl _, Below.refl _ _, hBw⟩, Fr.refl _ _, hgx, hgp, hgs, hgl⟩
 have HM := hid hM; clear hs hp hfp hoff hM hgx hgp hgs hgl
 go_enter Tryz.func137, Tryz.ntmps137
 go_wp2
 go_loopw [0, 1] (fun s0 s1 wr => ∃ (K2 : Nat) (so : Option Addr) (n2 cap2 : Nat) (po : Option Addr) (pn pc : Nat) (X2 : List (List Value)) (ps2 : List (List Term)) (p2 : List Term), s0 = .slice so n2 cap2 ∧ s1 = .slice po pn pc ∧ Hid (WSt B K n w ps p K2 so n2 cap2 po pn pc X2 ps2 p2 wr ∧ WFr gd w so po X2 wr)) (fun s0 _ _ => lenV s0)
 case atStart => exact ⟨K, so, n, cap, po, pn, pc, X, ps, p, rfl, rfl, HS0.out⟩
 case round =>
  clear HS0; obtain ⟨K2, so, n2, cap2, po, pn, pc, X2, ps2, p2, rfl, rfl, HS⟩ := hrel; have hkn := HS.out.1.kn; have hcap := HS.out.1.pl.row.gl.le
  by_cases h0 : n2 = 0
  ·subst h0
   have hd : decide ((0 : Int) < 0) = false := rfl
   go_wp2_with (at_builtin; refine zz228 wr w rfl (.tmp 34) (.tmp 36) 147 rfl B 23 1 24 i0 (.slice none 0 0) Tryz.underlying147 hi hz0 hz1 hz2 rfl (by omega) so 0 cap2 X2 rfl HS.out.1.pl.row [.slice po pn pc] rfl (by simp [Value.oneCell']) (by simp [Value.cells, notInt]) (by simp [notInt]) _ rfl HS.out.1.bw HS.out.1.bz (by omega) (by omega) ?_; intro o3 cp3 w3 hO hB3 hG3; have HR := hid (HS.out.1.finF HS.out.2 hO hB3 hG3); clear hO hB3 hG3 hi hz0 hz1 hz2)
   go_ret
   exact HR.out
  ·obtain ⟨k, rfl⟩ : ∃ k, n2 = k + 1 := ⟨n2 - 1, by omega⟩
   clear h0
   obtain ⟨g, rfl, hgl, lo, ln, lc, hv, hc, hl, hfl⟩ := HS.out.1.pl.get (k := k) (by omega)
   have hd : decide ((0 : Int) < ((k + 1 : Nat) : Int)) = true := decide_eq_true (by omega)
   have e1 : ((k + 1 : Nat) : Int) = (k : Int) + 1 := by omega
   have hd' : decide ((0 : Int) < (k : Int) + 1) = true := decide_eq_true (by omega)
   have hw : IntKind.i64.wrap (k : Int) = (k : Int) := IntWalk.i64_in _ ⟨by omega, by omega⟩
   have hk1 : k < k + 1 := by omega
   have hpl := HS.out.1.pw.len; have hln := HS.out.1.ln; have hM2 := HM.out
   have hpn : pn ≤ 1000000 := by omega
   have hlen2 : ln + pn ≤ 1000000 := by
    have hL := HS.out.1.pl.len
    have hpe : ps2 = ps2.take k ++ [ps2.getD k []] := by
     conv => lhs; rw [← List.take_length (l := ps2), hL.2, List.take_succ_eq_append_getElem (by omega), ← getD_of [] (by omega)]
    rw [hpe, zz99] at hln
    simp only [lens] at hln
    have := hl.len
    omega
   have hwp : IntKind.i64.wrap (2 * (pn : Int)) = 2 * (pn : Int) := IntWalk.i64_in _ ⟨by omega, by omega⟩
   have HV := hid (And.intro hv (And.intro hl hfl)); clear hv hl hfl hpl hln hM2
   by_cases hb : (ln : Int) ≤ 2 * (pn : Int)
   ·have hd2 : decide ((ln : Int) ≤ 2 * (pn : Int)) = true := decide_eq_true hb
    clear hb; obtain ⟨r, hr⟩ : ∃ r, r = addT (ps2.getD k []) p2 := ⟨_, rfl⟩; have hsp := zz3 HV.out.2.2 (zz59 HS.out.1.fl); rw [← hr] at hsp
    have hne : ∀ g, blk lo = some g → blk po ≠ some g := fun g hg e => by
     have hmem : X2.getD k [] ∈ X2 := getD_in [] (by rw [HS.out.1.pl.len.1]; omega)
     exact HS.out.1.off g e _ hmem (by rw [HV.out.1]; exact hg)
    have HC := hid (zz85 HV.out.2.1 HS.out.1.pw.pc hlen2 (by omega) hne HS.out.1.bz HV.out.2.2 HS.out.1.fl hsp.1 hsp.2)
    have hlr := zz88 (f := fun x y => x + y) (σ := 1) (fun x y => by omega) HV.out.2.2 HS.out.1.fl hsp.1 (fun ρ => by rw [hsp.2]; omega)
    have HLR := hid (And.intro hsp (And.intro hlr trivial)); clear hsp hr hne hlr; go_wp2_with fail
    refine HC.out.mono ?_
    rintro e V2 ⟨ro, rn, rc, rfl, h1, h2, h3⟩
    have HS2 := hid (And.intro (HS.out.1.pop HV.out.1 HV.out.2.1 h1 HLR.out.1.1 HLR.out.1.2 HLR.out.2.1 h2 h3) (HS.out.2.pop HV.out.1 (by rw [HS.out.1.pl.len.1]; omega) HV.out.2.1.noInt h2 h3))
    clear h1 h2 h3 HC HV HLR
    go_wp2
    go_roundw
    case rel => exact ⟨K2 + 1, _, k, cap2, ro, rn, rc, _, _, r, rfl, rfl, HS2.out⟩
    case measure => simp [lenV]
   ·have hd2 : decide ((ln : Int) ≤ 2 * (pn : Int)) = false := decide_eq_false hb
    clear hb HV
    go_wp2_with (at_builtin; refine zz228 wr w rfl (.tmp 34) (.tmp 36) 147 rfl B 23 1 24 i0 (.slice none 0 0) Tryz.underlying147 hi hz0 hz1 hz2 rfl (by omega) (some ⟨g, 0, none⟩) (k + 1) cap2 X2 rfl HS.out.1.pl.row [.slice po pn pc] rfl (by simp [Value.oneCell']) (by simp [Value.cells, notInt]) (by simp [notInt]) _ rfl HS.out.1.bw HS.out.1.bz (by omega) (by omega) ?_; intro o3 cp3 w3 hO hB3 hG3; have HR := hid (HS.out.1.finF HS.out.2 hO hB3 hG3); clear hO hB3 hG3 hi hz0 hz1 hz2)
    go_ret
    exact HR.out
end Go.Proofs.YtmbgljjfmbhelaaGreat

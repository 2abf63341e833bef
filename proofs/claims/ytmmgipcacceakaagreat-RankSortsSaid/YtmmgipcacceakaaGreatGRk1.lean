/- RkP, RkA, RkB, RkC, RkD -/
import Derived.Test.YtmmgipcacceakaaGreatGPa
import Derived.Test.YtmmgipcacceakaaGreatVLp
set_option maxHeartbeats 40000000
set_option maxRecDepth 100000
namespace Go.Proofs.YtmmgipcacceakaaGreat
open Go.RowKit
def rkP (p : List Term) : Int × Int := (clsP p, degP p (clsP p))
def cmpI (a b : Int) : Int := if a < b then -1 else if b < a then 1 else 0
def cmpRk (a b : Int × Int) : Int := if cmpI a.1 b.1 = 0 then cmpI a.2 b.2 else cmpI a.1 b.1
def ltRk (a b : Int × Int) : Bool := decide (a.1 < b.1 ∨ a.1 = b.1 ∧ a.2 < b.2)
def redP (p q : List Term) : Bool := if clsP q = 0 then decide (p.length = 0) else decide (degP p (clsP q) < degP q (clsP q))
theorem cmpI_is (a b : Int) : (a < b ∧ cmpI a b = -1) ∨ (b < a ∧ cmpI a b = 1) ∨ (a = b ∧ cmpI a b = 0) := by
 unfold cmpI
 rcases Int.lt_trichotomy a b with h | h | h
 ·exact .inl ⟨h, if_pos h⟩
 ·subst h; exact .inr (.inr ⟨rfl, by rw [if_neg (Int.lt_irrefl _), if_neg (Int.lt_irrefl _)]⟩)
 ·exact .inr (.inl ⟨h, by rw [if_neg (by omega), if_pos h]⟩)
theorem lt_iff (a b : Int × Int) : ltRk a b = true ↔ a.1 < b.1 ∨ a.1 = b.1 ∧ a.2 < b.2 := decide_eq_true_iff
theorem lt_not (a b : Int × Int) : ltRk a b = false ↔ b.1 < a.1 ∨ b.1 = a.1 ∧ b.2 ≤ a.2 := by
 unfold ltRk
 rw [decide_eq_false_iff_not]
 omega
theorem cmpRk_is (a b : Int × Int) : (ltRk a b = true ∧ cmpRk a b = -1) ∨ (ltRk b a = true ∧ cmpRk a b = 1) ∨ (a = b ∧ ltRk a b = false ∧ ltRk b a = false ∧ cmpRk a b = 0) := by
 unfold cmpRk
 rw [lt_iff, lt_iff, lt_not, lt_not]; obtain ⟨a1, a2⟩ := a
 obtain ⟨b1, b2⟩ := b
 rcases cmpI_is a1 b1 with ⟨h, e⟩ | ⟨h, e⟩ | ⟨h, e⟩
 ·exact .inl ⟨.inl h, by show (if cmpI a1 b1 = 0 then _ else cmpI a1 b1) = _; rw [e]; rfl⟩
 ·exact .inr (.inl ⟨.inl h, by show (if cmpI a1 b1 = 0 then _ else cmpI a1 b1) = _; rw [e]; rfl⟩)
 ·subst h
  rcases cmpI_is a2 b2 with ⟨h, e2⟩ | ⟨h, e2⟩ | ⟨h, e2⟩
  ·exact .inl ⟨.inr ⟨rfl, h⟩, by show (if cmpI a1 a1 = 0 then cmpI a2 b2 else cmpI a1 a1) = _; rw [e, e2]; rfl⟩
  ·exact .inr (.inl ⟨.inr ⟨rfl, h⟩, by show (if cmpI a1 a1 = 0 then cmpI a2 b2 else cmpI a1 a1) = _; rw [e, e2]; rfl⟩)
  ·subst h
   exact .inr (.inr ⟨rfl, .inr ⟨rfl, Int.le_refl _⟩, .inr ⟨rfl, Int.le_refl _⟩, by show (if cmpI a1 a1 = 0 then cmpI a2 a2 else cmpI a1 a1) = _; rw [e, e2]; rfl⟩)
theorem lt_asym {a b : Int × Int} (h : ltRk a b = true) : ltRk b a = false := by
 rw [lt_iff] at h; rw [lt_not]
 omega
def difL : List (Int × Int) → List (Int × Int) → Int
 | a :: l, b :: m => if cmpRk a b = 0 then difL l m else cmpRk a b
 | _, _ => 0
def lowL (l m : List (Int × Int)) : Int := if difL l m = 0 then cmpI m.length l.length else difL l m
theorem difL_nil (l : List (Int × Int)) : difL l [] = 0 := by cases l <;> rfl
theorem difL_drop {l m : List (Int × Int)} {k : Nat} (hl : k < l.length) (hm : k < m.length) : difL (l.drop k) (m.drop k) = if cmpRk l[k] m[k] = 0 then difL (l.drop (k + 1)) (m.drop (k + 1)) else cmpRk l[k] m[k] := by
 rw [List.drop_eq_getElem_cons hl, List.drop_eq_getElem_cons hm]
 rfl
theorem difL_end {l m : List (Int × Int)} {k : Nat} (h : l.length ≤ k ∨ m.length ≤ k) : difL (l.drop k) (m.drop k) = 0 := by
 rcases h with h | h
 ·rw [List.drop_eq_nil_of_le h]
  rfl
 ·rw [List.drop_eq_nil_of_le h]
  exact difL_nil _
section
variable {α β : Type} (lt : α → α → Bool)
def insV (x : α) : List α → List α
 | [] => [x]
 | y :: r => if lt x y = true then y :: insV x r else x :: y :: r
def insR (x : α) (s : List α) : List α := (insV lt x s.reverse).reverse
def isortF (s l : List α) : List α := l.foldl (fun s x => insR lt x s) s
def isort (l : List α) : List α := isortF lt [] l
theorem insR_nil (x : α) : insR lt x [] = [x] := rfl
theorem insR_snoc (x y : α) (s : List α) : insR lt x (s ++ [y]) = if lt x y = true then insR lt x s ++ [y] else s ++ [y] ++ [x] := by
 unfold insR
 rw [List.reverse_append]
 show (if lt x y = true then y :: insV lt x s.reverse else x :: y :: s.reverse).reverse = _
 by_cases h : lt x y = true
 ·rw [if_pos h, if_pos h, List.reverse_cons]
 ·rw [if_neg h, if_neg h]; simp
theorem insV_perm (x : α) : ∀ s : List α, (insV lt x s).Perm (x :: s)
 | [] => .refl _
 | y :: r => by
  unfold insV
  split
  ·exact ((insV_perm x r).cons y).trans (.swap x y r)
  ·exact .refl _
theorem insR_perm (x : α) (s : List α) : (insR lt x s).Perm (x :: s) := ((insV lt x s.reverse).reverse_perm.trans (insV_perm lt x s.reverse)).trans ((s.reverse_perm).cons x)
theorem isortF_perm : ∀ (l s : List α), (isortF lt s l).Perm (s ++ l)
 | [], s => by rw [List.append_nil]; exact .refl _
 | x :: l, s => by
  refine (isortF_perm l (insR lt x s)).trans ?_
  refine ((insR_perm lt x s).append_right l).trans ?_
  exact (List.perm_middle (a := x) (l₁ := s) (l₂ := l)).symm
theorem isort_perm (l : List α) : (isort lt l).Perm l := isortF_perm lt l []
theorem isort_len (l : List α) : (isort lt l).length = l.length := (isort_perm lt l).length_eq
theorem isortF_snoc (l s : List α) (x : α) : isortF lt s (l ++ [x]) = insR lt x (isortF lt s l) := by
 unfold isortF
 rw [List.foldl_append]
 rfl
variable {lt}
variable {lt2 : β → β → Bool} {f : α → β}
theorem insV_map (hf : ∀ x y, lt2 (f x) (f y) = lt x y) (x : α) : ∀ s : List α, (insV lt x s).map f = insV lt2 (f x) (s.map f)
 | [] => rfl
 | y :: r => by
  show (if lt x y = true then y :: insV lt x r else x :: y :: r).map f = if lt2 (f x) (f y) = true then f y :: insV lt2 (f x) (r.map f) else f x :: f y :: r.map f
  rw [hf, ← insV_map hf x r]
  split <;> rfl
theorem insR_map (hf : ∀ x y, lt2 (f x) (f y) = lt x y) (x : α) (s : List α) : (insR lt x s).map f = insR lt2 (f x) (s.map f) := by
 unfold insR
 rw [List.map_reverse, insV_map hf, List.map_reverse]
theorem isortF_map (hf : ∀ x y, lt2 (f x) (f y) = lt x y) : ∀ l s : List α, (isortF lt s l).map f = isortF lt2 (s.map f) (l.map f)
 | [], _ => rfl
 | x :: l, s => by
  show (isortF lt (insR lt x s) l).map f = isortF lt2 (insR lt2 (f x) (s.map f)) (l.map f)
  rw [isortF_map hf l, insR_map hf]
theorem isort_map (hf : ∀ x y, lt2 (f x) (f y) = lt x y) (l : List α) : (isort lt l).map f = isort lt2 (l.map f) := isortF_map hf l []
end
def ltP (p q : List Term) : Bool := ltRk (rkP p) (rkP q)
def srtP (l : List (List Term)) : List (List Term) := isort ltP l
open Lib (hid)
theorem cnan_any (a : Int) (w : World) : Calls Tryz.prog 72 #[.int .i64 a] w fun e w' => e = .returned (.bool false) ∧ w = w' := by
 have hd : (a != a) = false := by simp
 go_enter Tryz.func72, Tryz.ntmps72
 go_wp2
 go_ret
 exact ⟨rfl, rfl⟩
theorem ccmp_any (a b z : Int) (w : World) (hz : cmpI a b = z) : Calls Tryz.prog 38 #[.int .i64 a, .int .i64 b] w fun e w' => e = .returned (.int .i64 z) ∧ w = w' := by
 rcases cmpI_is a b with ⟨h, e⟩ | ⟨h, e⟩ | ⟨h, e⟩
 ·rw [e] at hz
  have hd : decide (a < b) = true := decide_eq_true h
  subst hz
  go_enter Tryz.func38, Tryz.ntmps38
  go_wp2_with fail; refine (cnan_any a _).mono ?_
  rintro e w1 ⟨rfl, rfl⟩; go_wp2_with fail; refine (cnan_any b _).mono ?_; rintro e w1 ⟨rfl, rfl⟩; go_wp2_with fail
  go_ret
  exact ⟨rfl, rfl⟩
 ·rw [e] at hz
  have hd : decide (a < b) = false := decide_eq_false (by omega)
  have hd2 : decide (b < a) = true := decide_eq_true h
  have hd3 : decide (a > b) = true := decide_eq_true h
  subst hz
  go_enter Tryz.func38, Tryz.ntmps38
  go_wp2_with fail; refine (cnan_any a _).mono ?_
  rintro e w1 ⟨rfl, rfl⟩; go_wp2_with fail; refine (cnan_any b _).mono ?_; rintro e w1 ⟨rfl, rfl⟩; go_wp2_with fail
  go_ret
  exact ⟨rfl, rfl⟩
 ·rw [e] at hz
  subst h
  have hd : decide (a < a) = false := decide_eq_false (by omega)
  have hd3 : decide (a > a) = false := decide_eq_false (by omega)
  subst hz
  go_enter Tryz.func38, Tryz.ntmps38
  go_wp2_with fail; refine (cnan_any a _).mono ?_
  rintro e w1 ⟨rfl, rfl⟩; go_wp2_with fail; refine (cnan_any a _).mono ?_; rintro e w1 ⟨rfl, rfl⟩; go_wp2_with fail
  go_ret
  exact ⟨rfl, rfl⟩
theorem cor_any (f : Nat → Int) (z : Int) {b : Nat} {w : World} (hc : ∀ k, k < 2 → w.cell? ⟨b, k, none⟩ = some (.int .i64 (f k))) (hz : (if f 0 = 0 then f 1 else f 0) = z) :
  Calls Tryz.prog 36 #[.slice (some ⟨b, 0, none⟩) 2 2] w fun e w' => e = .returned (.int .i64 z) ∧ w = w' := by
 have HC := hid hc; have HZ := hid hz; clear hc hz
 go_enter Tryz.func36, Tryz.ntmps36
 go_wp2
 go_loopw [8] (fun i wr => ∃ k : Nat, i = .int .i64 k ∧ k ≤ 2 ∧ Hid (∀ j, j < k → f j = 0) ∧ w = wr) (fun i _ => 2 - (intOf i).toNat)
 case atStart => exact ⟨0, rfl, by omega, (fun j h => by omega), rfl⟩
 case round =>
  obtain ⟨k, rfl, hk, HF, rfl⟩ := hrel
  by_cases hkn : k < 2
  ·have c0 := HC.out k hkn
   obtain ⟨v, hv⟩ : ∃ v, f k = v := ⟨_, rfl⟩; rw [hv] at c0; have HV := hid hv; clear hv
   have hki : (k : Int) < 2 := by omega
   by_cases hv0 : v = 0
   ·have hd : (v != 0) = false := by simp [hv0]
    have HN : Hid (∀ j, j < k + 1 → f j = 0) := fun j hj => by
     by_cases h : j < k
     ·exact HF.out j h
     ·obtain rfl : j = k := by omega
      rw [HV.out, hv0]
    clear hv0
    go_wp2
    go_roundw
    case rel => exact ⟨k + 1, by go_num, by omega, HN, trivial⟩
    case measure => simp [intOf]; omega
   ·have hd : (v != 0) = true := by simpa using hv0
    have HR : Hid (v = z) := by
     rw [Hid, ← HZ.out, ← HV.out]; have h2 := HV.out
     obtain h | h : k = 0 ∨ k = 1 := by omega
     ·subst h; rw [if_neg (by rw [h2]; exact hv0)]
     ·subst h; rw [if_pos (HF.out 0 (by omega))]
    clear hv0
    go_wp2
    go_ret
    have h := HR.out; subst h
    exact ⟨rfl, rfl⟩
  ·obtain rfl : k = 2 := by omega
   have HR : Hid (z = 0) := by rw [Hid, ← HZ.out, if_pos (HF.out 0 (by omega)), HF.out 1 (by omega)]
   go_wp2
   go_ret
   have h := HR.out; subst h
   exact ⟨rfl, rfl⟩
theorem rcmp_any (a1 a2 b1 b2 z : Int) (w : World) (hz : cmpRk (a1, a2) (b1, b2) = z) :
  Calls Tryz.prog 31 #[.agg #[.int .i64 a1, .int .i64 a2], .agg #[.int .i64 b1, .int .i64 b2]] w (RetB (.int .i64 z) w) := by
 obtain ⟨x, hx⟩ : ∃ x, cmpI a1 b1 = x := ⟨_, rfl⟩; obtain ⟨y, hy⟩ : ∃ y, cmpI a2 b2 = y := ⟨_, rfl⟩
 have HZ : Hid ((if x = 0 then y else x) = z) := by
  rw [Hid, ← hx, ← hy]
  exact hz
 have HX := hid hx; have HY := hid hy; clear hx hy hz
 go_enter Tryz.func31, Tryz.ntmps31
 go_upto_region 1 with (fail)
 refine wp_world (fun W hW => ?_)
 obtain ⟨q1, q2, hB⟩ := box2 w [.int .i64 a1, .int .i64 a2] [.int .i64 b1, .int .i64 b2] 48 48; rw [← hW] at q1 q2 hB; clear hW; have A0 := hid q1; have B0 := hid q2; have HB0 := hid hB; clear q1 q2 hB
 refine wp_region_held_drew (S := fun w' => (w'.cell? ⟨w.heap.size, 0, none⟩ = some (.int .i64 a1) ∧ w'.cell? ⟨w.heap.size, 1, none⟩ = some (.int .i64 a2)) ∧ (w'.cell? ⟨w.heap.size + 1, 0, none⟩ = some (.int .i64 b1) ∧ w'.cell? ⟨w.heap.size + 1, 1, none⟩ = some (.int .i64 b2))) (by kernel_rfl) ⟨A0.out.c2, B0.out.c2⟩ (fun hH => ?_)
 refine anyH_world (fun w1 hW => ?_)
 have HB1 : Hid (Below w.heap.size w w1) := by rw [hW]; exact HB0.out.drew
 have A1 : Hid (AtN w1 w.heap.size [.int .i64 a1, .int .i64 a2] 48) := by rw [hW]; exact A0.out.below (Below.refl _ _).drew
 have B1 : Hid (AtN w1 (w.heap.size + 1) [.int .i64 b1, .int .i64 b2] 48) := by rw [hW]; exact B0.out.below (Below.refl _ _).drew
 rw [← hW] at hH; clear HB0 A0 B0
 clear hW
 refine son 0 hH ?_; try simp only [nrm]
 refine son 1 hH ?_; try simp only [nrm]
 refine son 2 hH ?_; try simp only [nrm]
 refine son 3 hH ?_; try simp only [nrm]
 refine son 5 hH ?_; try simp only [nrm]
 refine son 6 hH ?_; try simp only [nrm]
 refine son 7 hH ?_; try simp only [nrm]
 refine son 8 hH ?_; try simp only [nrm]
 refine step_one 4 rfl (by kernel_rfl) (fun KK hK => ?_)
 go_simp; refine (ccmp_any a1 b1 x _ HX.out).mono ?_
 rintro e w2 ⟨rfl, rfl⟩; go_wp2_with fail
 clear hH; refine hK.out _ _ ⟨A1.out.c2, B1.out.c2⟩ fun hH => ?_; clear hK KK
 try simp only [nrm]
 refine step_one 9 rfl (by kernel_rfl) (fun KK hK => ?_)
 go_simp; refine (ccmp_any a2 b2 y _ HY.out).mono ?_
 rintro e w2 ⟨rfl, rfl⟩; go_wp2_with fail
 clear hH; refine hK.out _ _ ⟨A1.out.c2, B1.out.c2⟩ fun hH => ?_; clear hK KK
 try simp only [nrm]
 refine step_one 10 rfl (by kernel_rfl) (fun KK hK => ?_)
 go_simp
 clear hH; refine hK.out _ _ ⟨(A1.out.below (below_alloc _ _)).c2, (B1.out.below (below_alloc _ _)).c2⟩ fun hH => ?_; clear hK KK
 try simp only [nrm]
 refine anyH_world (fun w3 hW => ?_)
 have HB3 : Hid (Below w.heap.size w w3) := by rw [hW]; exact HB1.out.alloc HB1.out.size _
 have A3 : Hid (AtN w3 w.heap.size [.int .i64 a1, .int .i64 a2] 48) := by rw [hW]; exact A1.out.below (below_alloc _ _)
 have B3 : Hid (AtN w3 (w.heap.size + 1) [.int .i64 b1, .int .i64 b2] 48) := by rw [hW]; exact B1.out.below (below_alloc _ _)
 have HC : Hid (∀ k, k < 2 → w3.cell? ⟨w1.heap.size, k, none⟩ = some (.int .i64 ([x, y].getD k 0))) := fun k hk => by
  rw [hW]
  obtain h | h : k = 0 ∨ k = 1 := by omega
  ·subst h; simp
  ·subst h; simp
 rw [← hW] at hH; clear hW
 refine step_one 11 rfl (by kernel_rfl) (fun KK hK => ?_)
 go_simp
 refine (cor_any (fun k => [x, y].getD k 0) z HC.out HZ.out).mono ?_
 rintro e w4 ⟨rfl, rfl⟩; go_wp2_with fail
 clear hH; refine hK.out _ _ ⟨A3.out.c2, B3.out.c2⟩ fun hH => ?_; clear hK KK
 try simp only [nrm]
 refine son 12 hH ?_; try simp only [nrm]
 refine wpAnyH_done (by kernel_rfl) ?_ _
 go_wp2_with fail
 go_ret
 exact ⟨rfl, HB3.out⟩
open Lib (hid)
section
variable {ao bo : Option Addr} {n cap m cb : Nat} {ps qs : List Raw} {w : World}
theorem rof_any [Ol] (c d : Int) (hp : Pr w ao n cap ps) (hl : ∀ t ∈ ps, t.1.2.length ≤ 1000) (hc : clsP (plnR ps) = c) (hd : degP (plnR ps) c = d) :
  Calls Tryz.prog 27 #[.slice ao n cap] w (RetB (.agg #[.int .i64 c, .int .i64 d]) w) := by
 have HP := hid hp; have HL := hid hl; have HC := hid hc; have HD := hid hd; clear hp hl hc hd
 go_enter Tryz.func27, Tryz.ntmps27
 go_upto_region 1 with (fail)
 refine wp_world (fun W hW => ?_)
 obtain ⟨a1, hB⟩ := box1 w [.int .i64 0, .int .i64 0] 48; rw [← hW] at a1 hB; clear hW; have HA0 := hid a1; have HB0 := hid hB; clear a1 hB; go_wp2_with fail; refine (vClass_any c (HP.out.below HB0.out) HL.out HC.out).mono ?_; rintro e w1 ⟨rfl, hB⟩; have HA1 := hid (HA0.out.below hB); have HB1 := hid (Below.steps HB0.out hB); clear hB HA0 HB0; go_wp2_with fail; refine (vDegree_any c d (HP.out.below HB1.out) HL.out HD.out).mono ?_; rintro e w2 ⟨rfl, hB⟩; have HA2 := hid (HA1.out.below hB)
 have HB2 := hid (Below.steps HB1.out hB); clear hB HA1 HB1; obtain ⟨d0, d1⟩ := HA2.out.c2; have f0 := HA2.out.fz 0; have f1 := HA2.out.fz 1; go_wp2_with fail; clear d0 d1 f0 f1
 refine post_world (Q := bodyPost _ _ _ _ _) (fun W hW => ?_)
 have R : AtN W w.heap.size [.int .i64 c, .int .i64 d] 48 := by rw [hW]; exact (HA2.out.set 0 _).set 1 _
 have HBW : Below w.heap.size w W := by rw [hW]; exact HB2.out.grown (grown_put2 _ w.heap.size 0 _ _) HB2.out.size (fun r e => by cases e; exact Nat.le_refl _)
 clear hW; obtain ⟨d0, d1⟩ := R.c2
 exact bodyPost_ret (v := .agg #[.int .i64 c, .int .i64 d]) (by simp [results, Tryz.results27, go_sem, d0, d1]) rfl ⟨rfl, HBW⟩
theorem rcompare_any [Ol] (z : Int) (hp : Pr w ao n cap ps) (hl : ∀ t ∈ ps, t.1.2.length ≤ 1000) (hq : Pr w bo m cb qs) (hk : ∀ t ∈ qs, t.1.2.length ≤ 1000) (hz : cmpRk (rkP (plnR ps)) (rkP (plnR qs)) = z) :
  Calls Tryz.prog 19 #[.slice ao n cap, .slice bo m cb] w (RetB (.int .i64 z) w) := by
 obtain ⟨c1, hc1⟩ : ∃ c, clsP (plnR ps) = c := ⟨_, rfl⟩; obtain ⟨d1, hd1⟩ : ∃ d, degP (plnR ps) c1 = d := ⟨_, rfl⟩; obtain ⟨c2, hc2⟩ : ∃ c, clsP (plnR qs) = c := ⟨_, rfl⟩; obtain ⟨d2, hd2⟩ : ∃ d, degP (plnR qs) c2 = d := ⟨_, rfl⟩
 have HZ : Hid (cmpRk (c1, d1) (c2, d2) = z) := by
  rw [Hid, ← hz, ← hd1, ← hd2, ← hc1, ← hc2]
  rfl
 have H1 := hid (And.intro hp (And.intro hl (And.intro hc1 hd1))); have H2 := hid (And.intro hq (And.intro hk (And.intro hc2 hd2))); clear hp hl hc1 hd1 hq hk hc2 hd2 hz
 go_enter Tryz.func19, Tryz.ntmps19
 go_wp2_with fail; refine (rof_any c1 d1 H1.out.1 H1.out.2.1 H1.out.2.2.1 H1.out.2.2.2).mono ?_
 rintro e w1 ⟨rfl, hB⟩; have HB1 := hid hB; clear hB; go_wp2_with fail; refine (rof_any c2 d2 (H2.out.1.below HB1.out) H2.out.2.1 H2.out.2.2.1 H2.out.2.2.2).mono ?_; rintro e w2 ⟨rfl, hB⟩; have HB2 := hid (Below.steps HB1.out hB); clear hB HB1; go_wp2_with fail; refine (rcmp_any c1 d1 c2 d2 z _ HZ.out).mono ?_; rintro e w3 ⟨rfl, hB⟩; have HB3 := hid (Below.steps HB2.out hB); clear hB HB2; go_wp2_with fail
 go_ret
 exact ⟨rfl, HB3.out⟩
end
theorem Pc.cut1 [Ol] {K : Nat} {w : World} {ao : Option Addr} {n cap : Nat} {p : List Term} (h : Pc K w ao n cap p) (k : Nat) (hk : k ≤ n) : Pc K w ao k cap (p.take k) := by
 obtain ⟨X, h1, h2⟩ := h
 exact ⟨X.take k, h1.take k hk, tmsT_take k h2⟩
def LeadB (w : World) (r : Bool) (e : Ending) (w' : World) : Prop := ∃ m ao n cap bo k cb, e = .returned (.tuple #[.agg #[.bool m, .slice ao n cap, .slice bo k cb], .bool r]) ∧ Below w.heap.size w w'
theorem plead_raw [Ol] {K : Nat} {w : World} {ao : Option Addr} {n cap : Nat} {ps : List Raw} (h0p : Pr w ao n cap ps) (hl : ∀ t ∈ ps, t.1.2.length ≤ K) (hn : n ≤ 1000000) (hK : K ≤ 1000) :
  Calls Tryz.prog 53 #[.slice ao n cap] w (LeadB w (!decide ((plnR ps).length = 0))) := by
 obtain ⟨p, hpp⟩ : ∃ p, plnR ps = p := ⟨_, rfl⟩
 have HQ : Hid (Calls Tryz.prog 83 #[.slice ao n cap] w (OrZ K w n ps)) := orZ_pc h0p hl hK
 have HPP := hid hpp; have HPR := hid (And.intro h0p hl); rw [hpp]; clear h0p hl hpp HQ
 go_enter Tryz.func53, Tryz.ntmps53
 go_upto_region 1 with (fail)
 refine wp_world (fun w0 hW => ?_)
 obtain ⟨a1, hB⟩ := box1 w [.bool false, .slice none 0 0, .slice none 0 0] 56; rw [← hW] at a1 hB; clear hW; have HA0 := hid a1; have HB0 := hid hB; clear a1 hB; go_wp2_with fail; refine (orZ_pc (HPR.out.1.below HB0.out) HPR.out.2 hK).mono ?_; rintro e w1 ⟨ao, n1, cap, rfl, hX, hmn, hB⟩; rw [HPP.out] at hX; have HPL := hid hX.len; have HP := hid hX; obtain ⟨X, hX1, _⟩ := hX; have hcap := hX1.le; have hbig := hX1.big; clear hX1 HPR; have HA1 := hid (HA0.out.below hB); have HB1 := hid (Below.steps HB0.out hB)
 clear hB HA0 HB0
 by_cases h0 : n1 = 0
 ·subst h0
  have hp0 : p = [] := List.eq_nil_of_length_eq_zero HPL.out
  have HP0 := hid hp0; obtain ⟨d0, d1, d2⟩ := HA1.out.c3; obtain ⟨f0, f1, f2⟩ := HA1.out.f3; clear hp0; go_wp2_with fail; clear d0 d1 d2 f0 f1 f2
  refine post_world (Q := bodyPost _ _ _ _ _) (fun W hW => ?_)
  have R : AtN W w.heap.size [.bool false, .slice none 0 0, .slice none 0 0] 56 := by rw [hW]; exact ((HA1.out.set 0 _).set 1 _).set 2 _
  have HBW : Below w.heap.size w W := by rw [hW]; exact HB1.out.grown (grown_put3 _ w.heap.size 0 _ _ _) HB1.out.size (fun r e => by cases e; exact Nat.le_refl _)
  clear hW; obtain ⟨d0, d1, d2⟩ := R.c3
  exact bodyPost_ret (v := .tuple #[.agg #[.bool false, .slice none 0 0, .slice none 0 0], .bool false]) (by simp [results, Tryz.results53, go_sem, d0, d1, d2]) rfl ⟨_, _, _, _, _, _, _, by rw [HP0.out]; rfl, HBW⟩
 ·have hd : ((n1 : Int) == 0) = false := beq_eq_false_iff_ne.2 (by omega)
  have h1c : 1 ≤ cap := by omega
  go_wp2_with fail
  refine (own_any8 (HP.out.cut1 1 (by omega)).inn (by omega) (by omega)).mono ?_
  rintro e w2 ⟨oa, on, oc, rfl, h1, h2⟩
  have hpl : (p.take 1).length = 1 := by rw [List.length_take, HPL.out]; omega
  obtain rfl : on = 1 := by rw [← h1.len, hpl]
  obtain ⟨t, r, hpt⟩ : ∃ t r, p = t :: r := by
   cases p with
   | nil => exact absurd HPL.out.symm (by simpa using h0)
   | cons t r => exact ⟨t, r, rfl⟩
  subst hpt; have HA2 := hid (HA1.out.below h2); have HB2 := hid (Below.steps HB1.out h2)
  obtain ⟨b, off, xm, xa, xn, xc, xp, xq, xr, hao, hbl, hc, hCn, hBd, hMl⟩ := h1.pc.at (k := 0) (by omega)
  subst hao; rw [Nat.zero_mul, Nat.add_zero] at hc; obtain ⟨c0, c1, c2⟩ := hc w2 (Below.refl _ _); clear h1 h2 hc hCn hBd hMl hpl; obtain ⟨d0, d1, d2⟩ := HA2.out.c3; obtain ⟨f0, f1, f2⟩ := HA2.out.f3; go_wp2_with fail; clear d0 d1 d2 f0 f1 f2 c0 c1 c2
  refine post_world (Q := bodyPost _ _ _ _ _) (fun W hW => ?_)
  have hg := grown_put3 w2 w.heap.size 0 (.bool xm) (.slice xa xn xc) (.slice xp xq xr)
  have R : AtN W w.heap.size [.bool xm, .slice xa xn xc, .slice xp xq xr] 56 := by rw [hW]; exact ((HA2.out.set 0 _).set 1 _).set 2 _
  have HBW : Below w.heap.size w W := by rw [hW]; exact HB2.out.grown hg HB2.out.size (fun r e => by cases e; exact Nat.le_refl _)
  clear hW hg; obtain ⟨d0, d1, d2⟩ := R.c3
  exact bodyPost_ret (v := .tuple #[.agg #[.bool xm, .slice xa xn xc, .slice xp xq xr], .bool true]) (by simp [results, Tryz.results53, go_sem, d0, d1, d2]) rfl ⟨_, _, _, _, _, _, _, rfl, HBW⟩
open Lib (hid)
section
variable {ao bo : Option Addr} {n cap m cb : Nat} {ps qs : List Raw} {w : World}
theorem rreduced_any [Ol] (r : Bool) (hp : Pr w ao n cap ps) (hl : ∀ t ∈ ps, t.1.2.length ≤ 1000) (hn : n ≤ 1000000) (hq : Pr w bo m cb qs) (hk : ∀ t ∈ qs, t.1.2.length ≤ 1000) (hr : redP (plnR ps) (plnR qs) = r) :
  Calls Tryz.prog 20 #[.slice ao n cap, .slice bo m cb] w (RetB (.bool r) w) := by
 obtain ⟨c, hc⟩ : ∃ c, clsP (plnR qs) = c := ⟨_, rfl⟩; obtain ⟨d, hd⟩ : ∃ d, degP (plnR qs) c = d := ⟨_, rfl⟩; obtain ⟨y, hy⟩ : ∃ y, degP (plnR ps) c = y := ⟨_, rfl⟩; have HY := hid hy
 have HR : Hid ((if c = 0 then decide ((plnR ps).length = 0) else decide (y < d)) = r) := by
  rw [Hid, ← hr, ← hy, ← hd, ← hc]
  rfl
 have HP := hid (And.intro hp hl); have HQ := hid (And.intro hq (And.intro hk (And.intro hc hd))); clear hp hl hc hd hq hk hr hy
 go_enter Tryz.func20, Tryz.ntmps20
 go_wp2_with fail; refine (rof_any c d HQ.out.1 HQ.out.2.1 HQ.out.2.2.1 HQ.out.2.2.2).mono ?_
 rintro e w1 ⟨rfl, hB⟩; have HB1 := hid hB; clear hB
 go_upto_region 2 with (fail)
 refine wp_world (fun W hW => ?_)
 obtain ⟨q1, q2⟩ := box1 w1 [.int .i64 c, .int .i64 d] 48
 have A2 : Hid (AtN W w1.heap.size [.int .i64 c, .int .i64 d] 48) := by rw [hW]; exact q1
 have HB2 : Hid (Below w.heap.size w W) := by
  rw [hW]
  exact Below.steps HB1.out q2
 clear hW q1 q2 HB1
 by_cases hc0 : c = 0
 ·have HR2 : Hid ((!(!decide ((plnR ps).length = 0))) = r) := by
   have h := HR.out; rw [if_pos hc0] at h; rw [Hid, Bool.not_not]
   exact h
  obtain ⟨d0, d1⟩ := A2.out.c2
  have hd : (c == 0) = true := by simpa using hc0
  clear HR hc0; go_wp2_with fail
  refine (plead_raw (HP.out.1.below HB2.out) HP.out.2 hn (by omega)).mono ?_
  rintro e w3 ⟨xm, xa, xn, xc, xb, xk, xl, rfl, hB⟩; have HB3 := hid (Below.steps HB2.out hB); obtain ⟨z, hz⟩ : ∃ z, (!decide ((plnR ps).length = 0)) = z := ⟨_, rfl⟩; have HR3 := HR2.out; rw [hz] at HR3 ⊢; have HR4 := hid HR3; clear hB HB2 A2 d0 d1 HR2 hz HR3
  go_upto_region 4 with (fail)
  refine wp_world (fun W2 hW => ?_)
  obtain ⟨q1, q2⟩ := box1 w3 [.bool xm, .slice xa xn xc, .slice xb xk xl] 56
  have HB4 : Hid (Below w.heap.size w W2) := by
   rw [hW]
   exact Below.steps HB3.out q2
  clear hW q1 q2 HB3; go_wp2_with fail
  go_ret
  rw [HR4.out]
  exact ⟨rfl, HB4.out⟩
 ·have HR2 : Hid (decide (y < d) = r) := by
   have h := HR.out; rw [if_neg hc0] at h
   exact h
  have hd : (c == 0) = false := by simpa using hc0
  have hyr := HR2.out; clear HR hc0; obtain ⟨d0, d1⟩ := A2.out.c2
  go_upto_region 5 with (fail)
  clear d0 d1
  refine wp_region_held_drew (S := fun w' => w'.cell? ⟨w1.heap.size, 0, none⟩ = some (.int .i64 c) ∧ w'.cell? ⟨w1.heap.size, 1, none⟩ = some (.int .i64 d)) (by kernel_rfl) A2.out.c2 (fun hH => ?_)
  refine anyH_world (fun w3 hW => ?_)
  have HB3 : Hid (Below w.heap.size w w3) := by rw [hW]; exact HB2.out.drew
  have A3 : Hid (AtN w3 w1.heap.size [.int .i64 c, .int .i64 d] 48) := by rw [hW]; exact A2.out.below (Below.refl _ _).drew
  rw [← hW] at hH; clear HB2 A2
  clear hW
  refine son 0 hH ?_; try simp only [nrm]
  refine son 1 hH ?_; try simp only [nrm]
  refine son 2 hH ?_; try simp only [nrm]
  refine son 4 hH ?_; try simp only [nrm]
  refine son 5 hH ?_; try simp only [nrm]
  refine step_one 3 rfl (by kernel_rfl) (fun KK hK => ?_)
  go_simp; refine (vDegree_any c y (HP.out.1.below HB3.out) HP.out.2 HY.out).mono ?_
  rintro e w4 ⟨rfl, hB⟩; have HB4 := hid (Below.steps HB3.out hB); have A4 := hid (A3.out.below hB); clear hB HB3 A3; go_wp2_with fail
  clear hH; refine hK.out _ _ A4.out.c2 fun hH => ?_; clear hK KK
  try simp only [nrm]
  refine son 6 hH ?_; try simp only [nrm]
  refine son 7 hH ?_; try simp only [nrm]
  refine wpAnyH_done (by kernel_rfl) ?_ _
  go_wp2_with fail
  go_ret
  exact ⟨rfl, HB4.out⟩
end
open Lib (hid)
def rks (ls : List (List Raw)) : List (Int × Int) := ls.map fun ps => rkP (plnR ps)
theorem difL_take : ∀ (q : Nat) (l m : List (Int × Int)), (l.length ≤ q ∨ m.length ≤ q) → difL (l.take q) (m.take q) = difL l m
 | 0, [], m, _ => by rw [List.take_zero]; rfl
 | 0, _ :: _, [], _ => rfl
 | 0, _ :: _, _ :: _, h => by simp at h
 | _ + 1, [], m, _ => rfl
 | _ + 1, a :: l, [], _ => rfl
 | q + 1, a :: l, b :: m, h => by
  show (if cmpRk a b = 0 then difL (l.take q) (m.take q) else cmpRk a b) = if cmpRk a b = 0 then difL l m else cmpRk a b
  rw [difL_take q l m (by simpa using h)]
theorem Plr.cut [Ol] {w : World} {ao : Option Addr} {n cap : Nat} {ls : List (List Raw)} (h : Plr w ao n cap ls) (q : Nat) (hq : q ≤ n) : Plr w ao q cap (ls.take q) := by
 obtain ⟨X, h1, h2⟩ := h
 exact ⟨X.take q, h1.take q hq, tmsT_take q h2⟩
section
variable {ao bo : Option Addr} {n cap m cb : Nat} {ls ms : List (List Raw)} {w : World}
theorem cmpf_any [Ol] (z : Int) (h : Plr w ao n cap ls) (h2 : Plr w bo n cb ms) (hl : ∀ ps ∈ ls, ∀ t ∈ ps, t.1.2.length ≤ 1000) (hk : ∀ ps ∈ ms, ∀ t ∈ ps, t.1.2.length ≤ 1000) (hz : difL (rks ls) (rks ms) = z) :
  Calls Tryz.prog 37 #[.slice ao n cap, .slice bo n cb, .func (.func 19) #[] #[]] w (RetB (.int .i64 z) w) := by
 have HP := hid (And.intro h (And.intro h2 (And.intro hl hk))); have HPL := hid (And.intro h.len h2.len); have HZ := hid hz; have hbig := h.big
 have eg := fun args w => enters_of Tryz.func19 (by kernel_rfl) rfl (args := args) (w := w)
 clear h h2 hl hk hz
 go_enter Tryz.func37, Tryz.ntmps37
 go_wp2
 go_loopw [13] (fun i wr => ∃ k : Nat, i = .int .i64 k ∧ k ≤ n ∧ Hid (Below w.heap.size w wr ∧ difL ((rks ls).drop k) ((rks ms).drop k) = z)) (fun i _ => n - (intOf i).toNat)
 case atStart => exact ⟨0, rfl, Nat.zero_le _, Below.refl _ _, HZ.out⟩
 case round =>
  obtain ⟨k, rfl, hk, HS⟩ := hrel
  by_cases hkn : k < n
  ·obtain ⟨b, off, po, pn, pc, hao, hb, hc, hp⟩ := (HP.out.1.below HS.out.1).at hkn
   obtain ⟨b2, off2, qo, qn, qc, hbo, hb2, hc2, hq⟩ := (HP.out.2.1.below HS.out.1).at hkn; subst hao; subst hbo; have c0 := hc wr (Below.refl _ _); have d0 := hc2 wr (Below.refl _ _)
   have hki : (k : Int) < (n : Int) := by omega
   have hkl : k < ls.length := by rw [HPL.out.1]; exact hkn
   have hkm : k < ms.length := by rw [HPL.out.2]; exact hkn
   obtain ⟨v, hv⟩ : ∃ v, cmpRk (rkP (plnR (ls.getD k []))) (rkP (plnR (ms.getD k []))) = v := ⟨_, rfl⟩
   have hd := difL_drop (l := rks ls) (m := rks ms) (k := k) (by unfold rks; rw [List.length_map]; exact hkl) (by unfold rks; rw [List.length_map]; exact hkm)
   rw [HS.out.2] at hd
   have hr1 : (rks ls)[k]'(by unfold rks; rw [List.length_map]; exact hkl) = rkP (plnR (ls.getD k [])) := by
    rw [getD_of [] hkl]
    simp [rks]
   have hr2 : (rks ms)[k]'(by unfold rks; rw [List.length_map]; exact hkm) = rkP (plnR (ms.getD k [])) := by
    rw [getD_of [] hkm]
    simp [rks]
   rw [hr1, hr2, hv] at hd; have HD := hid hd
   have HC := hid (rcompare_any v hp (HP.out.2.2.1 _ (getD_in [] hkl)) hq (HP.out.2.2.2 _ (getD_in [] hkm)) hv); clear hc hp hc2 hq hv hd hr1 hr2; go_wp2_with fail
   refine HC.out.mono ?_
   rintro e w2 ⟨rfl, hB⟩; have HB2 := hid (Below.steps HS.out.1 hB); clear hB HC c0 d0
   by_cases hv0 : v = 0
   ·have hx : (v != 0) = false := by simp [hv0]
    have HN : Hid (difL ((rks ls).drop (k + 1)) ((rks ms).drop (k + 1)) = z) := by
     have h := HD.out; rw [if_pos hv0] at h
     exact h.symm
    clear hv0
    go_wp2
    go_roundw
    case rel => exact ⟨k + 1, by go_num, by omega, HB2.out, HN.out⟩
    case measure => simp [intOf]; omega
   ·have hx : (v != 0) = true := by simpa using hv0
    have HN : Hid (z = v) := by
     have h := HD.out; rw [if_neg hv0] at h
     exact h
    clear hv0
    go_wp2
    go_ret
    rw [HN.out]
    exact ⟨rfl, HB2.out⟩
  ·obtain rfl : k = n := by omega
   have HN : Hid (z = 0) := by
    rw [Hid, ← HS.out.2]
    exact difL_end (.inl (by unfold rks; rw [List.length_map, HPL.out.1]; exact Nat.le_refl _))
   have HB2 := hid HS.out.1; clear HS
   go_wp2
   go_ret
   rw [HN.out]
   exact ⟨rfl, HB2.out⟩
theorem rlower_any [Ol] (z : Int) (h : Plr w ao n cap ls) (h2 : Plr w bo m cb ms) (hl : ∀ ps ∈ ls, ∀ t ∈ ps, t.1.2.length ≤ 1000) (hk : ∀ ps ∈ ms, ∀ t ∈ ps, t.1.2.length ≤ 1000) (hz : lowL (rks ls) (rks ms) = z) :
  Calls Tryz.prog 11 #[.slice ao n cap, .slice bo m cb] w (RetB (.int .i64 z) w) := by
 have hn := h.big; have hm := h2.big; obtain ⟨x, hx⟩ : ∃ x, difL (rks ls) (rks ms) = x := ⟨_, rfl⟩; obtain ⟨y, hy⟩ : ∃ y, cmpI m n = y := ⟨_, rfl⟩
 have hll : (rks ls).length = n := by unfold rks; rw [List.length_map]; exact h.len
 have hml : (rks ms).length = m := by unfold rks; rw [List.length_map]; exact h2.len
 have HZ : Hid ((if x = 0 then y else x) = z) := by
  rw [Hid, ← hz]
  unfold lowL
  rw [hll, hml, hx, hy]
 have HY := hid hy
 obtain ⟨q, hq⟩ : ∃ q : Nat, (m < n ∧ q = m) ∨ (n ≤ m ∧ q = n) := by
  by_cases hmn : m < n
  ·exact ⟨m, .inl ⟨hmn, rfl⟩⟩
  ·exact ⟨n, .inr ⟨by omega, rfl⟩⟩
 have HP : Hid (Plr w ao q cap (ls.take q) ∧ Plr w bo q cb (ms.take q) ∧ (∀ ps ∈ ls.take q, ∀ t ∈ ps, t.1.2.length ≤ 1000) ∧ (∀ ps ∈ ms.take q, ∀ t ∈ ps, t.1.2.length ≤ 1000) ∧ difL (rks (ls.take q)) (rks (ms.take q)) = x) := by
  refine ⟨h.cut q (by omega), h2.cut q (by omega), fun ps hp => hl ps (List.mem_of_mem_take hp), fun ps hp => hk ps (List.mem_of_mem_take hp), ?_⟩
  unfold rks at hx hll hml ⊢
  rw [List.map_take, List.map_take, difL_take q _ _ (by rw [hll, hml]; omega), hx]
 clear h h2 hl hk hz hx hy hll hml
 have hqq : min (n : Int) (m : Int) = (q : Int) := by omega
 have hqn : q ≤ n := by omega
 have hqm : q ≤ m := by omega
 have hb1 : q ≤ cap := by omega
 have hb2 : q ≤ cb := by omega
 clear hq
 go_enter Tryz.func11, Tryz.ntmps11
 go_upto_region 2 with (fail)
 clear hqq hqn hqm
 refine wp_region_held_drew (S := fun w' => True) (by kernel_rfl) trivial (fun hH => ?_)
 refine anyH_world (fun w1 hW => ?_)
 have HB_1 : Hid (Below w.heap.size w w1) := by rw [hW]; exact (Below.refl _ _).drew
 clear hW
 refine son 0 hH ?_; try simp only [nrm]
 refine son 1 hH ?_; try simp only [nrm]
 refine son 2 hH ?_; try simp only [nrm]
 refine son 3 hH ?_; try simp only [nrm]
 refine son 4 hH ?_; try simp only [nrm]
 refine son 5 hH ?_; try simp only [nrm]
 refine son 7 hH ?_; try simp only [nrm]
 refine son 8 hH ?_; try simp only [nrm]
 refine son 9 hH ?_; try simp only [nrm]
 refine son 10 hH ?_; try simp only [nrm]
 refine step_one 6 rfl (by kernel_rfl) (fun KK hK => ?_)
 go_simp; refine (cmpf_any x (HP.out.1.below HB_1.out) (HP.out.2.1.below HB_1.out) HP.out.2.2.1 HP.out.2.2.2.1 HP.out.2.2.2.2).mono ?_
 rintro e w2 ⟨rfl, hB⟩; have HB_2 := hid (Below.steps HB_1.out hB); clear hB HB_1; go_wp2_with fail
 clear hH; refine hK.out _ _ trivial fun hH => ?_; clear hK KK
 try simp only [nrm]
 refine step_one 11 rfl (by kernel_rfl) (fun KK hK => ?_)
 go_simp; refine (ccmp_any m n y _ HY.out).mono ?_
 rintro e w3 ⟨rfl, rfl⟩; go_wp2_with fail
 clear hH; refine hK.out _ _ trivial fun hH => ?_; clear hK KK
 try simp only [nrm]
 refine step_one 12 rfl (by kernel_rfl) (fun KK hK => ?_)
 go_simp
 clear hH; refine hK.out _ _ trivial fun hH => ?_; clear hK KK
 try simp only [nrm]
 refine anyH_world (fun w4 hW => ?_)
 have HB_4 : Hid (Below w.heap.size w w4) := by rw [hW]; exact HB_2.out.alloc HB_2.out.size _
 have HC : Hid (∀ k, k < 2 → w4.cell? ⟨w2.heap.size, k, none⟩ = some (.int .i64 ([x, y].getD k 0))) := fun k hk => by
  rw [hW]
  obtain h | h : k = 0 ∨ k = 1 := by omega
  ·subst h; simp
  ·subst h; simp
 clear hW
 refine step_one 13 rfl (by kernel_rfl) (fun KK hK => ?_)
 go_simp
 refine (cor_any (fun k => [x, y].getD k 0) z HC.out HZ.out).mono ?_
 rintro e w5 ⟨rfl, rfl⟩; go_wp2_with fail
 clear hH; refine hK.out _ _ trivial fun hH => ?_; clear hK KK
 try simp only [nrm]
 refine son 14 hH ?_; try simp only [nrm]
 refine wpAnyH_done (by kernel_rfl) ?_ _
 go_wp2_with fail
 go_ret
 exact ⟨rfl, HB_4.out⟩
end
end Go.Proofs.YtmmgipcacceakaaGreat

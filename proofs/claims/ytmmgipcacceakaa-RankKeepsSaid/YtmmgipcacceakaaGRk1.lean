/- RkP, RkA, RkB, RkC, RkD -/
import Derived.Test.YtmmgipcacceakaaGPa
import Derived.Test.YtmmgipcacceakaaVLp
set_option maxHeartbeats 40000000
set_option maxRecDepth 100000
namespace Go.Proofs.Ytmmgipcacceakaa
open Go.RowKit
def rkP (p : List Term) : Int × Int := (clsP p, degP p (clsP p))
def cmpI (a b : Int) : Int := if a < b then -1 else if b < a then 1 else 0
def cmpRk (a b : Int × Int) : Int := if cmpI a.1 b.1 = 0 then cmpI a.2 b.2 else cmpI a.1 b.1
def ltRk (a b : Int × Int) : Bool := decide (a.1 < b.1 ∨ a.1 = b.1 ∧ a.2 < b.2)
def redP (p q : List Term) : Bool := if clsP q = 0 then decide (p.length = 0) else decide (degP p (clsP q) < degP q (clsP q))
theorem cmpI_is (a b : Int) : (a < b ∧ cmpI a b = -1) ∨ (b < a ∧ cmpI a b = 1) ∨ (a = b ∧ cmpI a b = 0) := by
 unfold cmpI
 rcases Int.lt_trichotomy a b with h | h | h
 ·exact .inl ⟨h, if_pos h⟩
 ·subst h; exact .inr (.inr ⟨rfl, by rw [if_neg (Int.lt_irrefl _), if_neg (Int.lt_irrefl _)]⟩)
 ·exact .inr (.inl ⟨h, by rw [if_neg (by omega), if_pos h]⟩)
theorem lt_iff (a b : Int × Int) : ltRk a b = true ↔ a.1 < b.1 ∨ a.1 = b.1 ∧ a.2 < b.2 := decide_eq_true_iff
theorem lt_not (a b : Int × Int) : ltRk a b = false ↔ b.1 < a.1 ∨ b.1 = a.1 ∧ b.2 ≤ a.2 := by
 unfold ltRk
 rw [decide_eq_false_iff_not]
 omega
theorem cmpRk_is (a b : Int × Int) : (ltRk a b = true ∧ cmpRk a b = -1) ∨ (ltRk b a = true ∧ cmpRk a b = 1) ∨ (a = b ∧ ltRk a b = false ∧ ltRk b a = false ∧ cmpRk a b = 0) := by
 unfold cmpRk
 rw [lt_iff, lt_iff, lt_not, lt_not]; obtain ⟨a1, a2⟩ := a
 obtain ⟨b1, b2⟩ := b
 rcases cmpI_is a1 b1 with ⟨h, e⟩ | ⟨h, e⟩ | ⟨h, e⟩
 ·exact .inl ⟨.inl h, by show (if cmpI a1 b1 = 0 then _ else cmpI a1 b1) = _; rw [e]; rfl⟩
 ·exact .inr (.inl ⟨.inl h, by show (if cmpI a1 b1 = 0 then _ else cmpI a1 b1) = _; rw [e]; rfl⟩)
 ·subst h
  rcases cmpI_is a2 b2 with ⟨h, e2⟩ | ⟨h, e2⟩ | ⟨h, e2⟩
  ·exact .inl ⟨.inr ⟨rfl, h⟩, by show (if cmpI a1 a1 = 0 then cmpI a2 b2 else cmpI a1 a1) = _; rw [e, e2]; rfl⟩
  ·exact .inr (.inl ⟨.inr ⟨rfl, h⟩, by show (if cmpI a1 a1 = 0 then cmpI a2 b2 else cmpI a1 a1) = _; rw [e, e2]; rfl⟩)
  ·subst h
   exact .inr (.inr ⟨rfl, .inr ⟨rfl, Int.le_refl _⟩, .inr ⟨rfl, Int.le_refl _⟩, by show (if cmpI a1 a1 = 0 then cmpI a2 a2 else cmpI a1 a1) = _; rw [e, e2]; rfl⟩)
theorem lt_asym {a b : Int × Int} (h : ltRk a b = true) : ltRk b a = false := by
 rw [lt_iff] at h; rw [lt_not]
 omega
theorem lt_negtrans {a b c : Int × Int} (h : ltRk a b = false) (h2 : ltRk b c = false) : ltRk a c = false := by
 rw [lt_not] at h h2 ⊢
 omega
section
variable {α β : Type} (lt : α → α → Bool)
def insV (x : α) : List α → List α
 | [] => [x]
 | y :: r => if lt x y = true then y :: insV x r else x :: y :: r
def insR (x : α) (s : List α) : List α := (insV lt x s.reverse).reverse
def isortF (s l : List α) : List α := l.foldl (fun s x => insR lt x s) s
def isort (l : List α) : List α := isortF lt [] l
theorem insR_snoc (x y : α) (s : List α) : insR lt x (s ++ [y]) = if lt x y = true then insR lt x s ++ [y] else s ++ [y] ++ [x] := by
 unfold insR
 rw [List.reverse_append]
 show (if lt x y = true then y :: insV lt x s.reverse else x :: y :: s.reverse).reverse = _
 by_cases h : lt x y = true
 ·rw [if_pos h, if_pos h, List.reverse_cons]
 ·rw [if_neg h, if_neg h]; simp
theorem insV_perm (x : α) : ∀ s : List α, (insV lt x s).Perm (x :: s)
 | [] => .refl _
 | y :: r => by
  unfold insV
  split
  ·exact ((insV_perm x r).cons y).trans (.swap x y r)
  ·exact .refl _
theorem insR_perm (x : α) (s : List α) : (insR lt x s).Perm (x :: s) := ((insV lt x s.reverse).reverse_perm.trans (insV_perm lt x s.reverse)).trans ((s.reverse_perm).cons x)
theorem isortF_perm : ∀ (l s : List α), (isortF lt s l).Perm (s ++ l)
 | [], s => by rw [List.append_nil]; exact .refl _
 | x :: l, s => by
  refine (isortF_perm l (insR lt x s)).trans ?_
  refine ((insR_perm lt x s).append_right l).trans ?_
  exact (List.perm_middle (a := x) (l₁ := s) (l₂ := l)).symm
theorem isort_perm (l : List α) : (isort lt l).Perm l := isortF_perm lt l []
theorem isort_len (l : List α) : (isort lt l).length = l.length := (isort_perm lt l).length_eq
variable {lt}
theorem insV_sorted (ha : ∀ a b, lt a b = true → lt b a = false) (ht : ∀ a b c, lt a b = false → lt b c = false → lt a c = false) (x : α) : ∀ s : List α, s.Pairwise (fun a b => lt a b = false) → (insV lt x s).Pairwise (fun a b => lt a b = false)
 | [], _ => by unfold insV; exact List.pairwise_singleton _ _
 | y :: r, h => by
  obtain ⟨h1, h2⟩ := List.pairwise_cons.1 h
  unfold insV
  split
  ·rename_i hx
   refine List.pairwise_cons.2 ⟨fun b hb => ?_, insV_sorted ha ht x r h2⟩
   rcases List.mem_cons.1 ((insV_perm lt x r).mem_iff.1 hb) with e | e
   ·subst e; exact ha _ _ hx
   ·exact h1 b e
  ·rename_i hx
   have hx2 : lt x y = false := by simpa using hx
   refine List.pairwise_cons.2 ⟨fun b hb => ?_, h⟩
   rcases List.mem_cons.1 hb with e | e
   ·subst e; exact hx2
   ·exact ht _ _ _ hx2 (h1 b e)
theorem isortF_sorted (ha : ∀ a b, lt a b = true → lt b a = false) (ht : ∀ a b c, lt a b = false → lt b c = false → lt a c = false) : ∀ (l s : List α), s.Pairwise (fun a b => lt b a = false) → (isortF lt s l).Pairwise (fun a b => lt b a = false)
 | [], s, h => h
 | x :: l, s, h => by
  refine isortF_sorted ha ht l (insR lt x s) ?_
  unfold insR
  rw [List.pairwise_reverse]
  exact insV_sorted ha ht x _ (List.pairwise_reverse.2 h)
theorem isort_sorted (ha : ∀ a b, lt a b = true → lt b a = false) (ht : ∀ a b c, lt a b = false → lt b c = false → lt a c = false) (l : List α) : (isort lt l).Pairwise (fun a b => lt b a = false) := isortF_sorted ha ht l [] .nil
theorem insR_id (x : α) (s : List α) (h : (s ++ [x]).Pairwise (fun a b => lt b a = false)) : insR lt x s = s ++ [x] := by
 rcases List.eq_nil_or_concat s with e | ⟨t, y, e⟩
 ·subst e; rfl
 ·rw [List.concat_eq_append] at e
  subst e; rw [insR_snoc, if_neg]
  have := (List.pairwise_append.1 h).2.2 y (by simp) x (by simp)
  rw [this]
  exact fun h => by cases h
theorem isortF_id : ∀ (l s : List α), (s ++ l).Pairwise (fun a b => lt b a = false) → isortF lt s l = s ++ l
 | [], s, _ => (List.append_nil s).symm
 | x :: l, s, h => by
  have e : s ++ x :: l = (s ++ [x]) ++ l := by simp
  show isortF lt (insR lt x s) l = _
  rw [e] at h ⊢; rw [insR_id x s (List.pairwise_append.1 h).1]
  exact isortF_id l (s ++ [x]) h
theorem isort_id (l : List α) (h : l.Pairwise (fun a b => lt b a = false)) : isort lt l = l := isortF_id l [] h
variable {lt2 : β → β → Bool} {f : α → β}
theorem insV_map (hf : ∀ x y, lt2 (f x) (f y) = lt x y) (x : α) : ∀ s : List α, (insV lt x s).map f = insV lt2 (f x) (s.map f)
 | [] => rfl
 | y :: r => by
  show (if lt x y = true then y :: insV lt x r else x :: y :: r).map f = if lt2 (f x) (f y) = true then f y :: insV lt2 (f x) (r.map f) else f x :: f y :: r.map f
  rw [hf, ← insV_map hf x r]
  split <;> rfl
theorem insR_map (hf : ∀ x y, lt2 (f x) (f y) = lt x y) (x : α) (s : List α) : (insR lt x s).map f = insR lt2 (f x) (s.map f) := by
 unfold insR
 rw [List.map_reverse, insV_map hf, List.map_reverse]
theorem isortF_map (hf : ∀ x y, lt2 (f x) (f y) = lt x y) : ∀ l s : List α, (isortF lt s l).map f = isortF lt2 (s.map f) (l.map f)
 | [], _ => rfl
 | x :: l, s => by
  show (isortF lt (insR lt x s) l).map f = isortF lt2 (insR lt2 (f x) (s.map f)) (l.map f)
  rw [isortF_map hf l, insR_map hf]
theorem isort_map (hf : ∀ x y, lt2 (f x) (f y) = lt x y) (l : List α) : (isort lt l).map f = isort lt2 (l.map f) := isortF_map hf l []
end
def ltP (p q : List Term) : Bool := ltRk (rkP p) (rkP q)
def srtP (l : List (List Term)) : List (List Term) := isort ltP l
theorem srtP_sorted (l : List (List Term)) : (srtP l).Pairwise (fun a b => ltP b a = false) := isort_sorted (lt := ltP) (fun _ _ h => lt_asym h) (fun _ _ _ h h2 => lt_negtrans h h2) l
open Lib (hid)
theorem cnan_any (a : Int) (w : World) : Calls Try.prog 67 #[.int .i64 a] w fun e w' => e = .returned (.bool false) ∧ w = w' := by
 have hd : (a != a) = false := by simp
 go_enter Try.func67, Try.ntmps67
 go_wp2
 go_ret
 exact ⟨rfl, rfl⟩
theorem ccmp_any (a b z : Int) (w : World) (hz : cmpI a b = z) : Calls Try.prog 39 #[.int .i64 a, .int .i64 b] w fun e w' => e = .returned (.int .i64 z) ∧ w = w' := by
 rcases cmpI_is a b with ⟨h, e⟩ | ⟨h, e⟩ | ⟨h, e⟩
 ·rw [e] at hz
  have hd : decide (a < b) = true := decide_eq_true h
  subst hz
  go_enter Try.func39, Try.ntmps39
  go_wp2_with fail; refine (cnan_any a _).mono ?_
  rintro e w1 ⟨rfl, rfl⟩; go_wp2_with fail; refine (cnan_any b _).mono ?_; rintro e w1 ⟨rfl, rfl⟩; go_wp2_with fail
  go_ret
  exact ⟨rfl, rfl⟩
 ·rw [e] at hz
  have hd : decide (a < b) = false := decide_eq_false (by omega)
  have hd2 : decide (b < a) = true := decide_eq_true h
  have hd3 : decide (a > b) = true := decide_eq_true h
  subst hz
  go_enter Try.func39, Try.ntmps39
  go_wp2_with fail; refine (cnan_any a _).mono ?_
  rintro e w1 ⟨rfl, rfl⟩; go_wp2_with fail; refine (cnan_any b _).mono ?_; rintro e w1 ⟨rfl, rfl⟩; go_wp2_with fail
  go_ret
  exact ⟨rfl, rfl⟩
 ·rw [e] at hz
  subst h
  have hd : decide (a < a) = false := decide_eq_false (by omega)
  have hd3 : decide (a > a) = false := decide_eq_false (by omega)
  subst hz
  go_enter Try.func39, Try.ntmps39
  go_wp2_with fail; refine (cnan_any a _).mono ?_
  rintro e w1 ⟨rfl, rfl⟩; go_wp2_with fail; refine (cnan_any a _).mono ?_; rintro e w1 ⟨rfl, rfl⟩; go_wp2_with fail
  go_ret
  exact ⟨rfl, rfl⟩
theorem cor_any (f : Nat → Int) (z : Int) {b : Nat} {w : World} (hc : ∀ k, k < 2 → w.cell? ⟨b, k, none⟩ = some (.int .i64 (f k))) (hz : (if f 0 = 0 then f 1 else f 0) = z) :
  Calls Try.prog 37 #[.slice (some ⟨b, 0, none⟩) 2 2] w fun e w' => e = .returned (.int .i64 z) ∧ w = w' := by
 have HC := hid hc; have HZ := hid hz; clear hc hz
 go_enter Try.func37, Try.ntmps37
 go_wp2
 go_loopw [8] (fun i wr => ∃ k : Nat, i = .int .i64 k ∧ k ≤ 2 ∧ Hid (∀ j, j < k → f j = 0) ∧ w = wr) (fun i _ => 2 - (intOf i).toNat)
 case atStart => exact ⟨0, rfl, by omega, (fun j h => by omega), rfl⟩
 case round =>
  obtain ⟨k, rfl, hk, HF, rfl⟩ := hrel
  by_cases hkn : k < 2
  ·have c0 := HC.out k hkn
   obtain ⟨v, hv⟩ : ∃ v, f k = v := ⟨_, rfl⟩; rw [hv] at c0; have HV := hid hv; clear hv
   have hki : (k : Int) < 2 := by omega
   by_cases hv0 : v = 0
   ·have hd : (v != 0) = false := by simp [hv0]
    have HN : Hid (∀ j, j < k + 1 → f j = 0) := fun j hj => by
     by_cases h : j < k
     ·exact HF.out j h
     ·obtain rfl : j = k := by omega
      rw [HV.out, hv0]
    clear hv0
    go_wp2
    go_roundw
    case rel => exact ⟨k + 1, by go_num, by omega, HN, trivial⟩
    case measure => simp [intOf]; omega
   ·have hd : (v != 0) = true := by simpa using hv0
    have HR : Hid (v = z) := by
     rw [Hid, ← HZ.out, ← HV.out]; have h2 := HV.out
     obtain h | h : k = 0 ∨ k = 1 := by omega
     ·subst h; rw [if_neg (by rw [h2]; exact hv0)]
     ·subst h; rw [if_pos (HF.out 0 (by omega))]
    clear hv0
    go_wp2
    go_ret
    have h := HR.out; subst h
    exact ⟨rfl, rfl⟩
  ·obtain rfl : k = 2 := by omega
   have HR : Hid (z = 0) := by rw [Hid, ← HZ.out, if_pos (HF.out 0 (by omega)), HF.out 1 (by omega)]
   go_wp2
   go_ret
   have h := HR.out; subst h
   exact ⟨rfl, rfl⟩
theorem rcmp_any (a1 a2 b1 b2 z : Int) (w : World) (hz : cmpRk (a1, a2) (b1, b2) = z) :
  Calls Try.prog 33 #[.agg #[.int .i64 a1, .int .i64 a2], .agg #[.int .i64 b1, .int .i64 b2]] w (RetB (.int .i64 z) w) := by
 obtain ⟨x, hx⟩ : ∃ x, cmpI a1 b1 = x := ⟨_, rfl⟩; obtain ⟨y, hy⟩ : ∃ y, cmpI a2 b2 = y := ⟨_, rfl⟩
 have HZ : Hid ((if x = 0 then y else x) = z) := by
  rw [Hid, ← hx, ← hy]
  exact hz
 have HX := hid hx; have HY := hid hy; clear hx hy hz
 go_enter Try.func33, Try.ntmps33
 go_upto_region 1 with (fail)
 refine wp_world (fun W hW => ?_)
 obtain ⟨q1, q2, hB⟩ := box2 w [.int .i64 a1, .int .i64 a2] [.int .i64 b1, .int .i64 b2] 30 30; rw [← hW] at q1 q2 hB; clear hW; have A0 := hid q1; have B0 := hid q2; have HB0 := hid hB; clear q1 q2 hB
 refine wp_region_held_drew (S := fun w' => (w'.cell? ⟨w.heap.size, 0, none⟩ = some (.int .i64 a1) ∧ w'.cell? ⟨w.heap.size, 1, none⟩ = some (.int .i64 a2)) ∧ (w'.cell? ⟨w.heap.size + 1, 0, none⟩ = some (.int .i64 b1) ∧ w'.cell? ⟨w.heap.size + 1, 1, none⟩ = some (.int .i64 b2))) (by kernel_rfl) ⟨A0.out.c2, B0.out.c2⟩ (fun hH => ?_)
 refine anyH_world (fun w1 hW => ?_)
 have HB1 : Hid (Below w.heap.size w w1) := by rw [hW]; exact HB0.out.drew
 have A1 : Hid (AtN w1 w.heap.size [.int .i64 a1, .int .i64 a2] 30) := by rw [hW]; exact A0.out.below (Below.refl _ _).drew
 have B1 : Hid (AtN w1 (w.heap.size + 1) [.int .i64 b1, .int .i64 b2] 30) := by rw [hW]; exact B0.out.below (Below.refl _ _).drew
 rw [← hW] at hH; clear HB0 A0 B0
 clear hW
 refine son 0 hH ?_; try simp only [nrm]
 refine son 1 hH ?_; try simp only [nrm]
 refine son 2 hH ?_; try simp only [nrm]
 refine son 3 hH ?_; try simp only [nrm]
 refine son 5 hH ?_; try simp only [nrm]
 refine son 6 hH ?_; try simp only [nrm]
 refine son 7 hH ?_; try simp only [nrm]
 refine son 8 hH ?_; try simp only [nrm]
 refine step_one 4 rfl (by kernel_rfl) (fun KK hK => ?_)
 go_simp; refine (ccmp_any a1 b1 x _ HX.out).mono ?_
 rintro e w2 ⟨rfl, rfl⟩; go_wp2_with fail
 clear hH; refine hK.out _ _ ⟨A1.out.c2, B1.out.c2⟩ fun hH => ?_; clear hK KK
 try simp only [nrm]
 refine step_one 9 rfl (by kernel_rfl) (fun KK hK => ?_)
 go_simp; refine (ccmp_any a2 b2 y _ HY.out).mono ?_
 rintro e w2 ⟨rfl, rfl⟩; go_wp2_with fail
 clear hH; refine hK.out _ _ ⟨A1.out.c2, B1.out.c2⟩ fun hH => ?_; clear hK KK
 try simp only [nrm]
 refine step_one 10 rfl (by kernel_rfl) (fun KK hK => ?_)
 go_simp
 clear hH; refine hK.out _ _ ⟨(A1.out.below (below_alloc _ _)).c2, (B1.out.below (below_alloc _ _)).c2⟩ fun hH => ?_; clear hK KK
 try simp only [nrm]
 refine anyH_world (fun w3 hW => ?_)
 have HB3 : Hid (Below w.heap.size w w3) := by rw [hW]; exact HB1.out.alloc HB1.out.size _
 have A3 : Hid (AtN w3 w.heap.size [.int .i64 a1, .int .i64 a2] 30) := by rw [hW]; exact A1.out.below (below_alloc _ _)
 have B3 : Hid (AtN w3 (w.heap.size + 1) [.int .i64 b1, .int .i64 b2] 30) := by rw [hW]; exact B1.out.below (below_alloc _ _)
 have HC : Hid (∀ k, k < 2 → w3.cell? ⟨w1.heap.size, k, none⟩ = some (.int .i64 ([x, y].getD k 0))) := fun k hk => by
  rw [hW]
  obtain h | h : k = 0 ∨ k = 1 := by omega
  ·subst h; simp
  ·subst h; simp
 rw [← hW] at hH; clear hW
 refine step_one 11 rfl (by kernel_rfl) (fun KK hK => ?_)
 go_simp
 refine (cor_any (fun k => [x, y].getD k 0) z HC.out HZ.out).mono ?_
 rintro e w4 ⟨rfl, rfl⟩; go_wp2_with fail
 clear hH; refine hK.out _ _ ⟨A3.out.c2, B3.out.c2⟩ fun hH => ?_; clear hK KK
 try simp only [nrm]
 refine son 12 hH ?_; try simp only [nrm]
 refine wpAnyH_done (by kernel_rfl) ?_ _
 go_wp2_with fail
 go_ret
 exact ⟨rfl, HB3.out⟩
open Lib (hid)
section
variable {ao bo : Option Addr} {n cap m cb : Nat} {ps qs : List Raw} {w : World}
theorem rof_any [Ol] (c d : Int) (hp : Pr w ao n cap ps) (hl : ∀ t ∈ ps, t.1.2.length ≤ 1000) (hc : clsP (plnR ps) = c) (hd : degP (plnR ps) c = d) :
  Calls Try.prog 11 #[.slice ao n cap] w (RetB (.agg #[.int .i64 c, .int .i64 d]) w) := by
 have HP := hid hp; have HL := hid hl; have HC := hid hc; have HD := hid hd; clear hp hl hc hd
 go_enter Try.func11, Try.ntmps11
 go_upto_region 1 with (fail)
 refine wp_world (fun W hW => ?_)
 obtain ⟨a1, hB⟩ := box1 w [.int .i64 0, .int .i64 0] 30; rw [← hW] at a1 hB; clear hW; have HA0 := hid a1; have HB0 := hid hB; clear a1 hB; go_wp2_with fail; refine (vClass_any c (HP.out.below HB0.out) HL.out HC.out).mono ?_; rintro e w1 ⟨rfl, hB⟩; have HA1 := hid (HA0.out.below hB); have HB1 := hid (Below.steps HB0.out hB); clear hB HA0 HB0; go_wp2_with fail; refine (vDegree_any c d (HP.out.below HB1.out) HL.out HD.out).mono ?_; rintro e w2 ⟨rfl, hB⟩; have HA2 := hid (HA1.out.below hB)
 have HB2 := hid (Below.steps HB1.out hB); clear hB HA1 HB1; obtain ⟨d0, d1⟩ := HA2.out.c2; have f0 := HA2.out.fz 0; have f1 := HA2.out.fz 1; go_wp2_with fail; clear d0 d1 f0 f1
 refine post_world (Q := bodyPost _ _ _ _ _) (fun W hW => ?_)
 have R : AtN W w.heap.size [.int .i64 c, .int .i64 d] 30 := by rw [hW]; exact (HA2.out.set 0 _).set 1 _
 have HBW : Below w.heap.size w W := by rw [hW]; exact HB2.out.grown (grown_put2 _ w.heap.size 0 _ _) HB2.out.size (fun r e => by cases e; exact Nat.le_refl _)
 clear hW; obtain ⟨d0, d1⟩ := R.c2
 exact bodyPost_ret (v := .agg #[.int .i64 c, .int .i64 d]) (by simp [results, Try.results11, go_sem, d0, d1]) rfl ⟨rfl, HBW⟩
theorem rcompare_any [Ol] (z : Int) (hp : Pr w ao n cap ps) (hl : ∀ t ∈ ps, t.1.2.length ≤ 1000) (hq : Pr w bo m cb qs) (hk : ∀ t ∈ qs, t.1.2.length ≤ 1000) (hz : cmpRk (rkP (plnR ps)) (rkP (plnR qs)) = z) :
  Calls Try.prog 12 #[.slice ao n cap, .slice bo m cb] w (RetB (.int .i64 z) w) := by
 obtain ⟨c1, hc1⟩ : ∃ c, clsP (plnR ps) = c := ⟨_, rfl⟩; obtain ⟨d1, hd1⟩ : ∃ d, degP (plnR ps) c1 = d := ⟨_, rfl⟩; obtain ⟨c2, hc2⟩ : ∃ c, clsP (plnR qs) = c := ⟨_, rfl⟩; obtain ⟨d2, hd2⟩ : ∃ d, degP (plnR qs) c2 = d := ⟨_, rfl⟩
 have HZ : Hid (cmpRk (c1, d1) (c2, d2) = z) := by
  rw [Hid, ← hz, ← hd1, ← hd2, ← hc1, ← hc2]
  rfl
 have H1 := hid (And.intro hp (And.intro hl (And.intro hc1 hd1))); have H2 := hid (And.intro hq (And.intro hk (And.intro hc2 hd2))); clear hp hl hc1 hd1 hq hk hc2 hd2 hz
 go_enter Try.func12, Try.ntmps12
 go_wp2_with fail; refine (rof_any c1 d1 H1.out.1 H1.out.2.1 H1.out.2.2.1 H1.out.2.2.2).mono ?_
 rintro e w1 ⟨rfl, hB⟩; have HB1 := hid hB; clear hB; go_wp2_with fail; refine (rof_any c2 d2 (H2.out.1.below HB1.out) H2.out.2.1 H2.out.2.2.1 H2.out.2.2.2).mono ?_; rintro e w2 ⟨rfl, hB⟩; have HB2 := hid (Below.steps HB1.out hB); clear hB HB1; go_wp2_with fail; refine (rcmp_any c1 d1 c2 d2 z _ HZ.out).mono ?_; rintro e w3 ⟨rfl, hB⟩; have HB3 := hid (Below.steps HB2.out hB); clear hB HB2; go_wp2_with fail
 go_ret
 exact ⟨rfl, HB3.out⟩
end
theorem Pc.cut1 [Ol] {K : Nat} {w : World} {ao : Option Addr} {n cap : Nat} {p : List Term} (h : Pc K w ao n cap p) (k : Nat) (hk : k ≤ n) : Pc K w ao k cap (p.take k) := by
 obtain ⟨X, h1, h2⟩ := h
 exact ⟨X.take k, h1.take k hk, tmsT_take k h2⟩
def LeadB (w : World) (r : Bool) (e : Ending) (w' : World) : Prop := ∃ m ao n cap bo k cb, e = .returned (.tuple #[.agg #[.bool m, .slice ao n cap, .slice bo k cb], .bool r]) ∧ Below w.heap.size w w'
theorem plead_raw [Ol] {K : Nat} {w : World} {ao : Option Addr} {n cap : Nat} {ps : List Raw} (h0p : Pr w ao n cap ps) (hl : ∀ t ∈ ps, t.1.2.length ≤ K) (hn : n ≤ 1000000) (hK : K ≤ 1000) :
  Calls Try.prog 34 #[.slice ao n cap] w (LeadB w (!decide ((plnR ps).length = 0))) := by
 obtain ⟨p, hpp⟩ : ∃ p, plnR ps = p := ⟨_, rfl⟩
 have HQ : Hid (Calls Try.prog 64 #[.slice ao n cap] w (OrZ K w n ps)) := orZ_pc h0p hl hK
 have HPP := hid hpp; have HPR := hid (And.intro h0p hl); rw [hpp]; clear h0p hl hpp HQ
 go_enter Try.func34, Try.ntmps34
 go_upto_region 1 with (fail)
 refine wp_world (fun w0 hW => ?_)
 obtain ⟨a1, hB⟩ := box1 w [.bool false, .slice none 0 0, .slice none 0 0] 63; rw [← hW] at a1 hB; clear hW; have HA0 := hid a1; have HB0 := hid hB; clear a1 hB; go_wp2_with fail; refine (orZ_pc (HPR.out.1.below HB0.out) HPR.out.2 hK).mono ?_; rintro e w1 ⟨ao, n1, cap, rfl, hX, hmn, hB⟩; rw [HPP.out] at hX; have HPL := hid hX.len; have HP := hid hX; obtain ⟨X, hX1, _⟩ := hX; have hcap := hX1.le; have hbig := hX1.big; clear hX1 HPR; have HA1 := hid (HA0.out.below hB); have HB1 := hid (Below.steps HB0.out hB)
 clear hB HA0 HB0
 by_cases h0 : n1 = 0
 ·subst h0
  have hp0 : p = [] := List.eq_nil_of_length_eq_zero HPL.out
  have HP0 := hid hp0; obtain ⟨d0, d1, d2⟩ := HA1.out.c3; obtain ⟨f0, f1, f2⟩ := HA1.out.f3; clear hp0; go_wp2_with fail; clear d0 d1 d2 f0 f1 f2
  refine post_world (Q := bodyPost _ _ _ _ _) (fun W hW => ?_)
  have R : AtN W w.heap.size [.bool false, .slice none 0 0, .slice none 0 0] 63 := by rw [hW]; exact ((HA1.out.set 0 _).set 1 _).set 2 _
  have HBW : Below w.heap.size w W := by rw [hW]; exact HB1.out.grown (grown_put3 _ w.heap.size 0 _ _ _) HB1.out.size (fun r e => by cases e; exact Nat.le_refl _)
  clear hW; obtain ⟨d0, d1, d2⟩ := R.c3
  exact bodyPost_ret (v := .tuple #[.agg #[.bool false, .slice none 0 0, .slice none 0 0], .bool false]) (by simp [results, Try.results34, go_sem, d0, d1, d2]) rfl ⟨_, _, _, _, _, _, _, by rw [HP0.out]; rfl, HBW⟩
 ·have hd : ((n1 : Int) == 0) = false := beq_eq_false_iff_ne.2 (by omega)
  have h1c : 1 ≤ cap := by omega
  go_wp2_with fail
  refine (own_any8 (HP.out.cut1 1 (by omega)).inn (by omega) (by omega)).mono ?_
  rintro e w2 ⟨oa, on, oc, rfl, h1, h2⟩
  have hpl : (p.take 1).length = 1 := by rw [List.length_take, HPL.out]; omega
  obtain rfl : on = 1 := by rw [← h1.len, hpl]
  obtain ⟨t, r, hpt⟩ : ∃ t r, p = t :: r := by
   cases p with
   | nil => exact absurd HPL.out.symm (by simpa using h0)
   | cons t r => exact ⟨t, r, rfl⟩
  subst hpt; have HA2 := hid (HA1.out.below h2); have HB2 := hid (Below.steps HB1.out h2)
  obtain ⟨b, off, xm, xa, xn, xc, xp, xq, xr, hao, hbl, hc, hCn, hBd, hMl⟩ := h1.pc.at (k := 0) (by omega)
  subst hao; rw [Nat.zero_mul, Nat.add_zero] at hc; obtain ⟨c0, c1, c2⟩ := hc w2 (Below.refl _ _); clear h1 h2 hc hCn hBd hMl hpl; obtain ⟨d0, d1, d2⟩ := HA2.out.c3; obtain ⟨f0, f1, f2⟩ := HA2.out.f3; go_wp2_with fail; clear d0 d1 d2 f0 f1 f2 c0 c1 c2
  refine post_world (Q := bodyPost _ _ _ _ _) (fun W hW => ?_)
  have hg := grown_put3 w2 w.heap.size 0 (.bool xm) (.slice xa xn xc) (.slice xp xq xr)
  have R : AtN W w.heap.size [.bool xm, .slice xa xn xc, .slice xp xq xr] 63 := by rw [hW]; exact ((HA2.out.set 0 _).set 1 _).set 2 _
  have HBW : Below w.heap.size w W := by rw [hW]; exact HB2.out.grown hg HB2.out.size (fun r e => by cases e; exact Nat.le_refl _)
  clear hW hg; obtain ⟨d0, d1, d2⟩ := R.c3
  exact bodyPost_ret (v := .tuple #[.agg #[.bool xm, .slice xa xn xc, .slice xp xq xr], .bool true]) (by simp [results, Try.results34, go_sem, d0, d1, d2]) rfl ⟨_, _, _, _, _, _, _, rfl, HBW⟩
open Lib (hid)
section
variable {ao bo : Option Addr} {n cap m cb : Nat} {ps qs : List Raw} {w : World}
theorem rreduced_any [Ol] (r : Bool) (hp : Pr w ao n cap ps) (hl : ∀ t ∈ ps, t.1.2.length ≤ 1000) (hn : n ≤ 1000000) (hq : Pr w bo m cb qs) (hk : ∀ t ∈ qs, t.1.2.length ≤ 1000) (hr : redP (plnR ps) (plnR qs) = r) :
  Calls Try.prog 13 #[.slice ao n cap, .slice bo m cb] w (RetB (.bool r) w) := by
 obtain ⟨c, hc⟩ : ∃ c, clsP (plnR qs) = c := ⟨_, rfl⟩; obtain ⟨d, hd⟩ : ∃ d, degP (plnR qs) c = d := ⟨_, rfl⟩; obtain ⟨y, hy⟩ : ∃ y, degP (plnR ps) c = y := ⟨_, rfl⟩; have HY := hid hy
 have HR : Hid ((if c = 0 then decide ((plnR ps).length = 0) else decide (y < d)) = r) := by
  rw [Hid, ← hr, ← hy, ← hd, ← hc]
  rfl
 have HP := hid (And.intro hp hl); have HQ := hid (And.intro hq (And.intro hk (And.intro hc hd))); clear hp hl hc hd hq hk hr hy
 go_enter Try.func13, Try.ntmps13
 go_wp2_with fail; refine (rof_any c d HQ.out.1 HQ.out.2.1 HQ.out.2.2.1 HQ.out.2.2.2).mono ?_
 rintro e w1 ⟨rfl, hB⟩; have HB1 := hid hB; clear hB
 go_upto_region 2 with (fail)
 refine wp_world (fun W hW => ?_)
 obtain ⟨q1, q2⟩ := box1 w1 [.int .i64 c, .int .i64 d] 30
 have A2 : Hid (AtN W w1.heap.size [.int .i64 c, .int .i64 d] 30) := by rw [hW]; exact q1
 have HB2 : Hid (Below w.heap.size w W) := by
  rw [hW]
  exact Below.steps HB1.out q2
 clear hW q1 q2 HB1
 by_cases hc0 : c = 0
 ·have HR2 : Hid ((!(!decide ((plnR ps).length = 0))) = r) := by
   have h := HR.out; rw [if_pos hc0] at h; rw [Hid, Bool.not_not]
   exact h
  obtain ⟨d0, d1⟩ := A2.out.c2
  have hd : (c == 0) = true := by simpa using hc0
  clear HR hc0; go_wp2_with fail
  refine (plead_raw (HP.out.1.below HB2.out) HP.out.2 hn (by omega)).mono ?_
  rintro e w3 ⟨xm, xa, xn, xc, xb, xk, xl, rfl, hB⟩; have HB3 := hid (Below.steps HB2.out hB); obtain ⟨z, hz⟩ : ∃ z, (!decide ((plnR ps).length = 0)) = z := ⟨_, rfl⟩; have HR3 := HR2.out; rw [hz] at HR3 ⊢; have HR4 := hid HR3; clear hB HB2 A2 d0 d1 HR2 hz HR3
  go_upto_region 4 with (fail)
  refine wp_world (fun W2 hW => ?_)
  obtain ⟨q1, q2⟩ := box1 w3 [.bool xm, .slice xa xn xc, .slice xb xk xl] 63
  have HB4 : Hid (Below w.heap.size w W2) := by
   rw [hW]
   exact Below.steps HB3.out q2
  clear hW q1 q2 HB3; go_wp2_with fail
  go_ret
  rw [HR4.out]
  exact ⟨rfl, HB4.out⟩
 ·have HR2 : Hid (decide (y < d) = r) := by
   have h := HR.out; rw [if_neg hc0] at h
   exact h
  have hd : (c == 0) = false := by simpa using hc0
  have hyr := HR2.out; clear HR hc0; obtain ⟨d0, d1⟩ := A2.out.c2
  go_upto_region 5 with (fail)
  clear d0 d1
  refine wp_region_held_drew (S := fun w' => w'.cell? ⟨w1.heap.size, 0, none⟩ = some (.int .i64 c) ∧ w'.cell? ⟨w1.heap.size, 1, none⟩ = some (.int .i64 d)) (by kernel_rfl) A2.out.c2 (fun hH => ?_)
  refine anyH_world (fun w3 hW => ?_)
  have HB3 : Hid (Below w.heap.size w w3) := by rw [hW]; exact HB2.out.drew
  have A3 : Hid (AtN w3 w1.heap.size [.int .i64 c, .int .i64 d] 30) := by rw [hW]; exact A2.out.below (Below.refl _ _).drew
  rw [← hW] at hH; clear HB2 A2
  clear hW
  refine son 0 hH ?_; try simp only [nrm]
  refine son 1 hH ?_; try simp only [nrm]
  refine son 2 hH ?_; try simp only [nrm]
  refine son 4 hH ?_; try simp only [nrm]
  refine son 5 hH ?_; try simp only [nrm]
  refine step_one 3 rfl (by kernel_rfl) (fun KK hK => ?_)
  go_simp; refine (vDegree_any c y (HP.out.1.below HB3.out) HP.out.2 HY.out).mono ?_
  rintro e w4 ⟨rfl, hB⟩; have HB4 := hid (Below.steps HB3.out hB); have A4 := hid (A3.out.below hB); clear hB HB3 A3; go_wp2_with fail
  clear hH; refine hK.out _ _ A4.out.c2 fun hH => ?_; clear hK KK
  try simp only [nrm]
  refine son 6 hH ?_; try simp only [nrm]
  refine son 7 hH ?_; try simp only [nrm]
  refine wpAnyH_done (by kernel_rfl) ?_ _
  go_wp2_with fail
  go_ret
  exact ⟨rfl, HB4.out⟩
def IsG [Ol] (G : Nat) (lb : Array Value) (f : List Raw → Bool) (w0 : World) : Prop := ∀ (ao : Option Addr) (n cap : Nat) (ps : List Raw) (W : World), Below w0.heap.size w0 W → Pr W ao n cap ps → (∀ t ∈ ps, t.1.2.length ≤ 1000) →
 Calls Try.prog G (#[.slice ao n cap] ++ lb) W (RetB (.bool (f ps)) W)
theorem any_next (f : List Raw → Bool) {ls : List (List Raw)} {k : Nat} (h : k < ls.length) : (ls.take (k + 1)).any f = ((ls.take k).any f || f (ls.getD k [])) := by
 rw [List.take_succ_eq_append_getElem h, List.any_append, getD_of _ h]
 simp
theorem indexP_any [Ol] {G : Nat} {lb : Array Value} {f : List Raw → Bool} (eg : ∀ args w, (callFunc G args).run Try.prog w = .ok (.enter G args) w) {ls : List (List Raw)} (hV : IsG G lb f w)
  (h : Plr w ao n cap ls) (hl : ∀ ps ∈ ls, ∀ t ∈ ps, t.1.2.length ≤ 1000) :
  Calls Try.prog 66 #[.slice ao n cap, .func (.func G) #[] lb] w (fun e w' => ∃ z : Int, e = .returned (.int .i64 z) ∧ Below w.heap.size w w' ∧ (decide (0 ≤ z) = ls.any f)) := by
 have HP := hid h; have HPL := hid h.len; have HL := hid hl; have HV := hid hV; have hbig := h.big; clear h hl hV
 go_enter Try.func66, Try.ntmps66
 go_wp2
 go_loopw [8] (fun i wr => ∃ k : Nat, i = .int .i64 k ∧ k ≤ n ∧ Hid (Below w.heap.size w wr ∧ (ls.take k).any f = false)) (fun i _ => n - (intOf i).toNat)
 case atStart => exact ⟨0, rfl, Nat.zero_le _, Below.refl _ _, by rw [List.take_zero]; rfl⟩
 case round =>
  obtain ⟨k, rfl, hk, HS⟩ := hrel
  by_cases hkn : k < n
  ·obtain ⟨b, off, po, pn, pc, hao, hb, hc, hp⟩ := (HP.out.below HS.out.1).at hkn
   subst hao; have c0 := hc wr (Below.refl _ _)
   have hki : (k : Int) < (n : Int) := by omega
   have hkl : k < ls.length := by rw [HPL.out]; exact hkn
   obtain ⟨q, hq⟩ : ∃ q, f (ls.getD k []) = q := ⟨_, rfl⟩; have hnx := any_next f hkl; rw [HS.out.2, Bool.false_or, hq] at hnx; have HN := hid hnx; have hcall := HV.out po pn pc _ wr HS.out.1 hp (HL.out _ (getD_in [] hkl)); rw [hq] at hcall; have HC := hid hcall; clear hc hp hq hnx hcall
   cases q with
   | true =>
    go_wp2_with (go_at_fn G; refine HC.out.mono ?_; rintro e w2 ⟨rfl, hB⟩; have HB2 := hid hB; clear hB)
    go_ret
    refine ⟨k, rfl, Below.steps HS.out.1 HB2.out, ?_⟩
    rw [decide_eq_true (by omega)]
    refine (List.any_eq_true.2 ?_).symm
    obtain ⟨x, hx, h2⟩ := List.any_eq_true.1 HN.out
    exact ⟨x, List.mem_of_mem_take hx, h2⟩
   | false =>
    go_wp2_with (go_at_fn G; refine HC.out.mono ?_; rintro e w2 ⟨rfl, hB⟩; have HB2 := hid hB; clear hB)
    go_roundw
    case rel => exact ⟨k + 1, by go_num, by omega, Below.steps HS.out.1 HB2.out, HN.out⟩
    case measure => simp [intOf]; omega
  ·obtain rfl : k = n := by omega
   have HN : Hid (ls.any f = false) := by
    have h := HS.out.2
    rw [List.take_of_length_le (by rw [HPL.out]; exact Nat.le_refl _)] at h
    exact h
   go_wp2
   go_ret
   exact ⟨-1, rfl, HS.out.1, by rw [HN.out]; rfl⟩
theorem containsP_any [Ol] {G : Nat} {lb : Array Value} {f : List Raw → Bool} (eg : ∀ args w, (callFunc G args).run Try.prog w = .ok (.enter G args) w) {ls : List (List Raw)} (hV : IsG G lb f w)
  (h : Plr w ao n cap ls) (hl : ∀ ps ∈ ls, ∀ t ∈ ps, t.1.2.length ≤ 1000) :
  Calls Try.prog 35 #[.slice ao n cap, .func (.func G) #[] lb] w (RetB (.bool (ls.any f)) w) := by
 have H := hid (indexP_any eg hV h hl); clear h hl hV
 go_enter Try.func35, Try.ntmps35
 go_wp2_with fail
 refine H.out.mono ?_
 rintro e w1 ⟨z, rfl, hB, hz⟩; have HB := hid hB; have HZ := hid hz; clear hB hz; go_wp2_with fail
 go_ret
 refine ⟨?_, HB.out⟩
 rw [← HZ.out]
 try rfl
theorem rby1_any [Ol] (r : Bool) {B : Nat} (hb : w.cell? ⟨B, 0, none⟩ = some (.slice ao n cap)) (hp : Pr w ao n cap ps) (hl : ∀ t ∈ ps, t.1.2.length ≤ 1000) (hn : n ≤ 1000000) (hq : Pr w bo m cb qs) (hk : ∀ t ∈ qs, t.1.2.length ≤ 1000) (hr : (!redP (plnR ps) (plnR qs)) = r) :
  Calls Try.prog 36 #[.slice bo m cb, .pointer (some ⟨B, 0, none⟩)] w (RetB (.bool r) w) := by
 obtain ⟨q, hq2⟩ : ∃ q, redP (plnR ps) (plnR qs) = q := ⟨_, rfl⟩; rw [hq2] at hr; have H := hid (rreduced_any q hp hl hn hq hk hq2); clear hp hl hq hk hq2
 go_enter Try.func36, Try.ntmps36
 go_wp2_with fail
 refine H.out.mono ?_
 rintro e w1 ⟨rfl, hB⟩; have HB := hid hB; clear hB hb; go_wp2_with fail
 go_ret
 exact ⟨rfl, HB.out⟩
theorem all_not {α : Type} (f : α → Bool) (l : List α) : (!l.any fun x => !f x) = l.all f := by
 induction l with
 | nil => rfl
 | cons x l ih => rw [List.any_cons, List.all_cons, ← ih, Bool.not_or, Bool.not_not]
theorem rby_any [Ol] (r : Bool) {ls : List (List Raw)} (hp : Pr w ao n cap ps) (hl : ∀ t ∈ ps, t.1.2.length ≤ 1000) (hn : n ≤ 1000000) (h : Plr w bo m cb ls) (hk : ∀ qs ∈ ls, ∀ t ∈ qs, t.1.2.length ≤ 1000) (hr : (ls.all fun qs => redP (plnR ps) (plnR qs)) = r) :
  Calls Try.prog 15 #[.slice ao n cap, .slice bo m cb] w (RetB (.bool r) w) := by
 rw [← all_not] at hr; have HR := hid hr
 have HP := hid (And.intro hp hl); have HL := hid (And.intro h hk); clear hp hl h hk hr
 go_enter Try.func15, Try.ntmps15
 go_upto_region 1 with (fail)
 refine wp_world (fun W hW => ?_)
 obtain ⟨a1, hB⟩ := box1 w [.slice ao n cap] 23; rw [← hW] at a1 hB; clear hW; have HB0 := hid hB
 have HG : Hid (IsG 36 #[.pointer (some ⟨w.heap.size, 0, none⟩)] (fun qs => !redP (plnR ps) (plnR qs)) W) := fun bo m cb qs W2 hW2 hq hk => by
  exact rby1_any _ ((hW2.cell (p := ⟨w.heap.size, 0, none⟩) a1.lt).trans a1.c1) (HP.out.1.below (Below.steps hB hW2)) HP.out.2 hn hq hk rfl
 clear a1 hB; go_wp2_with fail
 refine (containsP_any (enters_of Try.func36 (by kernel_rfl) rfl) HG.out (HL.out.1.below HB0.out) HL.out.2).mono ?_
 rintro e w1 ⟨rfl, hB⟩; have HB1 := hid (Below.steps HB0.out hB); clear hB HB0
 obtain ⟨z, hz⟩ : ∃ z, (ls.any fun qs => !redP (plnR ps) (plnR qs)) = z := ⟨_, rfl⟩
 have HR2 := HR.out; rw [hz] at HR2 ⊢; clear hz HR; go_wp2_with fail
 go_ret
 exact ⟨rfl, HB1.out⟩
end
theorem Plr.cut [Ol] {w : World} {ao : Option Addr} {n cap : Nat} {ls : List (List Raw)} (h : Plr w ao n cap ls) (q : Nat) (hq : q ≤ n) : Plr w ao q cap (ls.take q) := by
 obtain ⟨X, h1, h2⟩ := h
 exact ⟨X.take q, h1.take q hq, tmsT_take q h2⟩
section
variable {ao bo : Option Addr} {n cap m cb : Nat} {ls ms : List (List Raw)} {w : World}
end
end Go.Proofs.Ytmmgipcacceakaa

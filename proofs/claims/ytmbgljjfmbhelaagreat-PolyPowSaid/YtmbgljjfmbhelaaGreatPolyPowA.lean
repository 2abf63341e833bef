/-
  What the law PolyPow wants: powers in one contract, what is told of two answers, a list of one term.
-/
import Derived.Test.YtmbgljjfmbhelaaGreatGPc
import Derived.Test.YtmbgljjfmbhelaaGreatPlKn
import Derived.Test.YtmbgljjfmbhelaaGreatPPow
set_option maxHeartbeats 40000000
set_option maxRecDepth 100000
namespace Go.Proofs.YtmbgljjfmbhelaaGreat
open Go.RowKit
theorem pkb_four : ∀ n, n ≤ 4 → ∀ K, K ≤ 4 → ∀ k, k ≤ 6 → pkb n K k ≤ 3000 := by decide +kernel
theorem kbT_four : ∀ n, n ≤ 4 → ∀ k, k ≤ 6 → kbT n 8 k ≤ 9000 := by decide +kernel
theorem exp_four : ∀ n, n ≤ 4 → ∀ k, k ≤ 6 → n ^ k * n ≤ 1000000 ∧ n ^ k ≤ 5000 := by decide +kernel
theorem zz91 {n k : Nat} (hn : n ≤ 4) (hk : k ≤ 6) : ∀ j, j ≤ k → kbT n 8 j ≤ 9000 := fun j hj => kbT_four n hn j (by omega)
theorem powT_four {p : List Term} {n k : Nat} (hn : n ≤ 4) (hk : k ≤ 6) (h : p.length = n) : (powT p k).1.length ≤ 5000 := by
 have := zz143 p k
 rw [h] at this
 exact Nat.le_trans this (exp_four n hn k hk).2
theorem powT_nil {p : List Term} (hp : fall p) {k : Nat} (h : (powT p k).2 = false) : (powT p k).1 = [] := by
 by_cases g : ∀ v, (k : Int) * degP p v ≤ 10000
 ·rw [(zz145 hp k g).1] at h; cases h
 ·have hx : ∃ v, 10000 < (k : Int) * degP p v := Classical.byContradiction fun hc => g fun v => Int.not_lt.1 fun hv => hc ⟨v, hv⟩
  rw [powT_no hp k hx]
theorem ppow_two {K : Nat} {ao : Option Addr} {n cap : Nat} {p : List Term} {w : World} (k : Nat) (hk : k ≤ 6) (hp : Pc K w ao n cap p) (hf : fall p) (hn : n ≤ 4) (hK : K ≤ 4) (er : Int) (he : (if (powT p k).2 = true then (0 : Int) else 8) = er) :
  Calls Tryz.prog 45 #[.slice ao n cap, .int .i64 (k : Int)] w (PE 3000 w (powT p k).1 er) := by
 by_cases g : ∀ v, (k : Int) * degP p v ≤ 10000
 ·rw [(zz145 hf k g).1, if_pos rfl] at he
  subst he
  refine (ppow_any k (by omega) hp hf (by omega) (by omega) g (by have := pkb_four n hn K hK k hk; omega) (fun j hj => ?_)).mono fun e V h => h.mono (pkb_four n hn K hK k hk)
  have := exp_four n hn j (by omega)
  omega
 ·have hx : ∃ v, 10000 < (k : Int) * degP p v := Classical.byContradiction fun hc => g fun v => Int.not_lt.1 fun hv => hc ⟨v, hv⟩
  rw [powT_no hf k hx] at he ⊢
  simp only [Bool.false_eq_true, if_false] at he
  subst he
  exact (ppow_exp k (by omega) hp hf (by omega) (by omega) g).mono fun e V h => h.mono (by omega)
theorem try_nil {p q : List Term} (h : (tryT p q).2 = false) : (tryT p q).1 = [] := by
 by_cases g : fitT p q
 ·rw [zz205 g] at h; cases h
 ·rw [tryT_no g]
theorem err_try (p q : List Term) : (if (tryT p q).2 = true then (0 : Int) else 8) = errT p q := by
 by_cases g : fitT p q
 ·rw [zz205 g, err_yes g]; rfl
 ·rw [tryT_no g, err_no g]; rfl
theorem zz195 {K K2 : Nat} {ao bo : Option Addr} {n cap l cb : Nat} {q : List Term} {w : World} (b : Bool) (er : Int) (hp : Pc K w ao n cap q) (hq : Pz K2 w bo l cb q) (hl : l ≤ 100000) (hK : K2 ≤ 9000) (he : (if b = true then (0 : Int) else 8) = er) (h0 : b = false → q = []) :
  Calls Tryz.prog 26 #[.slice ao n cap, .int .i64 er, .slice bo l cb, .bool b, .int .i64 8] w (RetB (.bool true) w) := by
 cases b with
 | true => rw [if_pos rfl] at he; subst he; exact told_ok 8 hp.raw hq hl hK rfl
 | false =>
  simp only [Bool.false_eq_true, if_false] at he
  subst he; have h1 := h0 rfl; subst h1; obtain rfl : n = 0 := hp.len.symm
  exact told_no 8
theorem limbs_1 : limbs 1 = [1] := by decide +kernel
theorem pr_lit {w : World} {m : Bool} {ao : Option Addr} {n cap : Nat} (h : Cn w m ao n cap 1) {bo : Option Addr} {l cb : Nat} {ms : List (Int × Int)} (hM : Ml w bo l cb ms) (T : TypeId) :
  Pr (w.alloc (.cells #[.bool m, .slice ao n cap, .slice bo l cb] T)) (some ⟨w.heap.size, 0, none⟩) 1 1 [((false, [1]), ms)] := by
 have hs := h.sl; have hn := h.neg; rw [show (1 : Int).natAbs = 1 from rfl, limbs_1] at hs
 obtain rfl : m = false := by rw [hn]; rfl
 exact ⟨_, Gl.lit 3 w [.bool false, .slice ao n cap, .slice bo l cb] T rfl (by simp [Value.oneCell']), ⟨⟨_, _, _, _, _, _, rfl, hs.below (zz13 _ _), hM.below (zz13 _ _)⟩, trivial⟩⟩
theorem may_lit {ms : List (Int × Int)} {r : Bool} (h : mayM 0 ms = r) : mayR [((false, [1]), ms)] = r := by
 have e : [((false, [1]), ms)] = ([(1, ms)] : List Term).map rawC := by
  show _ = [rawC (1, ms)]
  unfold rawC
  rw [show ((1 : Int), ms).1.natAbs = 1 from rfl, limbs_1]
  rfl
 cases r with
 | true => rw [e]; exact zz109 (p := [(1, ms)]) ⟨(by show (1 : Int) ≠ 0; decide), h, (fun _ h => by cases h), trivial⟩
 | false => exact mayR_no 0 (by simp) (by simp [okAt, mayT, h])
theorem lim_max : ∀ (p : List Term) (a : Int), a ≤ p.foldl (fun a t => max a ((limbs t.1.natAbs).length : Int)) a ∧ ∀ t ∈ p, ((limbs t.1.natAbs).length : Int) ≤ p.foldl (fun a t => max a ((limbs t.1.natAbs).length : Int)) a
 | [], a => ⟨Int.le_refl a, fun _ h => by cases h⟩
 | t :: r, a => by
  obtain ⟨h1, h2⟩ := lim_max r (max a ((limbs t.1.natAbs).length : Int))
  refine ⟨Int.le_trans (Int.le_max_left _ _) h1, fun s hs => ?_⟩
  rcases List.mem_cons.1 hs with rfl | hs
  ·exact Int.le_trans (Int.le_max_right _ _) h1
  ·exact h2 s hs
theorem lim_lens {p : List Term} {k : Nat} (h : limT p ≤ k) : ∀ t ∈ p.map rawC, t.1.2.length ≤ k := fun t ht => by
 obtain ⟨s, hs, rfl⟩ := List.mem_map.1 ht
 have := (lim_max p 0).2 s hs
 unfold limT at h
 show (limbs s.1.natAbs).length ≤ k
 omega
end Go.Proofs.YtmbgljjfmbhelaaGreat

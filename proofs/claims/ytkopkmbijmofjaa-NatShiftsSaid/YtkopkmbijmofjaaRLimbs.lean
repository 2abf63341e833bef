/-
  The contract of the method Limbs of porismref01.D.
-/
import Derived.Test.YtkopkmbijmofjaaROf
import Derived.Test.YtkopkmbijmofjaaSame
namespace Go.Proofs.Ytkopkmbijmofjaa.Dg
open Go.RowKit

theorem limbs_shorter {v : Nat} (h : 0 < v) : (limbs (v / 4294967296)).length < (limbs v).length := by
  have h1 := val_lt (limbs v) (wf_limbs v)
  rw [val_limbs] at h1
  obtain ⟨l, hl⟩ : ∃ l, (limbs v).length = l + 1 := by
    rw [limbs_pos h]; exact ⟨_, rfl⟩
  rw [hl] at h1 ⊢
  have h2 : v / 4294967296 < 10 ^ l := by
    rw [Nat.pow_succ] at h1
    have hp : 0 < 10 ^ l := Nat.pow_pos (by omega)
    omega
  have := limbs_len h2
  omega

theorem len_pos {v L : Nat} (h : (limbs v).length = L) : 0 < L ↔ 0 < v := by
  rcases Nat.eq_zero_or_pos v with rfl | hv
  · rw [limbs_zero] at h; simp at h; omega
  · rw [limbs_pos hv] at h; simp at h; omega

theorem push32 {B : Nat} {w : World} {ao : Option Addr} {n cap : Nat} {ys : List Nat} {v : Value} (x : Nat) (h : w.ownsRow B 38 1 (.slice ao (n + 1) cap) (n + 1) (Go.Proofs.Ytkopkmbijmofjaa.cellsOf ys ++ [v])) (hv : v = .int .u32 ((x : Nat) : Int)) (hx : x < 4294967296) (hw : ∀ y ∈ ys, y < 4294967296) (hn : n + 1 ≤ 35184372088832) :
    Go.Proofs.Ytkopkmbijmofjaa.Own B w ao (n + 1) cap (ys ++ [x]) := by
  refine ⟨?_, hn, fun y hy => ?_⟩
  · rw [Go.Proofs.Ytkopkmbijmofjaa.cellsOf_append]
    subst hv
    exact h
  · rcases List.mem_append.1 hy with hy | hy
    · exact hw y hy
    · simp at hy; omega

theorem by_at (ao : Option Addr) (n cap : Nat) (v : Nat) (w : World) (ha : Sl w ao n cap (limbs v)) :
    Calls Try.prog 38 #[.slice ao n cap, .int .i64 65536] w (NewBy w (limbs (v / 65536)) (v % 65536)) := by
  have := by_any ao n cap (limbs v) 65536 w ha (by omega) (by omega)
  rw [val_limbs] at this
  exact this

theorem Sl.grown {w w' : World} {o : Obj} {row : Option Nat} {ao : Option Addr} {n cap : Nat} {xs : List Nat} (h : Sl w ao n cap xs) (hg : (w.alloc o).grownBy w' row) (hne : ∀ ad, ao = some ad → some ad.block ≠ row) : Sl w' ao n cap xs :=
  ⟨h.len, h.le, h.big, h.wf, h.nil, fun ad had t ht => by
    have h0 := (h.below ((Below.refl w.heap.size w).alloc (Nat.le_refl _) o)).cells ad had t ht
    exact hg.cell h0 (by
      have := hne ad had
      unfold Addr.add
      split <;> simpa using this)⟩

/-- Two slices, the one in memory that is newer than the other. -/
theorem apart_own {B : Nat} {w1 w2 : World} {ao ao' : Option Addr} {n cap n' cap' : Nat} {ys ys' : List Nat} (h : Go.Proofs.Ytkopkmbijmofjaa.Own B w1 ao n cap ys) (h' : Own w1.heap.size w2 ao' n' cap' ys') :
    ∀ ad, ao' = some ad → some ad.block ≠ (Value.slice ao n cap).ownBlock := by
  intro ad had e
  have h1 := (h.row.lt _ e.symm).2
  rcases h'.parts with ⟨h2, _⟩ | ⟨g, h2, h3, _⟩
  · rw [h2] at had; cases had
  · rw [h2] at had
    obtain rfl := Option.some.inj had
    exact absurd h1 (by simp; omega)

set_option maxHeartbeats 1000000 in
theorem limbs_any (ao : Option Addr) (n cap : Nat) (v0 : Nat) (w : World) (ha : Sl w ao n cap (limbs v0)) :
    Calls Try.prog 15 #[.slice ao n cap] w (Go.Proofs.Ytkopkmbijmofjaa.NewSl w (Go.Proofs.Ytkopkmbijmofjaa.limbs v0)) := by
  obtain ⟨i0, hi, hz0, hz1, hz2⟩ := info_parts Try.info_u32
  have hbig := ha.big
  go_enter Try.func15, Try.ntmps15
  go_wp2
  go_loopw [0, 3, 4, 5] (fun d o _ _ wr => ∃ (v L cap' : Nat) (ao' : Option Addr) (M capo : Nat) (aoo : Option Addr) (zs : List Nat), d = .slice ao' L cap' ∧ o = .slice aoo M capo ∧ M + L ≤ n ∧ Sl wr ao' L cap' (limbs v) ∧ Go.Proofs.Ytkopkmbijmofjaa.Own w.heap.size wr aoo M capo zs ∧ Below w.heap.size w wr ∧ Hid (zs ++ Go.Proofs.Ytkopkmbijmofjaa.limbs v = Go.Proofs.Ytkopkmbijmofjaa.limbs v0)) (fun d _ _ _ _ => match d with | .slice _ k _ => k | _ => 0)
  case atStart => exact ⟨v0, n, cap, ao, 0, 0, none, [], rfl, rfl, by omega, ha, Go.Proofs.Ytkopkmbijmofjaa.Own.nil _ _, Below.refl _ _, rfl⟩
  case round =>
    obtain ⟨v, L, cap', ao', M, capo, aoo, zs, rfl, rfl, hML, hS, hO, hB, hV⟩ := hrel
    have HLV := Lib.hid (len_pos hS.len)
    by_cases hL : 0 < L
    · have hv : 0 < v := HLV.out.1 hL
      have HST : Hid ((zs ++ [v % 4294967296]) ++ Go.Proofs.Ytkopkmbijmofjaa.limbs (v / 4294967296) = Go.Proofs.Ytkopkmbijmofjaa.limbs v0) := by
        rw [Hid, ← hV.out, Go.Proofs.Ytkopkmbijmofjaa.limbs_pos hv]; simp
      have HSH : Hid ((limbs (v / 4294967296)).length < L) := by rw [← hS.len]; exact limbs_shorter hv
      clear hv hV
      go_wp2_with fail
      refine (by_at _ _ _ v _ hS).mono ?_
      rintro e w1 ⟨ao1, n1, cap1, rfl, hO1, hB1⟩
      have hOa := hO.below hB1
      have hBa : Below w.heap.size w w1 := Go.Proofs.Ytkopkmbijmofjaa.Below.steps hB hB1
      clear hO hB hS
      have hlo : v % 65536 < 65536 := Nat.mod_lt _ (by omega)
      obtain ⟨lo, hloe⟩ : ∃ lo, lo = v % 65536 := ⟨_, rfl⟩
      rw [← hloe] at hlo ⊢
      have HLO := Lib.hid hloe
      clear hloe
      go_wp2_with fail
      refine (by_at _ _ _ (v / 65536) _ hO1.sl).mono ?_
      rintro e w2 ⟨ao2, n2, cap2, rfl, hO2, hB2⟩
      have hOb := hOa.below hB2
      have hBb : Below w.heap.size w w2 := Go.Proofs.Ytkopkmbijmofjaa.Below.steps hBa hB2
      have hsz := hBb.size
      have hS2 := hO2.sl
      have HAP := Lib.hid (apart_own hOa hO2)
      have e2 : v / 65536 / 65536 = v / 4294967296 := by omega
      rw [e2] at hS2
      have hn2 : n2 < L := by rw [← hS2.len]; exact HSH.out
      clear hOa hBa hO1 hB1 hB2 hO2 e2
      have hhi : v / 65536 % 65536 < 65536 := Nat.mod_lt _ (by omega)
      obtain ⟨hg, hhie⟩ : ∃ hg, hg = v / 65536 % 65536 := ⟨_, rfl⟩
      rw [← hhie] at hhi ⊢
      have HX : Hid (hg * 65536 + lo = v % 4294967296) := by rw [Hid, hhie, HLO.out]; omega
      clear hhie
      go_wp2_with (at_builtin; refine wpList_push w2 w rfl (.tmp 19) (.tmp 26) 22 rfl w.heap.size 38 i0 (.int .u32 0) 4 Try.underlying22 hi hz0 hz1 hz2 rfl _ _ _ _ rfl hOb.row _ rfl 38 rfl hBb hsz (by unfold maxLen; omega) (by omega) ?_; intro ao3 cap3 w3 hown3 hB3 hg3)
      go_roundw
      case rel => exact ⟨v / 4294967296, n2, cap2, ao2, M + 1, cap3, ao3, _, rfl, rfl, by omega, hS2.grown hg3 HAP.out, push32 (hg * 65536 + lo) hown3 (by go_num) (by omega) hOb.wf (by omega), hB3, by rw [HX.out]; exact HST⟩
      case measure => simp; omega
    · obtain rfl : L = 0 := by omega
      have HE : Hid (zs = Go.Proofs.Ytkopkmbijmofjaa.limbs v0) := by
        have : v = 0 := by
          rcases Nat.eq_zero_or_pos v with h | h
          · exact h
          · exact absurd (HLV.out.2 h) (by omega)
        subst this
        rw [Hid, ← hV.out, Go.Proofs.Ytkopkmbijmofjaa.limbs_zero, List.append_nil]
      clear hV
      go_wp2
      go_ret
      exact ⟨_, _, _, rfl, by rw [← HE.out]; exact hO, hB⟩
end Go.Proofs.Ytkopkmbijmofjaa.Dg

/-
  The contracts of porismref01.Same and porismlaw01.canonical.
-/
import Derived.Test.YtkopkmbijmofjaaSub
namespace Go.Proofs.Ytkopkmbijmofjaa
open Go.RowKit

def sameB (xs ys : List Nat) : Bool := decide (xs = ys)

theorem sameB_self (xs : List Nat) : sameB xs xs = true := by simp [sameB]

set_option maxHeartbeats 400000 in
theorem same_len (a0 b0 : Option Addr) (la ca lb cb : Nat) (w : World) (h : la ≠ lb) :
    Calls Try.prog 13 #[.slice a0 la ca, .slice b0 lb cb] w (RetDrew (.bool false) w) := by
  have hne : (((la : Nat) : Int) != ((lb : Nat) : Int)) = true := by simp; omega
  have hne2 : (la != lb) = true := by simp; omega
  go_enter Try.func13, Try.ntmps13
  go_wp2
  go_ret
  exact ⟨rfl, 0, rfl⟩

set_option maxHeartbeats 1000000 in
theorem same_any (a0 b0 : Option Addr) (la ca lb cb : Nat) (xs ys : List Nat) (w : World) (ha : Sl w a0 la ca xs) (hb : Sl w b0 lb cb ys) :
    Calls Try.prog 13 #[.slice a0 la ca, .slice b0 lb cb] w (RetDrew (.bool (sameB xs ys)) w) := by
  by_cases hl : la = lb
  · subst hl
    have b1 := ha.big
    have b2 := hb.big
    have l1 := ha.le
    have l2 := hb.le
    have hne : (((la : Nat) : Int) != ((la : Nat) : Int)) = false := by simp
    go_enter Try.func13, Try.ntmps13
    go_wp2
    go_loopw [5] (fun i wr => ∃ k : Nat, k ≤ la ∧ i = .int .i64 k ∧ Hid (xs.take k = ys.take k) ∧ ∃ q, wr = w.drewN q) (fun i _ => la - (intOf i).toNat)
    case atStart => exact ⟨0, Nat.zero_le _, rfl, rfl, 0, rfl⟩
    case round =>
      obtain ⟨k, hk, rfl, heq, q, rfl⟩ := hrel
      by_cases hkn : k < la
      · obtain ⟨b, off, rfl, _, hca⟩ := ha.at (by omega)
        obtain ⟨b', off', rfl, _, hcb⟩ := hb.at (by omega)
        have ha1 := hca k hkn
        have hb1 := hcb k hkn
        obtain ⟨x, hx⟩ : ∃ x, x = xs.getD k 0 := ⟨_, rfl⟩
        obtain ⟨y, hy⟩ : ∃ y, y = ys.getD k 0 := ⟨_, rfl⟩
        rw [← hx] at ha1
        rw [← hy] at hb1
        have HX := Lib.hid hx
        have HY := Lib.hid hy
        clear hx hy hca hcb
        by_cases hxy : x = y
        · subst hxy
          have e1 : (((x : Nat) : Int) != ((x : Nat) : Int)) = false := by simp
          go_wp2
          go_quiet (fail)
          go_wp2
          go_roundw
          case rel =>
            refine ⟨k + 1, by omega, by go_num, ?_, _, rfl⟩
            show _ = _
            rw [take_succ_getD xs k (by rw [ha.len]; exact hkn), take_succ_getD ys k (by rw [hb.len]; exact hkn), heq.out, ← HX.out, ← HY.out]
          case measure => simp [intOf]; omega
        · have e1 : (((x : Nat) : Int) != ((y : Nat) : Int)) = true := by simp; omega
          have e2 : (x != y) = true := by simp; omega
          have H : Hid (sameB xs ys = false) := by
            show _ = _
            unfold sameB
            rw [decide_eq_false_iff_not]
            intro e
            apply hxy
            rw [HX.out, HY.out, e]
          go_wp2
          go_quiet (fail)
          go_wp2
          go_ret
          exact ⟨by rw [H.out]; rfl, _, World.drewN_drewN _ _ _⟩
      · obtain rfl : k = la := by omega
        have H : Hid (sameB xs ys = true) := by
          show _ = _
          unfold sameB
          rw [decide_eq_true_eq]
          have := heq.out
          rwa [take_all _ _ ha.len, take_all _ _ hb.len] at this
        go_wp2
        go_ret
        exact ⟨by rw [H.out]; rfl, _, rfl⟩
  · have : sameB xs ys = false := by
      unfold sameB
      rw [decide_eq_false_iff_not]
      intro e
      apply hl
      rw [← ha.len, ← hb.len, e]
    rw [this]
    exact same_len _ _ _ _ _ _ _ hl

/-- Same, where it is known to be yes. -/
theorem same_yes (a0 b0 : Option Addr) (la ca lb cb : Nat) (xs ys : List Nat) (w : World) (ha : Sl w a0 la ca xs) (hb : Sl w b0 lb cb ys) (h : xs = ys) :
    Calls Try.prog 13 #[.slice a0 la ca, .slice b0 lb cb] w (RetDrew (.bool true) w) := by
  have := same_any a0 b0 la ca lb cb xs ys w ha hb
  rw [h, sameB_self] at this
  exact this

theorem last_pos (xs : List Nat) (k : Nat) (h : trimL xs = xs) (hk : xs.length = k + 1) : xs.getD k 0 ≠ 0 := by
  intro e
  have h1 := take_succ_getD xs k (by omega)
  rw [take_all xs (k + 1) hk, e] at h1
  have h2 : trimL xs = trimL (xs.take k) := by conv => lhs; rw [h1, trimL_append_zero]
  have h3 := nl_le (xs.take k)
  unfold nl at h3
  rw [← h2, h, List.length_take] at h3
  omega

set_option maxHeartbeats 400000 in
theorem canonical_yes (ao : Option Addr) (n cap : Nat) (xs : List Nat) (w : World) (h : Sl w ao n cap xs) (hc : trimL xs = xs) :
    Calls Try.prog 31 #[.slice ao n cap] w fun e w' => e = .returned (.bool true) ∧ w = w' := by
  have hle := h.le
  have hbig := h.big
  by_cases h0 : n = 0
  · subst h0
    go_enter Try.func31, Try.ntmps31
    go_wp2
    go_ret
    exact ⟨rfl, rfl⟩
  · obtain ⟨k, rfl⟩ : ∃ k, n = k + 1 := ⟨n - 1, by omega⟩
    obtain ⟨b, off, rfl, hb, hcell⟩ := h.at (by omega)
    have hc1 := hcell k (by omega)
    have hpos := last_pos xs k hc h.len
    obtain ⟨x, hx⟩ : ∃ x, x = xs.getD k 0 := ⟨_, rfl⟩
    rw [← hx] at hc1 hpos
    have e1 : (((k + 1 : Nat) : Int) == 0) = false := by simp; omega
    have e2 : (((x : Nat) : Int) != 0) = true := by simp; omega
    clear hx hcell hc
    go_enter Try.func31, Try.ntmps31
    go_wp2
    go_ret
    exact ⟨rfl, rfl⟩

/-- A call that answers v, and changes nothing that was there. -/
def RetB (v : Value) (w : World) (e : Ending) (w' : World) : Prop := e = .returned v ∧ Below w.heap.size w w'

theorem RetDrew.b {v : Value} {w : World} {e : Ending} {w' : World} (h : RetDrew v w e w') : RetB v w e w' := by
  obtain ⟨he, q, rfl⟩ := h
  exact ⟨he, below_drewN _ _ _⟩

theorem same_b (a0 b0 : Option Addr) (la ca lb cb : Nat) (xs ys : List Nat) (w : World) (ha : Sl w a0 la ca xs) (hb : Sl w b0 lb cb ys) (h : xs = ys) :
    Calls Try.prog 13 #[.slice a0 la ca, .slice b0 lb cb] w (RetB (.bool true) w) :=
  (same_yes a0 b0 la ca lb cb xs ys w ha hb h).mono fun _ _ h => h.b

theorem cmp_b (c : Int) (a0 b0 : Option Addr) (la ca lb cb : Nat) (xs ys : List Nat) (w : World) (ha : Sl w a0 la ca xs) (hb : Sl w b0 lb cb ys) (hc : Hid (cmpN (val xs) (val ys) = c)) :
    Calls Try.prog 16 #[.slice a0 la ca, .slice b0 lb cb] w (RetB (.int .i64 c) w) :=
  (cmp_is c a0 b0 la ca lb cb xs ys w ha hb hc).mono fun _ _ h => h.b

theorem step_alloc {w w' : World} {o : Obj} (h : Below (w.alloc o).heap.size (w.alloc o) w') : Below w.heap.size w w' :=
  ((Below.refl _ _).alloc (Nat.le_refl _) _).trans (h.mono (by simp))

/-- Two steps, each over all that was there. -/
theorem Below.steps {w w1 w2 : World} (h : Below w.heap.size w w1) (k : Below w1.heap.size w1 w2) : Below w.heap.size w w2 := h.trans (k.mono h.size)

end Go.Proofs.Ytkopkmbijmofjaa

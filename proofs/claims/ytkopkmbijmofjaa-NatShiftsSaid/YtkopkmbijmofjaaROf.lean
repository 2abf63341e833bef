/-
  The contract of porismref01.Of.
-/
import Derived.Test.YtkopkmbijmofjaaRSmall
import Derived.Deep.RegionHeld3
import Derived.Deep.DeepMust
import Derived.Test.YtkopkmbijmofjaaWraps
namespace Go.Proofs.Ytkopkmbijmofjaa.Dg
open Go.RowKit

theorem pow32_le (k : Nat) : 4294967296 ^ k ≤ 10 ^ (10 * k) := by
  rw [Nat.pow_mul]
  exact Nat.pow_le_pow_left (by decide) k

theorem drop_lt {xs : List Nat} (hw : Go.Proofs.Ytkopkmbijmofjaa.Wf xs) (j n : Nat) (hl : xs.length = n) : Go.Proofs.Ytkopkmbijmofjaa.val (xs.drop j) < 10 ^ (10 * (n - j)) := by
  have h1 := Go.Proofs.Ytkopkmbijmofjaa.val_lt (xs.drop j) (fun x hx => hw x (List.mem_of_mem_drop hx))
  rw [List.length_drop, hl] at h1
  exact Nat.lt_of_lt_of_le h1 (pow32_le _)

/-- how many digits limbs have, at most -/
theorem digits_of_limbs {xs : List Nat} (hw : Go.Proofs.Ytkopkmbijmofjaa.Wf xs) (j n : Nat) (hl : xs.length = n) : (limbs (Go.Proofs.Ytkopkmbijmofjaa.val (xs.drop j))).length ≤ 10 * (n - j) := by
  have h1 := Go.Proofs.Ytkopkmbijmofjaa.val_lt (xs.drop j) (fun x hx => hw x (List.mem_of_mem_drop hx))
  rw [List.length_drop, hl] at h1
  exact limbs_len (Nat.lt_of_lt_of_le h1 (pow32_le _))

/-- What the loop of porismref01.Of holds. -/
def OfInv (B : Nat) (w : World) (xs : List Nat) (ao : Option Addr) (L cap j : Nat) (wr : World) : Prop :=
  Own B wr ao L cap (limbs (Go.Proofs.Ytkopkmbijmofjaa.val (xs.drop j))) ∧ Below B w wr

set_option maxHeartbeats 1000000 in
theorem of_any (ao : Option Addr) (n cap : Nat) (xs : List Nat) (w : World) (ha : Go.Proofs.Ytkopkmbijmofjaa.Sl w ao n cap xs) (hroom : n ≤ 1000000) :
    Calls Try.prog 10 #[.slice ao n cap] w (NewSl w (limbs (Go.Proofs.Ytkopkmbijmofjaa.val xs))) := by
  have hle := ha.le
  go_enter Try.func10, Try.ntmps10
  go_wp2
  go_loopw [3, 4] (fun d i wr => ∃ (j L : Nat) (ao' : Option Addr) (cap' : Nat), j ≤ n ∧ i = .int .i64 ((j : Int) - 1) ∧ d = .slice ao' L cap' ∧ OfInv w.heap.size w xs ao' L cap' j wr) (fun _ i _ => (intOf i + 1).toNat)
  case atStart => exact ⟨n, 0, none, 0, Nat.le_refl _, rfl, rfl, by rw [List.drop_eq_nil_of_le (by rw [ha.len]; exact Nat.le_refl _)]; exact Own.nil _ _, Below.refl _ _⟩
  case round =>
    obtain ⟨j, L, ao', cap', hj, rfl, rfl, hO, hB⟩ := hrel
    by_cases hj0 : j = 0
    · subst hj0
      rw [List.drop_zero] at hO
      go_wp2
      go_ret
      exact ⟨_, _, _, rfl, hO, hB⟩
    · obtain ⟨i, rfl⟩ : ∃ i, j = i + 1 := ⟨j - 1, by omega⟩
      have ei : ((i + 1 : Nat) : Int) - 1 = (i : Int) := by omega
      rw [ei]
      clear ei
      obtain ⟨b, off, rfl, hbb, hcell⟩ := ha.at (by omega)
      have hxc : wr.cell? ⟨b, off + i, none⟩ = some (.int .u32 (xs.getD i 0 : Nat)) := (hB.cell (by exact hbb)).trans (hcell i (by omega))
      have hxl := ha.getD_lt i
      have hdrop := Go.Proofs.Ytkopkmbijmofjaa.val_drop xs i (by rw [ha.len]; omega)
      have hL : L ≤ 10 * (n - (i + 1)) := by rw [← hO.len]; exact digits_of_limbs ha.wf _ _ ha.len
      have hlt2 := drop_lt ha.wf i n ha.len
      obtain ⟨x, hx⟩ : ∃ x, x = xs.getD i 0 := ⟨_, rfl⟩
      rw [← hx] at hxc hxl hdrop
      obtain ⟨v, hv⟩ : ∃ v, v = Go.Proofs.Ytkopkmbijmofjaa.val (xs.drop (i + 1)) := ⟨_, rfl⟩
      rw [← hv] at hO hdrop
      rw [hdrop] at hlt2
      have HM : Hid ((limbs (v * 65536 + x / 65536)).length ≤ 10 * (n - i)) := limbs_len (by omega)
      have HD := Lib.hid hdrop
      clear hx hv hcell hj0 hdrop hlt2
      have hin : ((i : Nat) : Int) < ((n : Nat) : Int) := by omega
      have hi0 : (0 : Int) ≤ ((i : Nat) : Int) := by omega
      have hbr : b < wr.heap.size := by have := hB.size; omega
      have hs0 := hO.sl
      have H65 : Hid ((65536 : Int) = ((65536 : Nat) : Int)) := rfl
      have HW1 : Hid (IntKind.i64.wrap (IntKind.u32.wrap (((x : Nat) : Int) / 65536)) = ((x / 65536 : Nat) : Int)) := by
        rw [Hid, show ((x : Nat) : Int) / 65536 = ((x / 65536 : Nat) : Int) from by omega, wrap_u32 _ (by omega), wrap_i64 _ (by omega)]
      have HW2 : Hid (IntKind.i64.wrap (((x : Nat) : Int).tmod 65536) = ((x % 65536 : Nat) : Int)) := by
        rw [Hid, Int.tmod_eq_emod_of_nonneg (by omega), show ((x : Nat) : Int) % 65536 = ((x % 65536 : Nat) : Int) from by omega, wrap_i64 _ (by omega)]
      go_wp2
      go_region_held3 (fun w' => w'.cell? ⟨b, off + i, none⟩ = some (.int .u32 ((x : Nat) : Int)))
        (first | go_keep | (exact (hB1.cell (by simpa using hbr)).trans hxc) | (exact (hB2.cell (by exact hbr1)).trans ((hB1.cell (by simpa using hbr)).trans hxc)))
        (first
          | (go_at_call_of 32 (Value.slice ao' L cap'); go_must (with_reducible refine (times_at ao' L cap' _ 65536 (x / 65536) _ _ _ hO.drew.sl H65.out HW1.out (by omega) (by omega) (by omega)).mono ?_); rintro e w1 ⟨ao1, n1, cap1, rfl, hO1, hB1⟩; have hn1 : n1 ≤ 10 * (n - i) := (by rw [← hO1.len, val_limbs]; exact HM.out); have hbr1 : b < w1.heap.size := (Nat.lt_of_lt_of_le (by simpa using hbr) hB1.size))
          | (go_at_call 32; go_must (with_reducible refine (times_at ao1 n1 cap1 _ 65536 (x % 65536) _ _ _ hO1.sl H65.out HW2.out (by omega) (by omega) (by omega)).mono ?_); rintro e w2 ⟨ao2, n2, cap2, rfl, hO2, hB2⟩))
      have hBa : Below w.heap.size w w1 := hB.drew.trans (hB1.mono (by have := hB.size; simpa using this))
      have hBb : Below w.heap.size w w2 := hBa.trans (hB2.mono hBa.size)
      have hO3 : Own w.heap.size w2 ao2 n2 cap2 (limbs (Go.Proofs.Ytkopkmbijmofjaa.val (xs.drop i))) := by
        have e : val (limbs (val (limbs v) * 65536 + x / 65536)) * 65536 + x % 65536 = Go.Proofs.Ytkopkmbijmofjaa.val (xs.drop i) := by
          rw [val_limbs, val_limbs, HD.out]; omega
        rw [e] at hO2
        exact hO2.mono hBa.size
      go_wp2
      go_roundw
      case rel => exact ⟨i, n2, ao2, cap2, by omega, by go_num, rfl, hO3, hBb⟩
      case measure => simp [intOf]
end Go.Proofs.Ytkopkmbijmofjaa.Dg

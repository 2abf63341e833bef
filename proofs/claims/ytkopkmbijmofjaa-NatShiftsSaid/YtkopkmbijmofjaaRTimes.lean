/-
  The contract of porismref01.times.
-/
import Derived.Test.YtkopkmbijmofjaaRTrim
import Derived.Test.YtkopkmbijmofjaaPush
namespace Go.Proofs.Ytkopkmbijmofjaa.Dg
open Go.RowKit

theorem Own.push {B : Nat} {w : World} {ao : Option Addr} {n cap : Nat} {ys : List Nat} {v : Value} (x : Nat) (h : w.ownsRow B 3 1 (.slice ao (n + 1) cap) (n + 1) (cellsOf ys ++ [v])) (hv : v = .int .i64 ((x : Nat) : Int)) (hx : x < 10) (hw : ∀ y ∈ ys, y < 10) (hn : n + 1 ≤ 17592186044416) :
    Own B w ao (n + 1) cap (ys ++ [x]) := by
  refine ⟨?_, hn, fun y hy => ?_⟩
  · rw [cellsOf_append]
    subst hv
    exact h
  · rcases List.mem_append.1 hy with hy | hy
    · exact hw y hy
    · simp at hy; omega

theorem CutOf.new {w w1 w2 : World} {ys : List Nat} {e : Ending} (h : CutOf w.heap.size w1 ys e w2) (hb : Below w.heap.size w w1) : NewSl w ys e w2 := by
  obtain ⟨ao, n, cap, he, ho, rfl⟩ := h
  exact ⟨ao, n, cap, he, ho, hb⟩

theorem Try.underD : Try.prog.underlying 26 = some (.slice 3) := Try.underlying26

/-- What the loops of porismref01.times hold. -/
def TimesInv (B : Nat) (w : World) (ao : Option Addr) (k cap : Nat) (S c : Nat) (wr : World) : Prop :=
  ∃ zs, Own B wr ao k cap zs ∧ Below B w wr ∧ val zs + 10 ^ k * c = S

theorem times_step {zs : List Nat} {k c S N d : Nat} (hl : zs.length = k) (h : val zs + 10 ^ k * c = S) :
    val (zs ++ [(c + d * N) % 10]) + 10 ^ (k + 1) * ((c + d * N) / 10) = S + 10 ^ k * d * N := by
  rw [val_append, val_cons, val_nil, hl, Nat.pow_succ]
  have e : 10 ^ k * ((c + d * N) % 10 + 10 * 0) + 10 ^ k * 10 * ((c + d * N) / 10) = 10 ^ k * c + 10 ^ k * d * N := by
    rw [Nat.mul_assoc, ← Nat.mul_add, Nat.mul_assoc, ← Nat.mul_add]
    congr 1
    omega
  omega

theorem val_take_mul (xs : List Nat) (k N more : Nat) (hk : k < xs.length) : val (xs.take k) * N + more + 10 ^ k * xs.getD k 0 * N = val (xs.take (k + 1)) * N + more := by
  rw [val_take_succ xs k hk, Nat.add_mul]
  omega

set_option maxHeartbeats 1000000 in
theorem times_any (ao : Option Addr) (n cap : Nat) (xs : List Nat) (N more : Nat) (w : World) (ha : Sl w ao n cap xs) (hN : N ≤ 65536) (hm : more ≤ 65536) (hroom : n ≤ 8796093022208) :
    Calls Try.prog 32 #[.slice ao n cap, .int .i64 (N : Int), .int .i64 (more : Int)] w (NewSl w (limbs (val xs * N + more))) := by
  have hle := ha.le
  obtain ⟨i0, hi, hz0, hz1, hz2⟩ := info_parts Try.info_int
  go_enter Try.func32, Try.ntmps32
  go_wp2
  go_loopw [7, 8, 9] (fun o c i wr => ∃ k cc ao' cap', k ≤ n ∧ cc ≤ 65536 ∧ i = .int .i64 ((k : Nat) : Int) ∧ c = .int .i64 ((cc : Nat) : Int) ∧ o = .slice ao' k cap' ∧ TimesInv w.heap.size w ao' k cap' (val (xs.take k) * N + more) cc wr) (fun _ _ i _ => n - (intOf i).toNat)
  case atStart => exact ⟨0, more, none, 0, Nat.zero_le _, hm, rfl, rfl, rfl, [], Own.nil _ _, Below.refl _ _, by simp [val]⟩
  case round =>
    obtain ⟨k, cc, ao', cap', hk, hcc, rfl, rfl, rfl, zs, hO, hB, hV⟩ := hrel
    have hsz := hB.size
    by_cases hkn : k < n
    · obtain ⟨b, off, rfl, hbb, hcell⟩ := ha.at (by omega)
      have hdc : wr.cell? ⟨b, off + k, none⟩ = some (.int .i64 (xs.getD k 0 : Nat)) := (hB.cell (by exact hbb)).trans (hcell k hkn)
      have hdl := ha.getD_lt k
      have hstep := times_step (N := N) (d := xs.getD k 0) hO.len hV
      rw [val_take_mul xs k N more (by rw [ha.len]; exact hkn)] at hstep
      obtain ⟨d, hd⟩ : ∃ d, d = xs.getD k 0 := ⟨_, rfl⟩
      rw [← hd] at hdc hdl hstep
      have hmul : d * N ≤ 9 * 65536 := Nat.mul_le_mul (by omega) hN
      obtain ⟨dn, hdn⟩ : ∃ dn, dn = d * N := ⟨_, rfl⟩
      have hdnI : ((d : Nat) : Int) * ((N : Nat) : Int) = ((dn : Nat) : Int) := by rw [hdn, Int.natCast_mul]
      rw [← hdn] at hstep hmul
      have HST := Lib.hid hstep
      clear hd hV hstep hcell hdn
      go_wp2_with (at_builtin; refine wpList_push wr w rfl (.tmp 25) (.tmp 28) 26 rfl w.heap.size 3 i0 (.int .i64 0) 8 Try.underD hi hz0 hz1 hz2 rfl _ _ _ _ rfl hO.row _ rfl 3 rfl hB hsz (by unfold maxLen; omega) (by omega) ?_; intro ao1 cap1 w1 hown1 hB1 _)
      go_roundw
      case rel =>
        refine ⟨k + 1, (cc + dn) / 10, ao1, cap1, by omega, by omega, by go_num, by go_num, rfl, _, Own.push ((cc + dn) % 10) hown1 (by go_num) (Nat.mod_lt _ (by omega)) hO.wf (by omega), hB1, HST.out⟩
      case measure => simp [intOf]; omega
    · obtain rfl : k = n := by omega
      have hV2 : val zs + 10 ^ k * cc = val xs * N + more := by
        have e : xs.take k = xs := take_all xs k ha.len
        rwa [e] at hV
      have hI : ∃ L, L + cc ≤ k + 65536 ∧ TimesInv w.heap.size w ao' L cap' (val xs * N + more) cc wr ∧ L = k := ⟨k, by omega, ⟨zs, hO, hB, hV2⟩, rfl⟩
      clear hV hV2 hO hB hsz
      go_wp2
      go_loopw [7, 8] (fun o c wr => ∃ L cc ao' cap', L + cc ≤ k + 65536 ∧ c = .int .i64 ((cc : Nat) : Int) ∧ o = .slice ao' L cap' ∧ TimesInv w.heap.size w ao' L cap' (val xs * N + more) cc wr) (fun _ c _ => (intOf c).toNat)
      case atStart =>
        obtain ⟨L, h1, h2, rfl⟩ := hI
        exact ⟨L, cc, ao', cap', h1, rfl, rfl, h2⟩
      case round =>
        clear hI
        obtain ⟨L, cc, ao', cap', hL, rfl, rfl, zs, hO, hB, hV⟩ := hrel
        have hsz := hB.size
        by_cases hc0 : 0 < cc
        · have hstep := times_step (N := 0) (d := 0) hO.len hV
          simp only [Nat.mul_zero, Nat.add_zero] at hstep
          have HST := Lib.hid hstep
          clear hV hstep
          go_wp2_with (at_builtin; refine wpList_push wr w rfl (.tmp 34) (.tmp 37) 26 rfl w.heap.size 3 i0 (.int .i64 0) 8 Try.underD hi hz0 hz1 hz2 rfl _ _ _ _ rfl hO.row _ rfl 3 rfl hB hsz (by unfold maxLen; omega) (by omega) ?_; intro ao1 cap1 w1 hown1 hB1 _)
          go_roundw
          case rel =>
            refine ⟨L + 1, cc / 10, ao1, cap1, by omega, by go_num, rfl, _, Own.push (cc % 10) hown1 (by go_num) (Nat.mod_lt _ (by omega)) hO.wf (by omega), hB1, HST.out⟩
          case measure => simp [intOf]; omega
        · have hcut := trim_own _ _ _ _ _ _ hO
          have ht : val zs = val xs * N + more := by
            obtain rfl : cc = 0 := by omega
            omega
          rw [ht] at hcut
          have HCUT := Lib.hid hcut
          clear ht hV hcut
          go_wp2_with fail
          refine HCUT.out.mono fun e w' h => ?_
          obtain ⟨ao2, kk, cap2, rfl, h3, rfl⟩ := h
          go_wp2_with fail
          go_ret
          exact ⟨_, _, _, rfl, h3, hB⟩

/-- The same, the numbers spelled as they stand at the call. -/
theorem times_at (ao : Option Addr) (n cap : Nat) (xs : List Nat) (N more : Nat) (Ni mi : Int) (w : World) (ha : Sl w ao n cap xs) (hNi : Ni = (N : Int)) (hmi : mi = (more : Int)) (hN : N ≤ 65536) (hm : more ≤ 65536) (hroom : n ≤ 8796093022208) :
    Calls Try.prog 32 #[.slice ao n cap, .int .i64 Ni, .int .i64 mi] w (NewSl w (limbs (val xs * N + more))) := by
  subst hNi; subst hmi
  exact times_any ao n cap xs N more w ha hN hm hroom

end Go.Proofs.Ytkopkmbijmofjaa.Dg

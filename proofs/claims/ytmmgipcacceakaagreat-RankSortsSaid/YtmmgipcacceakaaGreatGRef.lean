/- Same, RTrim, RTimes, RBy, RSmall, ROf, RLimbs, RCmp, RAdd, RSub, RMul, RDiv -/
import Derived.Test.YtmmgipcacceakaaGreatGMem
import Derived.Deep.QuietTactic
import Derived.BigQuiet
import Derived.Deep.RegionHeld3
import Derived.Deep.DeepMust
import Derived.Laws.AppendOwnNone
set_option maxHeartbeats 40000000
set_option maxRecDepth 100000
/- The contract of porismref01.Same. -/
namespace Go.Proofs.YtmmgipcacceakaaGreat
open Go.RowKit
def sameB (xs ys : List Nat) : Bool := decide (xs = ys)
theorem same_len (a0 b0 : Option Addr) (la ca lb cb : Nat) (w : World) (h : la ≠ lb) :
  Calls Tryz.prog 73 #[.slice a0 la ca, .slice b0 lb cb] w (RetDrew (.bool false) w) := by
 have hne : (((la : Nat) : Int) != ((lb : Nat) : Int)) = true := by simp; omega
 have hne2 : (la != lb) = true := by simp; omega
 go_enter Tryz.func73, Tryz.ntmps73
 go_wp2
 go_ret
 exact ⟨rfl, 0, rfl⟩
theorem same_any (a0 b0 : Option Addr) (la ca lb cb : Nat) (xs ys : List Nat) (w : World) (ha : Sl w a0 la ca xs) (hb : Sl w b0 lb cb ys) :
  Calls Tryz.prog 73 #[.slice a0 la ca, .slice b0 lb cb] w (RetDrew (.bool (sameB xs ys)) w) := by
 by_cases hl : la = lb
 ·subst hl
  have b1 := ha.big; have b2 := hb.big; have l1 := ha.le; have l2 := hb.le
  have hne : (((la : Nat) : Int) != ((la : Nat) : Int)) = false := by simp
  go_enter Tryz.func73, Tryz.ntmps73
  go_wp2
  go_loopw [5] (fun i wr => ∃ k : Nat, k ≤ la ∧ i = .int .i64 k ∧ Hid (xs.take k = ys.take k) ∧ ∃ q, wr = w.drewN q) (fun i _ => la - (intOf i).toNat)
  case atStart => exact ⟨0, Nat.zero_le _, rfl, rfl, 0, rfl⟩
  case round =>
   obtain ⟨k, hk, rfl, heq, q, rfl⟩ := hrel
   by_cases hkn : k < la
   ·obtain ⟨b, off, rfl, _, hca⟩ := ha.at (by omega)
    obtain ⟨b', off', rfl, _, hcb⟩ := hb.at (by omega)
    have ha1 := hca k hkn; have hb1 := hcb k hkn; obtain ⟨x, hx⟩ : ∃ x, x = xs.getD k 0 := ⟨_, rfl⟩; obtain ⟨y, hy⟩ : ∃ y, y = ys.getD k 0 := ⟨_, rfl⟩; rw [← hx] at ha1; rw [← hy] at hb1; have HX := Lib.hid hx; have HY := Lib.hid hy; clear hx hy hca hcb
    by_cases hxy : x = y
    ·subst hxy
     have e1 : (((x : Nat) : Int) != ((x : Nat) : Int)) = false := by simp
     go_wp2
     go_quiet (fail)
     go_wp2
     go_roundw
     case rel =>
      refine ⟨k + 1, by omega, by go_num, ?_, _, rfl⟩
      show _ = _
      rw [take_succ_getD xs k (by rw [ha.len]; exact hkn), take_succ_getD ys k (by rw [hb.len]; exact hkn), heq.out, ← HX.out, ← HY.out]
     case measure => simp [intOf]; omega
    ·have e1 : (((x : Nat) : Int) != ((y : Nat) : Int)) = true := by simp; omega
     have e2 : (x != y) = true := by simp; omega
     have H : Hid (sameB xs ys = false) := by
      show _ = _
      unfold sameB
      rw [decide_eq_false_iff_not]
      intro e
      apply hxy
      rw [HX.out, HY.out, e]
     go_wp2
     go_quiet (fail)
     go_wp2
     go_ret
     exact ⟨by rw [H.out]; rfl, _, World.drewN_drewN _ _ _⟩
   ·obtain rfl : k = la := by omega
    have H : Hid (sameB xs ys = true) := by
     show _ = _
     unfold sameB
     rw [decide_eq_true_eq]
     have := heq.out
     rwa [take_all _ _ ha.len, take_all _ _ hb.len] at this
    go_wp2
    go_ret
    exact ⟨by rw [H.out]; rfl, _, rfl⟩
 ·have : sameB xs ys = false := by
   unfold sameB
   rw [decide_eq_false_iff_not]
   intro e
   apply hl
   rw [← ha.len, ← hb.len, e]
  rw [this]
  exact same_len _ _ _ _ _ _ _ hl
end Go.Proofs.YtmmgipcacceakaaGreat

/- The contract of porismref01.trim. -/
namespace Go.Proofs.YtmmgipcacceakaaGreat.Dg
open Go.RowKit
theorem trim_own [Ol] (B : Nat) (ao : Option Addr) (n cap : Nat) (xs : List Nat) (w : World) (h : Own B w ao n cap xs) :
  Calls Tryz.prog 115 #[.slice ao n cap] w (CutOf B w (limbs (val xs))) := by
 have hs := h.sl; have hle := hs.le; have hbig := hs.big
 have HT : Hid (xs.take n = xs) := take_all xs n hs.len
 have HO := Lib.hid h
 have HRES : Hid (trimL xs = limbs (val xs)) := trim_limbs xs h.wf
 clear h
 go_enter Tryz.func115, Tryz.ntmps115
 go_wp2
 go_loop [0] (fun d => ∃ k : Nat, k ≤ n ∧ d = .slice ao k cap ∧ Hid (nl (xs.take k) = nl xs)) (fun d => match d with | .slice _ k _ => k | _ => 0)
 case atStart => exact ⟨n, Nat.le_refl _, rfl, by rw [Hid, HT.out]⟩
 case round =>
  obtain ⟨k, hk, rfl, hnl⟩ := hrel
  by_cases hk0 : k = 0
  ·subst hk0
   have H0 : Hid (Own B w ao 0 cap (limbs (val xs))) := by
    have h1 := HO.out.take_any 0 (Nat.zero_le _); have h2 := hnl.out; rw [List.take_zero] at h1 h2; rw [Hid, ← HRES.out, trimL_take, ← h2]
    exact h1
   go_wp2
   go_ret
   exact ⟨_, _, _, rfl, H0.out, rfl⟩
  ·obtain ⟨b, off, rfl, hb, hc⟩ := hs.at (by omega)
   obtain ⟨j, rfl⟩ : ∃ j, k = j + 1 := ⟨k - 1, by omega⟩
   have hlen := hs.len
   have hcell := hc j (by omega)
   clear hc hlen; obtain ⟨x, hx⟩ : ∃ x, x = xs.getD j 0 := ⟨_, rfl⟩; rw [← hx] at hcell
   have HX : Hid (x = xs.getD j 0) := hx
   clear hx
   by_cases hz : x = 0
   ·subst hz
    have H1 : Hid (nl (xs.take j) = nl xs) := by
     rw [Hid, ← hnl.out, nl_take_zero xs j (by have := hs.len; omega) HX.out.symm]
    clear hnl
    go_wp2
    go_round
    case rel => exact ⟨j, by omega, rfl, H1⟩
    case measure => simp
   ·have hb0 : (((x : Nat) : Int) == 0) = false := by simp; omega
    have H1 : Hid (Own B w (some ⟨b, off, none⟩) (j + 1) cap (limbs (val xs))) := by
     have h1 := HO.out.take_any (j + 1) hk
     rw [Hid, ← HRES.out, trimL_take, ← hnl.out, nl_take_pos xs j (by have := hs.len; omega) (by rw [← HX.out]; exact hz)]
     exact h1
    clear hnl hz
    go_wp2
    go_ret
    exact ⟨_, _, _, rfl, H1.out, rfl⟩
end Go.Proofs.YtmmgipcacceakaaGreat.Dg

/- The contract of porismref01.times. -/
namespace Go.Proofs.YtmmgipcacceakaaGreat.Dg
open Go.RowKit
def TimesInv (B : Nat) (w : World) (ao : Option Addr) (k cap : Nat) (S c : Nat) (wr : World) : Prop :=
 ∃ zs, Own B wr ao k cap zs ∧ Below B w wr ∧ val zs + 10 ^ k * c = S
theorem times_step {zs : List Nat} {k c S N d : Nat} (hl : zs.length = k) (h : val zs + 10 ^ k * c = S) :
  val (zs ++ [(c + d * N) % 10]) + 10 ^ (k + 1) * ((c + d * N) / 10) = S + 10 ^ k * d * N := by
 rw [val_append, val_cons, val_nil, hl, Nat.pow_succ]
 have e : 10 ^ k * ((c + d * N) % 10 + 10 * 0) + 10 ^ k * 10 * ((c + d * N) / 10) = 10 ^ k * c + 10 ^ k * d * N := by
  rw [Nat.mul_assoc, ← Nat.mul_add, Nat.mul_assoc, ← Nat.mul_add]
  congr 1
  omega
 omega
theorem val_take_mul (xs : List Nat) (k N more : Nat) (hk : k < xs.length) : val (xs.take k) * N + more + 10 ^ k * xs.getD k 0 * N = val (xs.take (k + 1)) * N + more := by
 rw [val_take_succ xs k hk, Nat.add_mul]
 omega
theorem times_any [Ol] (ao : Option Addr) (n cap : Nat) (xs : List Nat) (N more : Nat) (w : World) (ha : Sl w ao n cap xs) (hN : N ≤ 65536) (hm : more ≤ 65536) (hroom : n ≤ 8796093022208) :
  Calls Tryz.prog 125 #[.slice ao n cap, .int .i64 (N : Int), .int .i64 (more : Int)] w (NewSl w (limbs (val xs * N + more))) := by
 have hle := ha.le; obtain ⟨i0, hi, hz0, hz1, hz2⟩ := info_parts Tryz.info_int
 go_enter Tryz.func125, Tryz.ntmps125
 go_wp2
 go_loopw [7, 8, 9] (fun o c i wr => ∃ k cc ao' cap', k ≤ n ∧ cc ≤ 65536 ∧ i = .int .i64 ((k : Nat) : Int) ∧ c = .int .i64 ((cc : Nat) : Int) ∧ o = .slice ao' k cap' ∧ TimesInv w.heap.size w ao' k cap' (val (xs.take k) * N + more) cc wr) (fun _ _ i _ => n - (intOf i).toNat)
 case atStart => exact ⟨0, more, none, 0, Nat.zero_le _, hm, rfl, rfl, rfl, [], Own.nil _ _, Below.refl _ _, by simp [val]⟩
 case round =>
  obtain ⟨k, cc, ao', cap', hk, hcc, rfl, rfl, rfl, zs, hO, hB, hV⟩ := hrel; have hsz := hB.size
  by_cases hkn : k < n
  ·obtain ⟨b, off, rfl, hbb, hcell⟩ := ha.at (by omega)
   have hdc : wr.cell? ⟨b, off + k, none⟩ = some (.int .i64 (xs.getD k 0 : Nat)) := (hB.cell (by exact hbb)).trans (hcell k hkn)
   have hdl := ha.getD_lt k; have hstep := times_step (N := N) (d := xs.getD k 0) hO.len hV
   rw [val_take_mul xs k N more (by rw [ha.len]; exact hkn)] at hstep
   obtain ⟨d, hd⟩ : ∃ d, d = xs.getD k 0 := ⟨_, rfl⟩; rw [← hd] at hdc hdl hstep
   have hmul : d * N ≤ 9 * 65536 := Nat.mul_le_mul (by omega) hN
   obtain ⟨dn, hdn⟩ : ∃ dn, dn = d * N := ⟨_, rfl⟩
   have hdnI : ((d : Nat) : Int) * ((N : Nat) : Int) = ((dn : Nat) : Int) := by rw [hdn, Int.natCast_mul]
   rw [← hdn] at hstep hmul; have HST := Lib.hid hstep
   clear hd hV hstep hcell hdn
   go_wp2_with (at_builtin; refine wpList_push wr w rfl (.tmp 25) (.tmp 28) 75 rfl w.heap.size 3 i0 (.int .i64 0) 8 Tryz.underD hi hz0 hz1 hz2 rfl _ _ _ _ rfl hO.row _ rfl 3 rfl hB hsz (by unfold maxLen; omega) (by omega) ?_; intro ao1 cap1 w1 hown1 hB1 _)
   go_roundw
   case rel =>
    refine ⟨k + 1, (cc + dn) / 10, ao1, cap1, by omega, by omega, by go_num, by go_num, rfl, _, Own.push ((cc + dn) % 10) hown1 (by go_num) (Nat.mod_lt _ (by omega)) hO.wf (by omega), hB1, HST.out⟩
   case measure => simp [intOf]; omega
  ·obtain rfl : k = n := by omega
   have hV2 : val zs + 10 ^ k * cc = val xs * N + more := by
    have e : xs.take k = xs := take_all xs k ha.len
    rwa [e] at hV
   have hI : ∃ L, L + cc ≤ k + 65536 ∧ TimesInv w.heap.size w ao' L cap' (val xs * N + more) cc wr ∧ L = k := ⟨k, by omega, ⟨zs, hO, hB, hV2⟩, rfl⟩
   clear hV hV2 hO hB hsz
   go_wp2
   go_loopw [7, 8] (fun o c wr => ∃ L cc ao' cap', L + cc ≤ k + 65536 ∧ c = .int .i64 ((cc : Nat) : Int) ∧ o = .slice ao' L cap' ∧ TimesInv w.heap.size w ao' L cap' (val xs * N + more) cc wr) (fun _ c _ => (intOf c).toNat)
   case atStart =>
    obtain ⟨L, h1, h2, rfl⟩ := hI
    exact ⟨L, cc, ao', cap', h1, rfl, rfl, h2⟩
   case round =>
    clear hI; obtain ⟨L, cc, ao', cap', hL, rfl, rfl, zs, hO, hB, hV⟩ := hrel; have hsz := hB.size
    by_cases hc0 : 0 < cc
    ·have hstep := times_step (N := 0) (d := 0) hO.len hV
     simp only [Nat.mul_zero, Nat.add_zero] at hstep
     have HST := Lib.hid hstep; clear hV hstep
     go_wp2_with (at_builtin; refine wpList_push wr w rfl (.tmp 34) (.tmp 37) 75 rfl w.heap.size 3 i0 (.int .i64 0) 8 Tryz.underD hi hz0 hz1 hz2 rfl _ _ _ _ rfl hO.row _ rfl 3 rfl hB hsz (by unfold maxLen; omega) (by omega) ?_; intro ao1 cap1 w1 hown1 hB1 _)
     go_roundw
     case rel =>
      refine ⟨L + 1, cc / 10, ao1, cap1, by omega, by go_num, rfl, _, Own.push (cc % 10) hown1 (by go_num) (Nat.mod_lt _ (by omega)) hO.wf (by omega), hB1, HST.out⟩
     case measure => simp [intOf]; omega
    ·have hcut := trim_own _ _ _ _ _ _ hO
     have ht : val zs = val xs * N + more := by
      obtain rfl : cc = 0 := by omega
      omega
     rw [ht] at hcut; have HCUT := Lib.hid hcut
     clear ht hV hcut; go_wp2_with fail
     refine HCUT.out.mono fun e w' h => ?_
     obtain ⟨ao2, kk, cap2, rfl, h3, rfl⟩ := h; go_wp2_with fail
     go_ret
     exact ⟨_, _, _, rfl, h3, hB⟩
theorem times_at [Ol] (ao : Option Addr) (n cap : Nat) (xs : List Nat) (N more : Nat) (Ni mi : Int) (w : World) (ha : Sl w ao n cap xs) (hNi : Ni = (N : Int)) (hmi : mi = (more : Int)) (hN : N ≤ 65536) (hm : more ≤ 65536) (hroom : n ≤ 8796093022208) :
  Calls Tryz.prog 125 #[.slice ao n cap, .int .i64 Ni, .int .i64 mi] w (NewSl w (limbs (val xs * N + more))) := by
 subst hNi; subst hmi
 exact times_any ao n cap xs N more w ha hN hm hroom
end Go.Proofs.YtmmgipcacceakaaGreat.Dg

/- The contract of porismref01.by. -/
namespace Go.Proofs.YtmmgipcacceakaaGreat.Dg
open Lib (hid)
open Go.RowKit
def ByInv (B : Nat) (ao : Option Addr) (n cap : Nat) (w : World) (X : List Nat) (N j r : Nat) (wr : World) : Prop :=
 ∃ zs, Own B wr ao n cap zs ∧ Below B w wr ∧ val (zs.drop j) * N + r = val (X.drop j) ∧ r < N
def NewBy (w : World) (ys : List Nat) (r : Nat) (e : Ending) (w' : World) : Prop :=
 ∃ ao n cap, e = .returned (.tuple #[.slice ao n cap, .int .i64 ((r : Nat) : Int)]) ∧ Own w.heap.size w' ao n cap ys ∧ Below w.heap.size w w'
theorem by_any [Ol] (ao : Option Addr) (n cap : Nat) (xs : List Nat) (N : Nat) (w : World) (ha : Sl w ao n cap xs) (hN : 1 ≤ N) (hN2 : N ≤ 65536) :
  Calls Tryz.prog 104 #[.slice ao n cap, .int .i64 (N : Int)] w (NewBy w (limbs (val xs / N)) (val xs % N)) := by
 have hle := ha.le; have hbig := ha.big; obtain ⟨i0, hi, hz0, hz1, hz2⟩ := info_parts Tryz.info_int
 go_enter Tryz.func104, Tryz.ntmps104
 go_wp2_with (at_make; refine wpList_make_full _ rfl _ _ 75 rfl w.heap.size 3 i0 (.int .i64 0) 1 Tryz.underD hi hz0 hz1 _ _ _ _ n rfl rfl rfl rfl ?b2 ?b3 (Nat.le_refl _) ?_)
 case b2 => rw [hz2]; omega
 case b3 => unfold maxLen; omega
 intro w1 hown1 hgrow1
 rw [made_int] at hown1
 have hb1 : Below w.heap.size w w1 := (Below.refl _ _).grown hgrow1 (Nat.le_refl _) (fun k h => by cases h)
 have hO1 : Own w.heap.size w1 (some ⟨w.heap.size, 0, none⟩) n n (List.replicate n 0) :=
  ⟨hown1, hbig, fun x hx => by rw [(List.mem_replicate.1 hx).2]; omega⟩
 clear hown1 hgrow1
 have hI1 : ByInv w.heap.size (some ⟨w.heap.size, 0, none⟩) n n w xs N n 0 w1 := by
  refine ⟨_, hO1, hb1, ?_, by omega⟩
  rw [List.drop_eq_nil_of_le (by simp), List.drop_eq_nil_of_le (by rw [ha.len]; exact Nat.le_refl _), val_nil, Nat.zero_mul]
 clear hO1 hb1; go_wp2_with fail
 go_loopw [7, 8] (fun r i wr => ∃ j rr : Nat, j ≤ n ∧ i = .int .i64 ((j : Int) - 1) ∧ r = .int .i64 ((rr : Nat) : Int) ∧ ByInv w.heap.size (some ⟨w.heap.size, 0, none⟩) n n w xs N j rr wr) (fun _ i _ => (intOf i + 1).toNat)
 case atStart => exact ⟨n, 0, Nat.le_refl _, rfl, rfl, hI1⟩
 case round =>
  clear hI1; obtain ⟨j, rr, hj, rfl, rfl, zs, hO, hB, hV, hr⟩ := hrel
  by_cases hj0 : j = 0
  ·subst hj0
   simp only [List.drop_zero] at hV
   have hq : val zs = val xs / N ∧ rr = val xs % N := by
    have h1 : val xs = rr + N * val zs := by rw [← hV, Nat.mul_comm]; omega
    rw [h1]
    exact ⟨by rw [Nat.add_mul_div_left _ _ (by omega), Nat.div_eq_of_lt hr, Nat.zero_add], by rw [Nat.add_mul_mod_self_left, Nat.mod_eq_of_lt hr]⟩
   have hcut := trim_own _ _ _ _ _ _ hO; rw [hq.1] at hcut; have HCUT := hid hcut; have HR := hid hq.2; clear hV hcut hq; go_wp2_with fail
   refine HCUT.out.mono fun e w' h => ?_
   obtain ⟨ao2, kk, cap2, rfl, h3, rfl⟩ := h; go_wp2_with fail
   go_ret2
   exact ⟨_, _, _, by rw [← HR.out]; rfl, h3, hB⟩
  ·obtain ⟨i, rfl⟩ : ∃ i, j = i + 1 := ⟨j - 1, by omega⟩
   have ei : ((i + 1 : Nat) : Int) - 1 = (i : Int) := by omega
   rw [ei]; have EI := hid ei
   clear ei
   obtain ⟨b, off, rfl, hbb, hcell⟩ := ha.at (by omega)
   have hdc : wr.cell? ⟨b, off + i, none⟩ = some (.int .i64 (xs.getD i 0 : Nat)) := (hB.cell (by exact hbb)).trans (hcell i (by omega))
   have hdl := ha.getD_lt i
   have hzc := hO.cell i (by omega)
   have hzf := hO.frozen i
   have hdrop := val_drop xs i (by rw [ha.len]; omega)
   obtain ⟨d, hd⟩ : ∃ d, d = xs.getD i 0 := ⟨_, rfl⟩; rw [← hd] at hdc hdl hdrop; obtain ⟨z, hz⟩ : ∃ z, z = zs.getD i 0 := ⟨_, rfl⟩; rw [← hz] at hzc
   have hq : (rr * 10 + d) / N < 10 := by rw [Nat.div_lt_iff_lt_mul (by omega)]; omega
   have hst : val ((zs.set i ((rr * 10 + d) / N)).drop i) * N + (rr * 10 + d) % N = val (xs.drop i) := by
    rw [val_drop _ i (by rw [List.length_set, hO.len]; omega), getD_set, if_pos ⟨rfl, by rw [hO.len]; omega⟩, List.drop_set_of_lt (by omega), hdrop, ← hV, Nat.add_mul]
    have h := Nat.mod_add_div (rr * 10 + d) N; rw [Nat.mul_comm N] at h
    have h2 : 10 * val (zs.drop (i + 1)) * N = 10 * (val (zs.drop (i + 1)) * N) := Nat.mul_assoc _ _ _
    omega
   have HQ := hid hq; have HST := hid hst; have HRN := hid hr
   have hrl : rr ≤ 65536 := by omega
   clear hd hz hV hdrop hcell hq hst hr hj0
   go_wp2
   go_roundw
   case rel => exact ⟨i, (rr * 10 + d) % N, by omega, by go_num, by go_num, _, by have := hO.set i _ HQ.out; simpa using this, hB.setCell (Nat.le_refl _) _, HST.out, Nat.mod_lt _ (by omega)⟩
   case measure => simp [intOf]
end Go.Proofs.YtmmgipcacceakaaGreat.Dg

/- The contract of porismref01.Small. -/
namespace Go.Proofs.YtmmgipcacceakaaGreat.Dg
open Go.RowKit
theorem small_any (n : Nat) (w : World) (hn : Hid (n ≤ 18446744073709551615)) :
  Calls Tryz.prog 86 #[.int .u64 (n : Int)] w (NewSl w (limbs n)) := by
 obtain ⟨i0, hi, hz0, hz1, hz2⟩ := info_parts Tryz.info_int
 have HLEN : Hid ((limbs n).length ≤ 20) := limbs_len (u64_pow hn.out)
 have HN := Lib.hid hn.out; clear hn
 go_enter Tryz.func86, Tryz.ntmps86
 go_wp2
 go_loopw [0, 3] (fun c o wr => ∃ (cc L : Nat) (ao : Option Addr) (cap : Nat) (zs : List Nat), cc ≤ n ∧ c = .int .u64 ((cc : Nat) : Int) ∧ o = .slice ao L cap ∧ Own w.heap.size wr ao L cap zs ∧ Below w.heap.size w wr ∧ Hid (zs ++ limbs cc = limbs n)) (fun c _ _ => (intOf c).toNat)
 case atStart => exact ⟨n, 0, none, 0, [], Nat.le_refl _, rfl, rfl, Own.nil _ _, Below.refl _ _, rfl⟩
 case round =>
  obtain ⟨cc, L, ao, cap, zs, hcn, rfl, rfl, hO, hB, hV⟩ := hrel; have hsz := hB.size
  by_cases hc0 : 0 < cc
  ·have hL : L + 1 ≤ 20 := by
    have h1 := congrArg List.length hV.out; have h2 := HLEN.out; rw [List.length_append, limbs_pos hc0, List.length_cons, hO.len] at h1
    omega
   have HST : Hid ((zs ++ [cc % 10]) ++ limbs (cc / 10) = limbs n) := by
    rw [Hid, ← hV.out, limbs_pos hc0]; simp
   have HW : Hid (IntKind.u64.wrap (((cc : Nat) : Int) / 10) = ((cc / 10 : Nat) : Int)) := by
    rw [Hid, show ((cc : Nat) : Int) / 10 = ((cc / 10 : Nat) : Int) from by omega, wrap_u64 _ (by have := HN.out; omega)]
   clear hV
   go_wp2_with (at_builtin; refine wpList_push wr w rfl (.tmp 6) (.tmp 10) 75 rfl w.heap.size 3 i0 (.int .i64 0) 8 Tryz.underD hi hz0 hz1 hz2 rfl _ _ _ _ rfl hO.row _ rfl 3 rfl hB hsz (by unfold maxLen; omega) (by omega) ?_; intro ao1 cap1 w1 hown1 hB1 _)
   go_roundw
   case rel => exact ⟨cc / 10, L + 1, ao1, cap1, _, by omega, by rw [HW.out], rfl, Own.push (cc % 10) hown1 (by go_num) (Nat.mod_lt _ (by omega)) hO.wf (by omega), hB1, HST⟩
   case measure => rw [HW.out]; simp [intOf]; omega
  ·obtain rfl : cc = 0 := by omega
   have HE : Hid (zs = limbs n) := by rw [Hid, ← hV.out, limbs_zero, List.append_nil]
   clear hV
   go_wp2
   go_ret
   exact ⟨_, _, _, rfl, by rw [← HE.out]; exact hO, hB⟩
end Go.Proofs.YtmmgipcacceakaaGreat.Dg

/- The contract of porismref01.Of. -/
namespace Go.Proofs.YtmmgipcacceakaaGreat.Dg
open Go.RowKit
def OfInv (B : Nat) (w : World) (xs : List Nat) (ao : Option Addr) (L cap j : Nat) (wr : World) : Prop :=
 Own B wr ao L cap (limbs (Go.Proofs.YtmmgipcacceakaaGreat.val (xs.drop j))) ∧ Below B w wr
theorem of_any [Ol] (ao : Option Addr) (n cap : Nat) (xs : List Nat) (w : World) (ha : Go.Proofs.YtmmgipcacceakaaGreat.Sl w ao n cap xs) (hroom : n ≤ 1000000) :
  Calls Tryz.prog 103 #[.slice ao n cap] w (NewSl w (limbs (Go.Proofs.YtmmgipcacceakaaGreat.val xs))) := by
 have hle := ha.le
 go_enter Tryz.func103, Tryz.ntmps103
 go_wp2
 go_loopw [3, 4] (fun d i wr => ∃ (j L : Nat) (ao' : Option Addr) (cap' : Nat), j ≤ n ∧ i = .int .i64 ((j : Int) - 1) ∧ d = .slice ao' L cap' ∧ OfInv w.heap.size w xs ao' L cap' j wr) (fun _ i _ => (intOf i + 1).toNat)
 case atStart => exact ⟨n, 0, none, 0, Nat.le_refl _, rfl, rfl, by rw [List.drop_eq_nil_of_le (by rw [ha.len]; exact Nat.le_refl _)]; exact Own.nil _ _, Below.refl _ _⟩
 case round =>
  obtain ⟨j, L, ao', cap', hj, rfl, rfl, hO, hB⟩ := hrel
  by_cases hj0 : j = 0
  ·subst hj0
   rw [List.drop_zero] at hO
   go_wp2
   go_ret
   exact ⟨_, _, _, rfl, hO, hB⟩
  ·obtain ⟨i, rfl⟩ : ∃ i, j = i + 1 := ⟨j - 1, by omega⟩
   have ei : ((i + 1 : Nat) : Int) - 1 = (i : Int) := by omega
   rw [ei]; clear ei
   obtain ⟨b, off, rfl, hbb, hcell⟩ := ha.at (by omega)
   have hxc : wr.cell? ⟨b, off + i, none⟩ = some (.int .u32 (xs.getD i 0 : Nat)) := (hB.cell (by exact hbb)).trans (hcell i (by omega))
   have hxl := ha.getD_lt i
   have hdrop := Go.Proofs.YtmmgipcacceakaaGreat.val_drop xs i (by rw [ha.len]; omega)
   have hL : L ≤ 10 * (n - (i + 1)) := by rw [← hO.len]; exact digits_of_limbs ha.wf _ _ ha.len
   have hlt2 := drop_lt ha.wf i n ha.len; obtain ⟨x, hx⟩ : ∃ x, x = xs.getD i 0 := ⟨_, rfl⟩; rw [← hx] at hxc hxl hdrop; obtain ⟨v, hv⟩ : ∃ v, v = Go.Proofs.YtmmgipcacceakaaGreat.val (xs.drop (i + 1)) := ⟨_, rfl⟩; rw [← hv] at hO hdrop; rw [hdrop] at hlt2
   have HM : Hid ((limbs (v * 65536 + x / 65536)).length ≤ 10 * (n - i)) := limbs_len (by omega)
   have HD := Lib.hid hdrop; clear hx hv hcell hj0 hdrop hlt2
   have hin : ((i : Nat) : Int) < ((n : Nat) : Int) := by omega
   have hi0 : (0 : Int) ≤ ((i : Nat) : Int) := by omega
   have hbr : b < wr.heap.size := by have := hB.size; omega
   have hs0 := hO.sl
   have H65 : Hid ((65536 : Int) = ((65536 : Nat) : Int)) := rfl
   have HW1 : Hid (IntKind.i64.wrap (IntKind.u32.wrap (((x : Nat) : Int) / 65536)) = ((x / 65536 : Nat) : Int)) := by
    rw [Hid, show ((x : Nat) : Int) / 65536 = ((x / 65536 : Nat) : Int) from by omega, wrap_u32 _ (by omega), wrap_i64 _ (by omega)]
   have HW2 : Hid (IntKind.i64.wrap (((x : Nat) : Int).tmod 65536) = ((x % 65536 : Nat) : Int)) := by
    rw [Hid, Int.tmod_eq_emod_of_nonneg (by omega), show ((x : Nat) : Int) % 65536 = ((x % 65536 : Nat) : Int) from by omega, wrap_i64 _ (by omega)]
   go_wp2
   go_region_held3 (fun w' => w'.cell? ⟨b, off + i, none⟩ = some (.int .u32 ((x : Nat) : Int)))
    (first | go_keep | (exact (hB1.cell (by simpa using hbr)).trans hxc) | (exact (hB2.cell (by exact hbr1)).trans ((hB1.cell (by simpa using hbr)).trans hxc)))
    (first
     | (go_at_call_of 125 (Value.slice ao' L cap'); go_must (with_reducible refine (times_at ao' L cap' _ 65536 (x / 65536) _ _ _ hO.drew.sl H65.out HW1.out (by omega) (by omega) (by omega)).mono ?_); rintro e w1 ⟨ao1, n1, cap1, rfl, hO1, hB1⟩; have hn1 : n1 ≤ 10 * (n - i) := (by rw [← hO1.len, val_limbs]; exact HM.out); have hbr1 : b < w1.heap.size := (Nat.lt_of_lt_of_le (by simpa using hbr) hB1.size))
     | (go_at_call 125; go_must (with_reducible refine (times_at ao1 n1 cap1 _ 65536 (x % 65536) _ _ _ hO1.sl H65.out HW2.out (by omega) (by omega) (by omega)).mono ?_); rintro e w2 ⟨ao2, n2, cap2, rfl, hO2, hB2⟩))
   have hBa : Below w.heap.size w w1 := hB.drew.trans (hB1.mono (by have := hB.size; simpa using this))
   have hBb : Below w.heap.size w w2 := hBa.trans (hB2.mono hBa.size)
   have hO3 : Own w.heap.size w2 ao2 n2 cap2 (limbs (Go.Proofs.YtmmgipcacceakaaGreat.val (xs.drop i))) := by
    have e : val (limbs (val (limbs v) * 65536 + x / 65536)) * 65536 + x % 65536 = Go.Proofs.YtmmgipcacceakaaGreat.val (xs.drop i) := by
     rw [val_limbs, val_limbs, HD.out]; omega
    rw [e] at hO2
    exact hO2.mono hBa.size
   go_wp2
   go_roundw
   case rel => exact ⟨i, n2, ao2, cap2, by omega, by go_num, rfl, hO3, hBb⟩
   case measure => simp [intOf]
end Go.Proofs.YtmmgipcacceakaaGreat.Dg

/- The contract of the method Limbs of porismref01.D. -/
namespace Go.Proofs.YtmmgipcacceakaaGreat.Dg
open Go.RowKit
theorem by_at [Ol] (ao : Option Addr) (n cap : Nat) (v : Nat) (w : World) (ha : Sl w ao n cap (limbs v)) :
  Calls Tryz.prog 104 #[.slice ao n cap, .int .i64 65536] w (NewBy w (limbs (v / 65536)) (v % 65536)) := by
 have := by_any ao n cap (limbs v) 65536 w ha (by omega) (by omega)
 rw [val_limbs] at this
 exact this
theorem limbs_any [Ol] (ao : Option Addr) (n cap : Nat) (v0 : Nat) (w : World) (ha : Sl w ao n cap (limbs v0)) :
  Calls Tryz.prog 74 #[.slice ao n cap] w (Go.Proofs.YtmmgipcacceakaaGreat.NewSl w (Go.Proofs.YtmmgipcacceakaaGreat.limbs v0)) := by
 obtain ⟨i0, hi, hz0, hz1, hz2⟩ := info_parts Tryz.info_u32; have hbig := ha.big
 go_enter Tryz.func74, Tryz.ntmps74
 go_wp2
 go_loopw [0, 3, 4, 5] (fun d o _ _ wr => ∃ (v L cap' : Nat) (ao' : Option Addr) (M capo : Nat) (aoo : Option Addr) (zs : List Nat), d = .slice ao' L cap' ∧ o = .slice aoo M capo ∧ M + L ≤ n ∧ Sl wr ao' L cap' (limbs v) ∧ Go.Proofs.YtmmgipcacceakaaGreat.Own w.heap.size wr aoo M capo zs ∧ Below w.heap.size w wr ∧ Hid (zs ++ Go.Proofs.YtmmgipcacceakaaGreat.limbs v = Go.Proofs.YtmmgipcacceakaaGreat.limbs v0)) (fun d _ _ _ _ => match d with | .slice _ k _ => k | _ => 0)
 case atStart => exact ⟨v0, n, cap, ao, 0, 0, none, [], rfl, rfl, by omega, ha, Go.Proofs.YtmmgipcacceakaaGreat.Own.nil _ _, Below.refl _ _, rfl⟩
 case round =>
  obtain ⟨v, L, cap', ao', M, capo, aoo, zs, rfl, rfl, hML, hS, hO, hB, hV⟩ := hrel; have HLV := Lib.hid (len_pos hS.len)
  by_cases hL : 0 < L
  ·have hv : 0 < v := HLV.out.1 hL
   have HST : Hid ((zs ++ [v % 4294967296]) ++ Go.Proofs.YtmmgipcacceakaaGreat.limbs (v / 4294967296) = Go.Proofs.YtmmgipcacceakaaGreat.limbs v0) := by
    rw [Hid, ← hV.out, Go.Proofs.YtmmgipcacceakaaGreat.limbs_pos hv]; simp
   have HSH : Hid ((limbs (v / 4294967296)).length < L) := by rw [← hS.len]; exact limbs_shorter hv
   clear hv hV; go_wp2_with fail; refine (by_at _ _ _ v _ hS).mono ?_; rintro e w1 ⟨ao1, n1, cap1, rfl, hO1, hB1⟩; have hOa := hO.below hB1
   have hBa : Below w.heap.size w w1 := Go.Proofs.YtmmgipcacceakaaGreat.Below.steps hB hB1
   clear hO hB hS
   have hlo : v % 65536 < 65536 := Nat.mod_lt _ (by omega)
   obtain ⟨lo, hloe⟩ : ∃ lo, lo = v % 65536 := ⟨_, rfl⟩; rw [← hloe] at hlo ⊢; have HLO := Lib.hid hloe; clear hloe; go_wp2_with fail; refine (by_at _ _ _ (v / 65536) _ hO1.sl).mono ?_; rintro e w2 ⟨ao2, n2, cap2, rfl, hO2, hB2⟩; have hOb := hOa.below hB2
   have hBb : Below w.heap.size w w2 := Go.Proofs.YtmmgipcacceakaaGreat.Below.steps hBa hB2
   have hsz := hBb.size; have hS2 := hO2.sl; have HAP := Lib.hid (apart_own hOa hO2)
   have e2 : v / 65536 / 65536 = v / 4294967296 := by omega
   rw [e2] at hS2
   have hn2 : n2 < L := by rw [← hS2.len]; exact HSH.out
   clear hOa hBa hO1 hB1 hB2 hO2 e2
   have hhi : v / 65536 % 65536 < 65536 := Nat.mod_lt _ (by omega)
   obtain ⟨hg, hhie⟩ : ∃ hg, hg = v / 65536 % 65536 := ⟨_, rfl⟩; rw [← hhie] at hhi ⊢
   have HX : Hid (hg * 65536 + lo = v % 4294967296) := by rw [Hid, hhie, HLO.out]; omega
   clear hhie
   go_wp2_with (at_builtin; refine wpList_push w2 w rfl (.tmp 19) (.tmp 26) 50 rfl w.heap.size 118 i0 (.int .u32 0) 4 Tryz.underlying50 hi hz0 hz1 hz2 rfl _ _ _ _ rfl hOb.row _ rfl 118 rfl hBb hsz (by unfold maxLen; omega) (by omega) ?_; intro ao3 cap3 w3 hown3 hB3 hg3)
   go_roundw
   case rel => exact ⟨v / 4294967296, n2, cap2, ao2, M + 1, cap3, ao3, _, rfl, rfl, by omega, hS2.grown hg3 HAP.out, push32 (hg * 65536 + lo) hown3 (by go_num) (by omega) hOb.wf (by omega), hB3, by rw [HX.out]; exact HST⟩
   case measure => simp; omega
  ·obtain rfl : L = 0 := by omega
   have HE : Hid (zs = Go.Proofs.YtmmgipcacceakaaGreat.limbs v0) := by
    have : v = 0 := by
     rcases Nat.eq_zero_or_pos v with h | h
     ·exact h
     ·exact absurd (HLV.out.2 h) (by omega)
    subst this; rw [Hid, ← hV.out, Go.Proofs.YtmmgipcacceakaaGreat.limbs_zero, List.append_nil]
   clear hV
   go_wp2
   go_ret
   exact ⟨_, _, _, rfl, by rw [← HE.out]; exact hO, hB⟩
end Go.Proofs.YtmmgipcacceakaaGreat.Dg

/- The contract of porismref01.Cmp. -/
namespace Go.Proofs.YtmmgipcacceakaaGreat.Dg
open Lib (hid)
open Go.RowKit
theorem nl_lim {a n : Nat} (h : (limbs a).length = n) : nl (limbs a) = n := by rw [nl_limbs, h]
theorem cmp_lens_any [Ol] (a0 b0 : Option Addr) (la ca lb cb a b : Nat) (w : World) (ha : Sl w a0 la ca (limbs a)) (hb : Sl w b0 lb cb (limbs b)) (hne : la ≠ lb) :
  Calls Tryz.prog 118 #[.slice a0 la ca, .slice b0 lb cb] w (Go.Proofs.YtmmgipcacceakaaGreat.RetB (.int .i64 (cmpN a b)) w) := by
 have hcl := cmp_lens ha.wf hb.wf (by rw [nl_lim ha.len, nl_lim hb.len]; exact hne)
 rw [nl_lim ha.len, nl_lim hb.len, val_limbs, val_limbs] at hcl; have b1 := ha.big
 have b2 := hb.big
 have hne1 : (((la : Nat) : Int) != ((lb : Nat) : Int)) = true := by simp; omega
 have hne2 : (la != lb) = true := by simp; omega
 by_cases hlt : la < lb
 ·have H : Hid (cmpN a b = -1) := by rw [Hid, hcl, if_neg (by omega)]
  clear hcl
  go_enter Tryz.func118, Tryz.ntmps118
  go_wp2
  go_ret
  exact ⟨by rw [H.out]; rfl, Below.refl _ _⟩
 ·have H : Hid (cmpN a b = 1) := by rw [Hid, hcl, if_pos (by omega)]
  have hd : decide (la < lb) = false := by simp; omega
  clear hcl
  go_enter Tryz.func118, Tryz.ntmps118
  go_wp2
  go_ret
  exact ⟨by rw [H.out]; rfl, Below.refl _ _⟩
theorem cmp_any [Ol] (a0 b0 : Option Addr) (la ca lb cb a b : Nat) (w : World) (ha : Sl w a0 la ca (limbs a)) (hb : Sl w b0 lb cb (limbs b)) :
  Calls Tryz.prog 118 #[.slice a0 la ca, .slice b0 lb cb] w (Go.Proofs.YtmmgipcacceakaaGreat.RetB (.int .i64 (cmpN a b)) w) := by
 by_cases hne : la ≠ lb
 ·exact cmp_lens_any _ _ _ _ _ _ _ _ _ ha hb hne
 obtain rfl : la = lb := by omega
 clear hne; have b1 := ha.big; have HN1 := hid (nl_lim ha.len); have HN2 := hid (nl_lim hb.len)
 have hne : (((la : Nat) : Int) != ((la : Nat) : Int)) = false := by simp
 go_enter Tryz.func118, Tryz.ntmps118
 go_wp2
 go_loopw [5] (fun i wr => ∃ j : Nat, j ≤ la ∧ i = .int .i64 ((j : Int) - 1) ∧ Hid (∀ t, j ≤ t → t < la → (limbs a).getD t 0 = (limbs b).getD t 0) ∧ ∃ q, wr = w.drewN q) (fun i _ => (intOf i + 1).toNat)
 case atStart => exact ⟨la, Nat.le_refl _, rfl, fun t h1 h2 => by omega, 0, rfl⟩
 case round =>
  obtain ⟨j, hj, rfl, heq, q, rfl⟩ := hrel
  by_cases hj0 : j = 0
  ·subst hj0
   have H : Hid (cmpN a b = 0) := by
    have := cmp_same la HN1.out HN2.out (fun i hi => heq.out i (Nat.zero_le _) hi)
    rw [val_limbs, val_limbs] at this
    exact this
   go_wp2
   go_ret
   exact ⟨by rw [H.out]; rfl, below_drewN _ _ _⟩
  ·obtain ⟨i, rfl⟩ : ∃ i, j = i + 1 := ⟨j - 1, by omega⟩
   have ei : ((i + 1 : Nat) : Int) - 1 = (i : Int) := by omega
   rw [ei]; clear ei
   obtain ⟨p, off, rfl, _, hca⟩ := ha.at (by omega)
   obtain ⟨p', off', rfl, _, hcb⟩ := hb.at (by omega)
   have ha1 := hca i (by omega)
   have hb1 := hcb i (by omega)
   have HW := hid ha.wf; have HW2 := hid hb.wf; obtain ⟨x, hx⟩ : ∃ x, x = (limbs a).getD i 0 := ⟨_, rfl⟩; obtain ⟨y, hy⟩ : ∃ y, y = (limbs b).getD i 0 := ⟨_, rfl⟩; rw [← hx] at ha1; rw [← hy] at hb1; have HX := hid hx; have HY := hid hy
   have hin : ((i : Nat) : Int) < ((la : Nat) : Int) := by omega
   clear hx hy hca hcb hj0
   have HAT : Hid (x ≠ y → cmpN a b = if y < x then 1 else -1) := by
    intro hxy
    have := cmp_at HW.out HW2.out la i HN1.out HN2.out (by omega) (fun t h1 h2 => heq.out t (by omega) h2) (by rw [← HX.out, ← HY.out]; exact hxy)
    rw [val_limbs, val_limbs, ← HX.out, ← HY.out] at this
    exact this
   by_cases hxy : x < y
   ·have H : Hid (cmpN a b = -1) := by rw [Hid, HAT.out (by omega), if_neg (by omega)]
    have e1 : decide (x < y) = true := by simp; omega
    go_wp2
    go_quiet (fail)
    go_wp2
    go_ret
    exact ⟨by rw [H.out]; rfl, (below_drewN _ _ _).trans (below_drewN _ _ _)⟩
   ·have e1 : decide (x < y) = false := by simp; omega
    by_cases hyx : y < x
    ·have H : Hid (cmpN a b = 1) := by rw [Hid, HAT.out (by omega), if_pos (by omega)]
     have e2 : decide (y < x) = true := by simp; omega
     go_wp2
     go_quiet (fail)
     go_wp2
     go_quiet (fail)
     go_wp2
     go_ret
     exact ⟨by rw [H.out]; rfl, by first | exact below_drewN _ _ _ | exact (below_drewN _ _ _).trans (below_drewN _ _ _) | exact ((below_drewN _ _ _).trans (below_drewN _ _ _)).trans (below_drewN _ _ _)⟩
    ·have e2 : decide (y < x) = false := by simp; omega
     have hE : Hid (∀ t, i ≤ t → t < la → (limbs a).getD t 0 = (limbs b).getD t 0) := by
      intro t h1 h2
      by_cases h3 : t = i
      ·subst h3; rw [← HX.out, ← HY.out]; omega
      ·exact heq.out t (by omega) h2
     clear heq
     go_wp2
     go_quiet (fail)
     go_wp2
     go_quiet (fail)
     go_wp2
     go_roundw
     case rel => exact ⟨i, by omega, by go_num, hE, _, by first | rfl | (rw [World.drewN_drewN]) | (rw [World.drewN_drewN, World.drewN_drewN])⟩
     case measure => simp [intOf]
theorem cmp_is [Ol] (c : Int) (a0 b0 : Option Addr) (la ca lb cb a b : Nat) (w : World) (ha : Sl w a0 la ca (limbs a)) (hb : Sl w b0 lb cb (limbs b)) (hc : Hid (cmpN a b = c)) :
  Calls Tryz.prog 118 #[.slice a0 la ca, .slice b0 lb cb] w (Go.Proofs.YtmmgipcacceakaaGreat.RetB (.int .i64 c) w) := by
 rw [← hc.out]; exact cmp_any a0 b0 la ca lb cb a b w ha hb
end Go.Proofs.YtmmgipcacceakaaGreat.Dg

/- The contract of porismref01.Add. -/
namespace Go.Proofs.YtmmgipcacceakaaGreat.Dg
open Lib (hid)
open Go.RowKit
theorem add_push {zs : List Nat} {k c S T x y : Nat} (hl : zs.length = k) (h : val zs + 10 ^ k * c = S + T) :
  val (zs ++ [(c + x + y) % 10]) + 10 ^ (k + 1) * ((c + x + y) / 10) = (S + 10 ^ k * x) + (T + 10 ^ k * y) := by
 rw [val_append, val_cons, val_nil, hl, Nat.pow_succ]
 have e : 10 ^ k * ((c + x + y) % 10 + 10 * 0) + 10 ^ k * 10 * ((c + x + y) / 10) = 10 ^ k * c + 10 ^ k * x + 10 ^ k * y := by
  rw [Nat.mul_assoc, ← Nat.mul_add, ← Nat.mul_add, ← Nat.mul_add]
  congr 1
  omega
 omega
def AddInv (B : Nat) (w : World) (ao : Option Addr) (k cap : Nat) (S c : Nat) (wr : World) : Prop :=
 ∃ zs, Own B wr ao k cap zs ∧ Below B w wr ∧ val zs + 10 ^ k * c = S
theorem add_any [Ol] (a0 b0 : Option Addr) (la ca lb cb : Nat) (xs ys : List Nat) (w : World) (ha : Sl w a0 la ca xs) (hb : Sl w b0 lb cb ys) (hra : la ≤ 4398046511104) (hrb : lb ≤ 4398046511104) :
  Calls Tryz.prog 87 #[.slice a0 la ca, .slice b0 lb cb] w (NewSl w (limbs (val xs + val ys))) := by
 obtain ⟨i0, hi, hz0, hz1, hz2⟩ := info_parts Tryz.info_int
 go_enter Tryz.func87, Tryz.ntmps87
 go_wp2
 go_loopw [5, 6, 7] (fun o c i wr => ∃ (k cc : Nat) (ao' : Option Addr) (cap' : Nat), k ≤ la + lb + 1 ∧ cc ≤ 1 ∧ i = .int .i64 ((k : Nat) : Int) ∧ c = .int .i64 ((cc : Nat) : Int) ∧ o = .slice ao' k cap' ∧ AddInv w.heap.size w ao' k cap' (val (xs.take k) + val (ys.take k)) cc wr) (fun _ _ i _ => la + lb + 1 - (intOf i).toNat)
 case atStart => exact ⟨0, 0, none, 0, Nat.zero_le _, Nat.zero_le _, rfl, rfl, rfl, [], Own.nil _ _, Below.refl _ _, by simp [val]⟩
 case round =>
  obtain ⟨k, cc, ao', cap', hk, hcc, rfl, rfl, rfl, zs, hO, hB, hV⟩ := hrel; have hsz := hB.size
  by_cases hka : k < la
  ·by_cases hkb : k < lb
   ·skip
    obtain ⟨pa, offa, rfl, hpa, hca⟩ := ha.at (by omega)
    have hxc : wr.cell? ⟨pa, offa + k, none⟩ = some (.int .i64 (xs.getD k 0 : Nat)) := (hB.cell (by exact hpa)).trans (hca k (by omega))
    have hxl := ha.getD_lt k
    obtain ⟨pb, offb, rfl, hpb, hcb⟩ := hb.at (by omega)
    have hyc : wr.cell? ⟨pb, offb + k, none⟩ = some (.int .i64 (ys.getD k 0 : Nat)) := (hB.cell (by exact hpb)).trans (hcb k (by omega))
    have hyl := hb.getD_lt k; have hstep := add_push (x := xs.getD k 0) (y := ys.getD k 0) hO.len hV; rw [val_take_any xs k, val_take_any ys k] at hstep; obtain ⟨x, hx⟩ : ∃ x, x = xs.getD k 0 := ⟨_, rfl⟩; rw [← hx] at hxc hxl hstep; clear hx hca; obtain ⟨y, hy⟩ : ∃ y, y = ys.getD k 0 := ⟨_, rfl⟩; rw [← hy] at hyc hyl hstep; clear hy hcb; have HST := hid hstep; clear hV hstep
    go_wp2_with (at_builtin; refine wpList_push wr w rfl (.tmp 44) (.tmp 47) 75 rfl w.heap.size 3 i0 (.int .i64 0) 8 Tryz.underD hi hz0 hz1 hz2 rfl _ _ _ _ rfl hO.row _ rfl 3 rfl hB hsz (by unfold maxLen; omega) (by omega) ?_; intro ao1 cap1 w1 hown1 hB1 _)
    go_roundw
    case rel => exact ⟨k + 1, (cc + x + y) / 10, ao1, cap1, by omega, by omega, by go_num, by go_num, rfl, _, Own.push ((cc + x + y) % 10) hown1 (by go_num) (Nat.mod_lt _ (by omega)) hO.wf (by omega), hB1, HST.out⟩
    case measure => simp [intOf]; omega
   ·skip
    obtain ⟨pa, offa, rfl, hpa, hca⟩ := ha.at (by omega)
    have hxc : wr.cell? ⟨pa, offa + k, none⟩ = some (.int .i64 (xs.getD k 0 : Nat)) := (hB.cell (by exact hpa)).trans (hca k (by omega))
    have hxl := ha.getD_lt k
    have db : decide (k < lb) = false := by simp; omega
    have hy0 : ys.getD k 0 = 0 := getD_out ys k (by rw [hb.len]; omega)
    have hstep := add_push (x := xs.getD k 0) (y := ys.getD k 0) hO.len hV; rw [val_take_any xs k, val_take_any ys k] at hstep; obtain ⟨x, hx⟩ : ∃ x, x = xs.getD k 0 := ⟨_, rfl⟩; rw [← hx] at hxc hxl hstep; clear hx hca; rw [hy0] at hstep; have HST := hid hstep; clear hV hstep
    go_wp2_with (at_builtin; refine wpList_push wr w rfl (.tmp 44) (.tmp 47) 75 rfl w.heap.size 3 i0 (.int .i64 0) 8 Tryz.underD hi hz0 hz1 hz2 rfl _ _ _ _ rfl hO.row _ rfl 3 rfl hB hsz (by unfold maxLen; omega) (by omega) ?_; intro ao1 cap1 w1 hown1 hB1 _)
    go_roundw
    case rel => exact ⟨k + 1, (cc + x + 0) / 10, ao1, cap1, by omega, by omega, by go_num, by go_num, rfl, _, Own.push ((cc + x + 0) % 10) hown1 (by go_num) (Nat.mod_lt _ (by omega)) hO.wf (by omega), hB1, HST.out⟩
    case measure => simp [intOf]; omega
  ·have da : decide (k < la) = false := by simp; omega
   by_cases hkb : k < lb
   ·skip
    have hx0 : xs.getD k 0 = 0 := getD_out xs k (by rw [ha.len]; omega)
    obtain ⟨pb, offb, rfl, hpb, hcb⟩ := hb.at (by omega)
    have hyc : wr.cell? ⟨pb, offb + k, none⟩ = some (.int .i64 (ys.getD k 0 : Nat)) := (hB.cell (by exact hpb)).trans (hcb k (by omega))
    have hyl := hb.getD_lt k; have hstep := add_push (x := xs.getD k 0) (y := ys.getD k 0) hO.len hV; rw [val_take_any xs k, val_take_any ys k] at hstep; rw [hx0] at hstep; obtain ⟨y, hy⟩ : ∃ y, y = ys.getD k 0 := ⟨_, rfl⟩; rw [← hy] at hyc hyl hstep; clear hy hcb; have HST := hid hstep; clear hV hstep
    go_wp2_with (at_builtin; refine wpList_push wr w rfl (.tmp 44) (.tmp 47) 75 rfl w.heap.size 3 i0 (.int .i64 0) 8 Tryz.underD hi hz0 hz1 hz2 rfl _ _ _ _ rfl hO.row _ rfl 3 rfl hB hsz (by unfold maxLen; omega) (by omega) ?_; intro ao1 cap1 w1 hown1 hB1 _)
    go_roundw
    case rel => exact ⟨k + 1, (cc + 0 + y) / 10, ao1, cap1, by omega, by omega, by go_num, by go_num, rfl, _, Own.push ((cc + 0 + y) % 10) hown1 (by go_num) (Nat.mod_lt _ (by omega)) hO.wf (by omega), hB1, HST.out⟩
    case measure => simp [intOf]; omega
   ·have db : decide (k < lb) = false := by simp; omega
    have hS : Hid (val zs + 10 ^ k * cc = val xs + val ys) := by
     rw [List.take_of_length_le (by rw [ha.len]; omega), List.take_of_length_le (by rw [hb.len]; omega)] at hV
     exact hV
    by_cases hc0 : 0 < cc
    ·have hk2 : k ≤ la + lb := by
      rcases Nat.lt_or_ge (la + lb) k with h | h
      ·obtain rfl : k = la + lb + 1 := by omega
       obtain rfl : cc = 1 := by omega
       have h1 := val_lt xs ha.wf; have h2 := val_lt ys hb.wf; rw [ha.len] at h1; rw [hb.len] at h2
       have h3 : 10 ^ la ≤ 10 ^ (la + lb) := Nat.pow_le_pow_right (by omega) (by omega)
       have h4 : 10 ^ lb ≤ 10 ^ (la + lb) := Nat.pow_le_pow_right (by omega) (by omega)
       have h5 := hS.out; rw [Nat.pow_succ] at h5
       omega
      ·exact h
     have hx0 : xs.getD k 0 = 0 := getD_out xs k (by rw [ha.len]; omega)
     have hy0 : ys.getD k 0 = 0 := getD_out ys k (by rw [hb.len]; omega)
     have hstep := add_push (x := xs.getD k 0) (y := ys.getD k 0) hO.len hV; rw [val_take_any xs k, val_take_any ys k] at hstep; rw [hx0] at hstep; rw [hy0] at hstep; have HST := hid hstep; clear hV hstep
     go_wp2_with (at_builtin; refine wpList_push wr w rfl (.tmp 44) (.tmp 47) 75 rfl w.heap.size 3 i0 (.int .i64 0) 8 Tryz.underD hi hz0 hz1 hz2 rfl _ _ _ _ rfl hO.row _ rfl 3 rfl hB hsz (by unfold maxLen; omega) (by omega) ?_; intro ao1 cap1 w1 hown1 hB1 _)
     go_roundw
     case rel => exact ⟨k + 1, (cc + 0 + 0) / 10, ao1, cap1, by omega, by omega, by go_num, by go_num, rfl, _, Own.push ((cc + 0 + 0) % 10) hown1 (by go_num) (Nat.mod_lt _ (by omega)) hO.wf (by omega), hB1, HST.out⟩
     case measure => simp [intOf]; omega
    ·have hd : decide (0 < cc) = false := by simp; omega
     have hcut := trim_own _ _ _ _ _ _ hO
     have ht : val zs = val xs + val ys := by
      have := hS.out
      obtain rfl : cc = 0 := by omega
      omega
     rw [ht] at hcut; have HCUT := hid hcut
     clear ht hV hcut; go_wp2_with fail
     refine HCUT.out.mono fun e w' h => ?_
     obtain ⟨ao2, kk, cap2, rfl, h3, rfl⟩ := h; go_wp2_with fail
     go_ret
     exact ⟨_, _, _, rfl, h3, hB⟩
end Go.Proofs.YtmmgipcacceakaaGreat.Dg

/- The contract of porismref01.Sub. -/
namespace Go.Proofs.YtmmgipcacceakaaGreat.Dg
open Lib (hid)
open Go.RowKit
theorem sub_push {zs : List Nat} {k c S T u y : Nat} (hl : zs.length = k) (hu : u < 10) (hy : y < 10) (hc : c ≤ 1) (h : val zs + T = S + 10 ^ k * c) :
  val (zs ++ [subD u y c]) + (T + 10 ^ k * y) = (S + 10 ^ k * u) + 10 ^ (k + 1) * subB u y c := by
 rw [val_append, val_cons, val_nil, hl, Nat.pow_succ, Nat.mul_zero, Nat.add_zero]
 have e : 10 ^ k * subD u y c + 10 ^ k * y + 10 ^ k * c = 10 ^ k * u + 10 ^ k * 10 * subB u y c := by
  rw [Nat.mul_assoc, ← Nat.mul_add, ← Nat.mul_add, ← Nat.mul_add]
  congr 1
  unfold subD subB
  split <;> omega
 omega
theorem limbs_le_len {a b : Nat} (h : b ≤ a) : (limbs b).length ≤ (limbs a).length := by
 rcases Nat.lt_or_ge (limbs a).length (limbs b).length with h1 | h1
 ·have h2 := val_lt_of_nl (xs := limbs a) (ys := limbs b) (wf_limbs a) (by rw [nl_limbs, nl_limbs]; exact h1)
  rw [val_limbs, val_limbs] at h2
  omega
 ·exact h1
def SubInv (B : Nat) (w : World) (ao : Option Addr) (k cap : Nat) (S T c : Nat) (wr : World) : Prop :=
 ∃ zs, Own B wr ao k cap zs ∧ Below B w wr ∧ val zs + T = S + 10 ^ k * c
theorem sub_any [Ol] (a0 b0 : Option Addr) (la ca lb cb a b : Nat) (w : World) (ha : Sl w a0 la ca (limbs a)) (hb : Sl w b0 lb cb (limbs b)) (hge : b ≤ a) (hra : la ≤ 4398046511104) :
  Calls Tryz.prog 119 #[.slice a0 la ca, .slice b0 lb cb] w (NewSl w (limbs (a - b))) := by
 obtain ⟨i0, hi, hz0, hz1, hz2⟩ := info_parts Tryz.info_int
 have hlb : lb ≤ la := by rw [← ha.len, ← hb.len]; exact limbs_le_len hge
 have HGE := hid hge; clear hge; obtain ⟨xs, hxs⟩ : ∃ xs, xs = limbs a := ⟨_, rfl⟩; obtain ⟨ys, hys⟩ : ∃ ys, ys = limbs b := ⟨_, rfl⟩
 have HXV : Hid (val xs = a) := by rw [Hid, hxs, val_limbs]
 have HYV : Hid (val ys = b) := by rw [Hid, hys, val_limbs]
 rw [← hxs] at ha; rw [← hys] at hb
 clear hxs hys
 go_enter Tryz.func119, Tryz.ntmps119
 go_wp2
 go_loopw [5, 6, 7, 8] (fun o c i _ wr => ∃ (k cc : Nat) (ao' : Option Addr) (cap' : Nat), k ≤ la ∧ cc ≤ 1 ∧ i = .int .i64 ((k : Nat) : Int) ∧ c = .int .i64 ((cc : Nat) : Int) ∧ o = .slice ao' k cap' ∧ SubInv w.heap.size w ao' k cap' (val (xs.take k)) (val (ys.take k)) cc wr) (fun _ _ i _ _ => la - (intOf i).toNat)
 case atStart => exact ⟨0, 0, none, 0, Nat.zero_le _, Nat.zero_le _, rfl, rfl, rfl, [], Own.nil _ _, Below.refl _ _, by simp [val]⟩
 case round =>
  obtain ⟨k, cc, ao', cap', hk, hcc, rfl, rfl, rfl, zs, hO, hB, hV⟩ := hrel; have hsz := hB.size
  by_cases hka : k < la
  ·obtain ⟨pa, offa, rfl, hpa, hca⟩ := ha.at (by omega)
   have hxc : wr.cell? ⟨pa, offa + k, none⟩ = some (.int .i64 (xs.getD k 0 : Nat)) := (hB.cell (by exact hpa)).trans (hca k (by omega))
   have hxl := ha.getD_lt k; have hyl := hb.getD_lt k; have hstep := sub_push (u := xs.getD k 0) (y := ys.getD k 0) hO.len hxl hyl hcc hV; rw [val_take_any xs k, val_take_any ys k] at hstep; obtain ⟨u, hu⟩ : ∃ u, u = xs.getD k 0 := ⟨_, rfl⟩; rw [← hu] at hxc hxl hstep; clear hu hca
   by_cases hkb : k < lb
   ·obtain ⟨pb, offb, rfl, hpb, hcb⟩ := hb.at (by omega)
    have hyc : wr.cell? ⟨pb, offb + k, none⟩ = some (.int .i64 (ys.getD k 0 : Nat)) := (hB.cell (by exact hpb)).trans (hcb k (by omega))
    obtain ⟨y, hy⟩ : ∃ y, y = ys.getD k 0 := ⟨_, rfl⟩; rw [← hy] at hyc hyl hstep; clear hy hcb
    by_cases hn : u < y + cc
    ·skip
     have hneg : u < y + cc := by omega
     have hD : subD u y cc = u + 10 - y - cc := by unfold subD; omega
     have hB1 : subB u y cc = 1 := by unfold subB; rw [if_pos hneg]
     rw [hD, hB1] at hstep; have HST := hid hstep
     clear hV hstep hD hB1
     go_wp2_with (at_builtin; refine wpList_push wr w rfl (.tmp 35) (.tmp 37) 75 rfl w.heap.size 3 i0 (.int .i64 0) 8 Tryz.underD hi hz0 hz1 hz2 rfl _ _ _ _ rfl hO.row _ rfl 3 rfl hB hsz (by unfold maxLen; omega) (by omega) ?_; intro ao1 cap1 w1 hown1 hB2 _)
     go_roundw
     case rel => exact ⟨k + 1, 1, ao1, cap1, by omega, by omega, by go_num, by go_num, rfl, _, Own.push (u + 10 - y - cc) hown1 (by go_num) (by omega) hO.wf (by omega), hB2, HST.out⟩
     case measure => simp [intOf]; omega
    ·skip
     have hneg : y + cc ≤ u := by omega
     have hD : subD u y cc = u - y - cc := by unfold subD; omega
     have hB1 : subB u y cc = 0 := by unfold subB; rw [if_neg (by omega)]
     rw [hD, hB1] at hstep; have HST := hid hstep
     clear hV hstep hD hB1
     go_wp2_with (at_builtin; refine wpList_push wr w rfl (.tmp 35) (.tmp 37) 75 rfl w.heap.size 3 i0 (.int .i64 0) 8 Tryz.underD hi hz0 hz1 hz2 rfl _ _ _ _ rfl hO.row _ rfl 3 rfl hB hsz (by unfold maxLen; omega) (by omega) ?_; intro ao1 cap1 w1 hown1 hB2 _)
     go_roundw
     case rel => exact ⟨k + 1, 0, ao1, cap1, by omega, by omega, by go_num, by go_num, rfl, _, Own.push (u - y - cc) hown1 (by go_num) (by omega) hO.wf (by omega), hB2, HST.out⟩
     case measure => simp [intOf]; omega
   ·have hy0 : ys.getD k 0 = 0 := getD_out ys k (by rw [hb.len]; omega)
    rw [hy0] at hstep; clear hy0 hyl
    by_cases hn : u < 0 + cc
    ·skip
     have hneg : u < 0 + cc := by omega
     have hD : subD u 0 cc = u + 10 - 0 - cc := by unfold subD; omega
     have hB1 : subB u 0 cc = 1 := by unfold subB; rw [if_pos hneg]
     rw [hD, hB1] at hstep; have HST := hid hstep
     clear hV hstep hD hB1
     go_wp2_with (at_builtin; refine wpList_push wr w rfl (.tmp 35) (.tmp 37) 75 rfl w.heap.size 3 i0 (.int .i64 0) 8 Tryz.underD hi hz0 hz1 hz2 rfl _ _ _ _ rfl hO.row _ rfl 3 rfl hB hsz (by unfold maxLen; omega) (by omega) ?_; intro ao1 cap1 w1 hown1 hB2 _)
     go_roundw
     case rel => exact ⟨k + 1, 1, ao1, cap1, by omega, by omega, by go_num, by go_num, rfl, _, Own.push (u + 10 - 0 - cc) hown1 (by go_num) (by omega) hO.wf (by omega), hB2, HST.out⟩
     case measure => simp [intOf]; omega
    ·skip
     have hneg : 0 + cc ≤ u := by omega
     have hD : subD u 0 cc = u - 0 - cc := by unfold subD; omega
     have hB1 : subB u 0 cc = 0 := by unfold subB; rw [if_neg (by omega)]
     rw [hD, hB1] at hstep; have HST := hid hstep
     clear hV hstep hD hB1
     go_wp2_with (at_builtin; refine wpList_push wr w rfl (.tmp 35) (.tmp 37) 75 rfl w.heap.size 3 i0 (.int .i64 0) 8 Tryz.underD hi hz0 hz1 hz2 rfl _ _ _ _ rfl hO.row _ rfl 3 rfl hB hsz (by unfold maxLen; omega) (by omega) ?_; intro ao1 cap1 w1 hown1 hB2 _)
     go_roundw
     case rel => exact ⟨k + 1, 0, ao1, cap1, by omega, by omega, by go_num, by go_num, rfl, _, Own.push (u - 0 - cc) hown1 (by go_num) (by omega) hO.wf (by omega), hB2, HST.out⟩
     case measure => simp [intOf]; omega
  ·obtain rfl : k = la := by omega
   have hS : val zs + b = a + 10 ^ k * cc := by
    rw [take_all xs k ha.len, List.take_of_length_le (by rw [hb.len]; exact hlb), HXV.out, HYV.out] at hV
    exact hV
   have hcut := trim_own _ _ _ _ _ _ hO
   have ht : val zs = a - b := by
    have h1 := val_lt zs hO.wf; rw [hO.len] at h1; have h2 := HGE.out
    rcases Nat.eq_zero_or_pos cc with h3 | h3
    ·subst h3; omega
    ·obtain rfl : cc = 1 := by omega
     omega
   rw [ht] at hcut; have HCUT := hid hcut
   clear ht hV hS hcut; go_wp2_with fail
   refine HCUT.out.mono fun e w' h => ?_
   obtain ⟨ao2, kk, cap2, rfl, h3, rfl⟩ := h; go_wp2_with fail
   go_ret
   exact ⟨_, _, _, rfl, h3, hB⟩
end Go.Proofs.YtmmgipcacceakaaGreat.Dg

/- The contract of porismref01.Mul. -/
namespace Go.Proofs.YtmmgipcacceakaaGreat.Dg
open Go.RowKit
theorem mul_step {zs : List Nat} {p c S m : Nat} (hp : p < zs.length) (h : val zs + 10 ^ p * c = S) :
  val (zs.set p ((c + zs.getD p 0 + m) % 10)) + 10 ^ (p + 1) * ((c + zs.getD p 0 + m) / 10) = S + 10 ^ p * m := by
 have h1 := val_set zs p ((c + zs.getD p 0 + m) % 10) hp
 generalize zs.getD p 0 = u at *
 have h2 : 10 ^ p * ((c + u + m) % 10) + 10 ^ (p + 1) * ((c + u + m) / 10) = 10 ^ p * u + 10 ^ p * c + 10 ^ p * m := by
  rw [Nat.pow_succ, Nat.mul_assoc, ← Nat.mul_add, ← Nat.mul_add, ← Nat.mul_add]
  congr 1
  omega
 omega
def MulInv (B g n : Nat) (w : World) (S p c : Nat) (wr : World) : Prop :=
 ∃ zs, Own B wr (some ⟨g, 0, none⟩) n n zs ∧ Below B w wr ∧ val zs + 10 ^ p * c = S
theorem mul_sum (X Y i k x y : Nat) : X + 10 ^ i * x * Y + 10 ^ (i + k) * (x * y) = X + 10 ^ i * x * (Y + 10 ^ k * y) := by
 rw [Nat.pow_add, Nat.mul_add]
 have : 10 ^ i * 10 ^ k * (x * y) = 10 ^ i * x * (10 ^ k * y) := by
  simp only [Nat.mul_assoc, Nat.mul_left_comm, Nat.mul_comm]
 omega
theorem mul_row {X : Nat} {xs : List Nat} {i Y : Nat} (h : X = val (xs.take i) * Y) : X + 10 ^ i * xs.getD i 0 * Y = val (xs.take (i + 1)) * Y := by
 rw [h, ← val_take_any xs i, Nat.add_mul]
theorem take_val_lt {xs : List Nat} (hw : Wf xs) (i : Nat) : val (xs.take i) < 10 ^ i := by
 have h := val_lt _ (hw.take i)
 refine Nat.lt_of_lt_of_le h (Nat.pow_le_pow_right (by omega) ?_)
 rw [List.length_take]; omega
theorem mul_any [Ol] (a0 b0 : Option Addr) (la ca lb cb : Nat) (xs ys : List Nat) (w : World) (ha : Sl w a0 la ca xs) (hb : Sl w b0 lb cb ys) (hra : la ≤ 1000000) (hrb : lb ≤ 1000000) :
  Calls Tryz.prog 117 #[.slice a0 la ca, .slice b0 lb cb] w (NewSl w (limbs (val xs * val ys))) := by
 obtain ⟨i0, hi, hz0, hz1, hz2⟩ := info_parts Tryz.info_int
 have HYL : Hid (val ys < 10 ^ lb) := by have := val_lt ys hb.wf; rwa [hb.len] at this
 have HXL : Hid (∀ i, val (xs.take i) < 10 ^ i) := fun i => take_val_lt ha.wf i
 have HYT : Hid (∀ k, lb ≤ k → val (ys.take k) = val ys) := fun k hk => by rw [List.take_of_length_le (by rw [hb.len]; exact hk)]
 go_enter Tryz.func117, Tryz.ntmps117
 go_wp2_with (at_make; refine wpList_make_full _ rfl _ _ 75 rfl w.heap.size 3 i0 (.int .i64 0) 1 Tryz.underD hi hz0 hz1 _ _ _ _ (la + lb + 1) rfl rfl (by omega) (by omega) ?b2 ?b3 (Nat.le_refl _) ?_)
 case b2 => rw [hz2]; omega
 case b3 => unfold maxLen; omega
 intro w1 hown1 hgrow1
 rw [made_int] at hown1
 have hb1 : Below w.heap.size w w1 := (Below.refl _ _).grown hgrow1 (Nat.le_refl _) (fun k h => by cases h)
 have hO1 : Own w.heap.size w1 (some ⟨w.heap.size, 0, none⟩) (la + lb + 1) (la + lb + 1) (List.replicate (la + lb + 1) 0) :=
  ⟨hown1, by omega, fun x hx => by rw [(List.mem_replicate.1 hx).2]; omega⟩
 clear hown1 hgrow1
 have hI1 : MulInv w.heap.size w.heap.size (la + lb + 1) w (val (xs.take 0) * val ys) 0 0 w1 := ⟨_, hO1, hb1, by rw [val_replicate]; simp [val]⟩
 clear hO1 hb1; go_wp2_with fail
 go_loopw [6] (fun i wr => ∃ k : Nat, k ≤ la ∧ i = .int .i64 ((k : Nat) : Int) ∧ MulInv w.heap.size w.heap.size (la + lb + 1) w (val (xs.take k) * val ys) 0 0 wr) (fun i _ => la - (intOf i).toNat)
 case atStart => exact ⟨0, Nat.zero_le _, rfl, hI1⟩
 case round =>
  clear hI1; obtain ⟨i, hila, rfl, hI⟩ := hrel; obtain ⟨wo, rfl⟩ : ∃ wo : World, wo = wr := ⟨_, rfl⟩
  by_cases hin : i < la
  ·obtain ⟨S0, hS0⟩ : ∃ S0, S0 = val (xs.take i) * val ys := ⟨_, rfl⟩
   rw [← hS0] at hI; have HS0 := Lib.hid hS0
   have HTOT : Hid (S0 + 10 ^ i * xs.getD i 0 * val ys = val (xs.take (i + 1)) * val ys) := mul_row hS0
   have HTOTL : Hid (val (xs.take (i + 1)) * val ys < 10 ^ (i + 1 + lb)) := by
    rw [Hid, Nat.pow_add]; have h1 := HXL.out (i + 1)
    have h2 := HYL.out
    rcases Nat.eq_zero_or_pos (val ys) with h3 | h3
    ·rw [h3, Nat.mul_zero]; exact Nat.mul_pos (Nat.pow_pos (by omega)) (Nat.pow_pos (by omega))
    ·exact Nat.lt_of_lt_of_le (Nat.mul_lt_mul_of_pos_right h1 h3) (Nat.mul_le_mul_left _ (by omega))
   clear hS0
   obtain ⟨pa, offa, rfl, hpa, hca⟩ := ha.at (by omega)
   have HCA : Hid (w.cell? ⟨pa, offa + i, none⟩ = some (.int .i64 (xs.getD i 0 : Nat))) := hca i (by omega)
   have hxl := ha.getD_lt i; obtain ⟨x, hx⟩ : ∃ x, x = xs.getD i 0 := ⟨_, rfl⟩; rw [← hx] at HCA hxl HTOT; clear hx hca
   have hI2 : MulInv w.heap.size w.heap.size (la + lb + 1) w (S0 + 10 ^ i * x * val (ys.take 0)) (i + 0) 0 wo := by
    obtain ⟨zs, h1, h2, h3⟩ := hI
    exact ⟨zs, h1, h2, by simp [val] at h3 ⊢; exact h3⟩
   clear hI; go_wp2_with fail
   go_loopw [7, 8] (fun c kk wr => ∃ k cc : Nat, k ≤ lb + 1 ∧ cc ≤ 9 ∧ kk = .int .i64 ((k : Nat) : Int) ∧ c = .int .i64 ((cc : Nat) : Int) ∧ MulInv w.heap.size w.heap.size (la + lb + 1) w (S0 + 10 ^ i * x * val (ys.take k)) (i + k) cc wr) (fun _ kk _ => lb + 1 - (intOf kk).toNat)
   case atStart => exact ⟨0, 0, Nat.zero_le _, Nat.zero_le _, rfl, rfl, hI2⟩
   case round =>
    clear hI2; obtain ⟨k, cc, hk, hcc, rfl, rfl, zs, hO, hB, hV⟩ := hrel
    have hac : wr.cell? ⟨pa, offa + i, none⟩ = some (.int .i64 ((x : Nat) : Int)) := (hB.cell (by exact hpa)).trans HCA.out
    by_cases hkb : k < lb
    ·obtain ⟨pb, offb, rfl, hpb, hcb⟩ := hb.at (by omega)
     have hbc : wr.cell? ⟨pb, offb + k, none⟩ = some (.int .i64 (ys.getD k 0 : Nat)) := (hB.cell (by exact hpb)).trans (hcb k (by omega))
     have hyl := hb.getD_lt k
     have hzc := hO.cell (i + k) (by omega)
     have hzf := hO.frozen (i + k); have hzl := hO.getD_lt (i + k)
     have hstep := mul_step (m := x * ys.getD k 0) (by rw [hO.len]; omega) hV
     rw [mul_sum, val_take_any ys k] at hstep; obtain ⟨y, hy⟩ : ∃ y, y = ys.getD k 0 := ⟨_, rfl⟩
     obtain ⟨z, hz⟩ : ∃ z, z = zs.getD (i + k) 0 := ⟨_, rfl⟩; rw [← hy] at hbc hyl hstep; rw [← hz] at hzc hzl hstep
     have hml : x * y ≤ 81 := Nat.mul_le_mul (show x ≤ 9 by omega) (show y ≤ 9 by omega)
     obtain ⟨m, hm⟩ : ∃ m, m = x * y := ⟨_, rfl⟩
     have hmI : ((x : Nat) : Int) * ((y : Nat) : Int) = ((m : Nat) : Int) := by rw [hm, Int.natCast_mul]
     rw [← hm] at hstep hml; have HST := Lib.hid hstep
     clear hy hz hm hV hstep hcb
     have hii : ((i : Nat) : Int) < ((la : Nat) : Int) := by omega
     have hkk : ((k : Nat) : Int) < ((lb : Nat) : Int) := by omega
     go_wp2_with fail
     have hw1 : IntKind.i64.wrap ((m : Nat) : Int) = ((m : Nat) : Int) := wrap_i64 _ (by omega)
     have hw2 : IntKind.i64.wrap (((cc : Nat) : Int) + ((z : Nat) : Int) + ((m : Nat) : Int)) = ((cc : Nat) : Int) + ((z : Nat) : Int) + ((m : Nat) : Int) := IntWalk.i64_in _ (by omega)
     go_quiet (fail)
     clear hw1 hw2; go_wp2_with fail
     go_roundw
     case rel => exact ⟨k + 1, (cc + z + m) / 10, by omega, by omega, by go_num, by go_num, _, by have := (hO.drewN nq).set (i + k) ((cc + z + m) % 10) (Nat.mod_lt _ (by omega)); simpa using this, (hB.trans (below_drewN _ _ nq)).setCell (Nat.le_refl _) _, by rw [← Nat.add_assoc]; exact HST.out⟩
     case measure => simp [intOf]; omega
    ·have hkd : decide (k < lb) = false := by simp; omega
     have hS2 : val zs + 10 ^ (i + k) * cc = val (xs.take (i + 1)) * val ys := by
      rw [HYT.out k (by omega), HTOT.out] at hV
      exact hV
     by_cases hc0 : 0 < cc
     ·have hik : k ≤ lb := by
       rcases Nat.lt_or_ge lb k with h | h
       ·obtain rfl : k = lb + 1 := by omega
        have h1 := HTOTL.out
        have h2 : 10 ^ (i + (lb + 1)) * 1 ≤ 10 ^ (i + (lb + 1)) * cc := Nat.mul_le_mul_left _ hc0
        rw [show i + 1 + lb = i + (lb + 1) from by omega] at h1
        omega
       ·exact h
      have hzc := hO.cell (i + k) (by omega)
      have hzf := hO.frozen (i + k); have hzl := hO.getD_lt (i + k)
      have hstep := mul_step (m := 0) (by rw [hO.len]; omega) hV
      rw [Nat.mul_zero, Nat.add_zero, HYT.out k (by omega), ← HYT.out (k + 1) (by omega)] at hstep
      obtain ⟨z, hz⟩ : ∃ z, z = zs.getD (i + k) 0 := ⟨_, rfl⟩; rw [← hz] at hzc hzl hstep; have HST := Lib.hid hstep; clear hz hV hstep hS2; go_wp2_with fail
      go_roundw
      case rel => exact ⟨k + 1, (cc + z + 0) / 10, by omega, by omega, by go_num, by go_num, _, by have := hO.set (i + k) ((cc + z + 0) % 10) (Nat.mod_lt _ (by omega)); simpa using this, hB.setCell (Nat.le_refl _) _, by rw [← Nat.add_assoc]; exact HST.out⟩
      case measure => simp [intOf]; omega
     ·have hcd : decide (0 < cc) = false := by simp; omega
      have hI3 : MulInv w.heap.size w.heap.size (la + lb + 1) w (val (xs.take (i + 1)) * val ys) 0 0 wr := by
       refine ⟨zs, hO, hB, ?_⟩
       obtain rfl : cc = 0 := by omega
       simpa using hS2
      clear hV hS2; go_wp2_with fail
      go_roundw
      case rel => exact ⟨i + 1, by omega, by go_num, hI3⟩
      case measure => simp [intOf]; omega
  ·obtain rfl : i = la := by omega
   obtain ⟨zs, hO, hB, hV⟩ := hI; have hcut := trim_own _ _ _ _ _ _ hO
   have ht : val zs = val xs * val ys := by
    rw [take_all xs i ha.len] at hV
    simpa using hV
   rw [ht] at hcut; have HCUT := Lib.hid hcut
   clear ht hV hcut; go_wp2_with fail
   refine HCUT.out.mono fun e w' h => ?_
   obtain ⟨ao2, kk, cap2, rfl, h3, rfl⟩ := h; go_wp2_with fail
   go_ret
   exact ⟨_, _, _, rfl, h3, hB⟩
end Go.Proofs.YtmmgipcacceakaaGreat.Dg

/- The contract of porismref01.DivMod. -/
namespace Go.Proofs.YtmmgipcacceakaaGreat.Dg
open Go.RowKit
structure DivInv [Ol] (g la : Nat) (w : World) (X : List Nat) (Bv j : Nat) (ao : Option Addr) (L cap : Nat) (R : Nat) (zs : List Nat) (wr : World) : Prop where
 own : Own w.heap.size wr (some ⟨g, 0, none⟩) la la zs
 rest : Sl wr ao L cap (limbs R)
 far : ∀ ad, ao = some ad → ad.block ≠ g
 below : Below w.heap.size w wr
theorem DivInv.step [Ol] {g la : Nat} {w : World} {X : List Nat} {Bv j : Nat} {ao : Option Addr} {L cap R : Nat} {zs : List Nat} {wr w' : World} (h : DivInv g la w X Bv j ao L cap R zs wr) (hb : Below wr.heap.size wr w') : DivInv g la w X Bv j ao L cap R zs w' :=
 ⟨h.own.below hb, h.rest.below hb, h.far, Go.Proofs.YtmmgipcacceakaaGreat.Below.steps h.below hb⟩
end Go.Proofs.YtmmgipcacceakaaGreat.Dg


/- Len, Cut, Trim, Cmp, May, Add32, Sub32, Add, AddLt, Sub -/
import Derived.Test.YtmmgipcacceakaaGreatGMem
import Derived.Deep.QuietTactic
import Derived.BigQuiet
import Derived.Deep.RegionWith
set_option maxHeartbeats 40000000
set_option maxRecDepth 100000
namespace Go.Proofs.YtmmgipcacceakaaGreat
open Go.RowKit
theorem length_any (ao : Option Addr) (n cap : Nat) (xs : List Nat) (w : World) (h : Sl w ao n cap xs) :
  Calls Tryz.prog 111 #[.slice ao n cap] w fun e w' => e = .returned (.int .i64 (nl xs : Nat)) ∧ w = w' := by
 have hle := h.le; have hbig := h.big
 have HT : Hid (xs.take n = xs) := take_all xs n h.len
 go_enter Tryz.func111, Tryz.ntmps111
 go_wp2
 go_loop [3] (fun i => ∃ k : Nat, k ≤ n ∧ i = .int .i64 k ∧ Hid (nl (xs.take k) = nl xs)) (fun i => (intOf i).toNat)
 case atStart => exact ⟨n, Nat.le_refl _, rfl, by rw [Hid, HT.out]⟩
 case round =>
  obtain ⟨k, hk, rfl, hnl⟩ := hrel
  by_cases hk0 : k = 0
  ·subst hk0
   go_wp2
   go_ret
   refine ⟨ret_int ?_, rfl⟩
   have := hnl.out
   simp only [List.take_zero, nl_nil] at this
   rw [← this]; rfl
  ·obtain ⟨b, off, rfl, hb, hc⟩ := h.at (by omega)
   obtain ⟨j, rfl⟩ : ∃ j, k = j + 1 := ⟨k - 1, by omega⟩
   have hlen := h.len
   have hcell := hc j (by omega)
   clear hc hlen; obtain ⟨x, hx⟩ : ∃ x, x = xs.getD j 0 := ⟨_, rfl⟩; rw [← hx] at hcell
   have HX : Hid (x = xs.getD j 0) := hx
   clear hx
   by_cases hz : x = 0
   ·subst hz
    have H1 : Hid (nl (xs.take j) = nl xs) := by
     rw [Hid, ← hnl.out, nl_take_zero xs j (by have := h.len; omega) HX.out.symm]
    clear hnl
    go_wp2
    go_round
    case rel => exact ⟨j, by omega, by go_num, H1⟩
    case measure => simp [intOf]
   ·have hb0 : (((x : Nat) : Int) == 0) = false := by simp; omega
    have H1 : Hid (nl xs = j + 1) := by
     rw [Hid, ← hnl.out, nl_take_pos xs j (by have := h.len; omega) (by rw [← HX.out]; exact hz)]
    clear hnl hz
    go_wp2
    go_ret
    exact ⟨ret_int (by rw [H1.out]; rfl), rfl⟩
theorem length_is (m : Nat) (ao : Option Addr) (n cap : Nat) (xs : List Nat) (w : World) (h : Sl w ao n cap xs) (hm : Hid (nl xs = m)) :
  Calls Tryz.prog 111 #[.slice ao n cap] w fun e w' => e = .returned (.int .i64 (m : Nat)) ∧ w = w' := by
 rw [← hm.out]; exact length_any ao n cap xs w h
def CutOf (B : Nat) (w : World) (ys : List Nat) (e : Ending) (w' : World) : Prop :=
 ∃ ao n cap, e = .returned (.slice ao n cap) ∧ Own B w ao n cap ys ∧ w = w'
theorem cut_own (B : Nat) (ao : Option Addr) (n cap : Nat) (xs : List Nat) (w : World) (h : Own B w ao n cap xs) :
  Calls Tryz.prog 129 #[.slice ao n cap] w (CutOf B w (trimL xs)) := by
 have hs := h.sl; have hle := hs.le; have hbig := hs.big
 have hnl : nl xs ≤ n := by have := nl_le xs; rw [hs.len] at this; exact this
 obtain ⟨m, hm⟩ : ∃ m, m = nl xs := ⟨_, rfl⟩; rw [← hm] at hnl
 have HM : Hid (nl xs = m) := hm.symm
 clear hm
 by_cases h0 : m = 0
 ·subst h0
  go_enter Tryz.func129, Tryz.ntmps129
  go_wp2_with (go_at_call 111; refine (length_is 0 _ _ _ _ _ hs HM).mono ?_; rintro e w' ⟨rfl, rfl⟩)
  go_ret
  exact ⟨_, _, _, rfl, by rw [trimL_nil_of HM.out]; exact Own.nil _ _, rfl⟩
 ·have hb0 : (((m : Nat) : Int) == 0) = false := by simp; omega
  have hres : Own B w ao m cap (trimL xs) := by
   rw [trimL_take, HM.out]; exact h.take m hnl (by omega)
  go_enter Tryz.func129, Tryz.ntmps129
  go_wp2_with (go_at_call 111; refine (length_is m _ _ _ _ _ hs HM).mono ?_; rintro e w' ⟨rfl, rfl⟩)
  go_ret
  exact ⟨_, _, _, rfl, hres, rfl⟩
theorem CutOf.new {w w1 w2 : World} {ys : List Nat} {e : Ending} (h : CutOf w.heap.size w1 ys e w2) (hb : Below w.heap.size w w1) : NewSl w ys e w2 := by
 obtain ⟨ao, n, cap, he, ho, rfl⟩ := h
 exact ⟨ao, n, cap, he, ho, hb⟩
theorem trim_any (ao : Option Addr) (n cap : Nat) (xs : List Nat) (w : World) (hs : Sl w ao n cap xs) :
  Calls Tryz.prog 133 #[.slice ao n cap] w (NewSl w (trimL xs)) := by
 have hle := hs.le; have hbig := hs.big
 have hnl : nl xs ≤ n := by have := nl_le xs; rw [hs.len] at this; exact this
 obtain ⟨m, hm⟩ : ∃ m, m = nl xs := ⟨_, rfl⟩; rw [← hm] at hnl
 have HM : Hid (nl xs = m) := hm.symm
 clear hm
 by_cases h0 : m = 0
 ·subst h0
  go_enter Tryz.func133, Tryz.ntmps133
  go_wp2_with (go_at_call 111; refine (length_is 0 _ _ _ _ _ hs HM).mono ?_; rintro e w' ⟨rfl, rfl⟩)
  go_ret
  exact ⟨_, _, _, rfl, by rw [trimL_nil_of HM.out]; exact Own.nil _ _, Below.refl _ _⟩
 ·have hb0 : (((m : Nat) : Int) == 0) = false := by simp; omega
  obtain ⟨i0, hi, hz0, hz1, hz2⟩ := info_parts Tryz.info_u32
  obtain ⟨b, off, rfl, hb, hcell⟩ := hs.at (by omega)
  have HC : Hid (∀ t, t < n → w.cell? ⟨b, off + t, none⟩ = some (.int .u32 (xs.getD t 0 : Nat))) := hcell
  clear hcell
  go_enter Tryz.func133, Tryz.ntmps133
  go_wp2_with (first
   | (go_at_call 111; refine (length_is m _ _ _ _ _ hs HM).mono ?_; rintro e w' ⟨rfl, rfl⟩)
   | (at_make; refine wpList_make_full _ rfl _ _ 50 rfl w.heap.size 118 i0 (.int .u32 0) 1 Tryz.underlying50 hi hz0 hz1 _ _ _ _ m rfl rfl rfl rfl ?b2 ?b3 (Nat.le_refl _) ?_))
  case b2 => rw [hz2]; omega
  case b3 => unfold maxLen; omega
  intro w1 hown1 hgrow1
  rw [made_u32] at hown1
  have HR : Hid (w1.heap[w.heap.size]? = some (.cells (cellsOf (List.replicate m 0)).toArray 118 (0, 0))) := row_full hown1
  have hb1 : Below w.heap.size w w1 := (Below.refl _ _).grown hgrow1 (Nat.le_refl _) (fun k h => by cases h)
  clear hown1 hgrow1; obtain ⟨cs, hcs⟩ : ∃ cs, cs = cellsOf (trimL xs) := ⟨_, rfl⟩; obtain ⟨zs, hzs⟩ : ∃ zs, zs = cellsOf (List.replicate m 0) := ⟨_, rfl⟩; rw [← hzs] at HR
  have hcl : cs.length = m := by rw [hcs, cellsOf_length]; exact HM.out
  have hzl : zs.length = m := by rw [hzs, cellsOf_length, List.length_replicate]
  have hcell1 : ∀ j v, cs[j]? = some v → w1.cell? ((⟨b, off, none⟩ : Addr).add j) = some v := by
   intro j v hv
   have hj : j < m := by rw [← hcl]; exact (List.getElem?_eq_some_iff.1 hv).1
   rw [Addr.add_lit, hb1.cell (by exact hb), HC.out j (by omega), ← hv, hcs, cellsOf_get _ _ (by rw [← hcl, hcs, cellsOf_length] at hj; exact hj), trimL_take, HM.out]
   simp [List.getD, hj]
  have HC1 := Lib.hid hcell1; clear hcell1
  have H1 : Hid (∀ v ∈ cs, v.oneCell' = true) := by rw [hcs]; exact cellsOf_one _
  have HS : Hid (splice zs 0 cs = cs) := by
   show splice zs 0 cs = cs
   simp [splice, hcl, hzl]
  have HCL := Lib.hid hcl; have HZL := Lib.hid hzl; have HCS := Lib.hid hcs; clear hcl hzl hcs hzs HC
  go_wp2_with (with_reducible refine wpList_copy_splice rfl (.tmp 11) (.tmp 12) 50 50 rfl 118 rfl Tryz.size_u32 _ _ _ _ _ _ rfl rfl w.heap.size 0 zs 118 HR.out cs (by rw [HCL.out]; exact (Nat.min_eq_right hnl).symm) (fun _ => ⟨rfl, _, rfl, HC1.out⟩) (by rw [HCL.out, HZL.out]; omega) H1.out w.heap.size w hb1 (Nat.le_refl _) ?_; intro w2 HG2 hB2)
  go_ret
  refine ⟨_, _, _, rfl, ⟨?_, by omega, fun x hx => hs.wf x (List.mem_of_mem_take (by rw [← trimL_take]; exact hx))⟩, hB2⟩
  rw [← HCS.out]
  refine full_row (Nat.le_refl _) HCL.out (by unfold maxLen; omega) ?_
  have := HG2.out
  rw [HS.out] at this
  exact this
theorem sign_yes (w : World) : Calls Tryz.prog 132 #[.bool true] w fun e w' => e = .returned (.int .i64 1) ∧ w = w' := by
 go_enter Tryz.func132, Tryz.ntmps132
 go_wp2
 go_ret
 exact ⟨rfl, rfl⟩
theorem sign_no (w : World) : Calls Tryz.prog 132 #[.bool false] w fun e w' => e = .returned (.int .i64 (-1)) ∧ w = w' := by
 go_enter Tryz.func132, Tryz.ntmps132
 go_wp2
 go_ret
 exact ⟨rfl, rfl⟩
def sgnB (b : Bool) : Int := if b then 1 else -1
theorem sign_any (b : Bool) (w : World) : Calls Tryz.prog 132 #[.bool b] w fun e w' => e = .returned (.int .i64 (sgnB b)) ∧ w = w' := by
 cases b
 ·exact sign_no w
 ·exact sign_yes w
theorem cmp_lens_any (a0 b0 : Option Addr) (la ca lb cb : Nat) (xs ys : List Nat) (w : World) (ha : Sl w a0 la ca xs) (hb : Sl w b0 lb cb ys) (hne : nl xs ≠ nl ys) :
  Calls Tryz.prog 122 #[.slice a0 la ca, .slice b0 lb cb] w (RetDrew (.int .i64 (cmpN (val xs) (val ys))) w) := by
 have H : Hid (cmpN (val xs) (val ys) = if nl ys < nl xs then 1 else -1) := cmp_lens ha.wf hb.wf hne
 have n1 := nl_le xs; have n2 := nl_le ys; rw [ha.len] at n1; rw [hb.len] at n2; have b1 := ha.big; have b2 := hb.big; have l1 := ha.le; have l2 := hb.le; obtain ⟨n, hn⟩ : ∃ n, n = nl xs := ⟨_, rfl⟩; obtain ⟨m, hm⟩ : ∃ m, m = nl ys := ⟨_, rfl⟩; rw [← hn, ← hm] at H hne; rw [← hn] at n1; rw [← hm] at n2
 have HN : Hid (nl xs = n) := hn.symm
 have HM : Hid (nl ys = m) := hm.symm
 clear hn hm
 have hne1 : (((n : Nat) : Int) != ((m : Nat) : Int)) = true := by simp; omega
 have hne2 : (n != m) = true := by simp; omega
 go_enter Tryz.func122, Tryz.ntmps122
 go_wp2_with fail; refine (length_is n _ _ _ _ _ ha HN).mono ?_
 rintro e w' ⟨rfl, rfl⟩; go_wp2_with fail; refine (length_is m _ _ _ _ _ hb HM).mono ?_; rintro e w' ⟨rfl, rfl⟩; go_wp2_with fail; refine (sign_any _ _).mono ?_; rintro e w' ⟨rfl, rfl⟩; go_wp2_with fail
 go_ret
 refine ⟨ret_int ?_, 0, rfl⟩
 rw [H.out]
 simp [sgnB]
theorem cmp_any (a0 b0 : Option Addr) (la ca lb cb : Nat) (xs ys : List Nat) (w : World) (ha : Sl w a0 la ca xs) (hb : Sl w b0 lb cb ys) :
  Calls Tryz.prog 122 #[.slice a0 la ca, .slice b0 lb cb] w (RetDrew (.int .i64 (cmpN (val xs) (val ys))) w) := by
 by_cases hne : nl xs ≠ nl ys
 ·exact cmp_lens_any _ _ _ _ _ _ _ _ _ ha hb hne
 have n1 := nl_le xs; have n2 := nl_le ys; rw [ha.len] at n1; rw [hb.len] at n2; have b1 := ha.big; have b2 := hb.big; have l1 := ha.le; have l2 := hb.le; obtain ⟨n, hn⟩ : ∃ n, n = nl xs := ⟨_, rfl⟩
 have hn2 : nl ys = n := by rw [hn]; exact (Classical.not_not.1 hne).symm
 rw [← hn] at n1; rw [hn2] at n2
 have HN : Hid (nl xs = n) := hn.symm
 have HM : Hid (nl ys = n) := hn2
 clear hn hn2 hne
 go_enter Tryz.func122, Tryz.ntmps122
 go_wp2_with fail; refine (length_is n _ _ _ _ _ ha HN).mono ?_
 rintro e w' ⟨rfl, rfl⟩; go_wp2_with fail; refine (length_is n _ _ _ _ _ hb HM).mono ?_; rintro e w' ⟨rfl, rfl⟩; go_wp2_with fail
 go_loopw [7, 8, 9, 22] (fun _ _ _ i wr => ∃ k : Nat, k ≤ n ∧ i = .int .i64 k ∧ Hid (∀ t, n ≤ t + k → t < n → xs.getD t 0 = ys.getD t 0) ∧ ∃ q, wr = w.drewN q) (fun _ _ _ i _ => n - (intOf i).toNat)
 case atStart => exact ⟨0, Nat.zero_le _, rfl, fun t h1 h2 => by omega, 0, rfl⟩
 case round =>
  obtain ⟨k, hk, rfl, heq, q, rfl⟩ := hrel
  by_cases hkn : k < n
  ·obtain ⟨b, off, rfl, _, hca⟩ := ha.at (by omega)
   obtain ⟨b', off', rfl, _, hcb⟩ := hb.at (by omega)
   have ha1 := hca (n - 1 - k) (by omega)
   have hb1 := hcb (n - 1 - k) (by omega)
   have HJ : Hid (n - 1 - k < n ∧ ∀ t, n - 1 - k < t ↔ n ≤ t + k) := ⟨by omega, fun t => by omega⟩
   obtain ⟨x, hx⟩ : ∃ x, x = xs.getD (n - 1 - k) 0 := ⟨_, rfl⟩; obtain ⟨y, hy⟩ : ∃ y, y = ys.getD (n - 1 - k) 0 := ⟨_, rfl⟩; rw [← hx] at ha1; rw [← hy] at hb1; have HX := Lib.hid hx; have HY := Lib.hid hy; clear hx hy hca hcb
   by_cases hxy : x = y
   ·subst hxy
    have e1 : (((x : Nat) : Int) != ((x : Nat) : Int)) = false := by simp
    go_wp2
    go_quiet (fail)
    go_wp2
    go_roundw
    case rel =>
     refine ⟨k + 1, by omega, by go_num, fun t h1 h2 => ?_, _, rfl⟩
     by_cases h3 : n ≤ t + k
     ·exact heq.out t h3 h2
     ·obtain rfl : t = n - 1 - k := by omega
      rw [← HX.out, ← HY.out]
    case measure => simp [intOf]; omega
   ·have e1 : (((x : Nat) : Int) != ((y : Nat) : Int)) = true := by simp; omega
    have e2 : (x != y) = true := by simp; omega
    have H : Hid (cmpN (val xs) (val ys) = if y < x then 1 else -1) := by
     show _ = _
     rw [HX.out, HY.out]
     exact cmp_at ha.wf hb.wf n _ HN.out HM.out HJ.out.1 (fun i h1 h2 => heq.out i ((HJ.out.2 i).1 h1) h2) (by rw [← HX.out, ← HY.out]; exact hxy)
    go_wp2
    go_quiet (fail)
    go_wp2_with fail; refine (sign_any _ _).mono ?_
    rintro e w' ⟨rfl, rfl⟩; go_wp2_with fail
    go_ret
    refine ⟨ret_int ?_, _, rfl⟩
    rw [H.out]
    simp [sgnB]
  ·go_wp2
   go_ret
   refine ⟨ret_int ?_, _, rfl⟩
   exact (cmp_same n HN.out HM.out (fun t ht => heq.out t (by omega) ht)).symm
theorem cmp_is (c : Int) (a0 b0 : Option Addr) (la ca lb cb : Nat) (xs ys : List Nat) (w : World) (ha : Sl w a0 la ca xs) (hb : Sl w b0 lb cb ys) (hc : Hid (cmpN (val xs) (val ys) = c)) :
  Calls Tryz.prog 122 #[.slice a0 la ca, .slice b0 lb cb] w (RetDrew (.int .i64 c) w) := by
 rw [← hc.out]; exact cmp_any _ _ _ _ _ _ _ _ _ ha hb
theorem cmp_b (c : Int) (a0 b0 : Option Addr) (la ca lb cb : Nat) (xs ys : List Nat) (w : World) (ha : Sl w a0 la ca xs) (hb : Sl w b0 lb cb ys) (hc : Hid (cmpN (val xs) (val ys) = c)) :
  Calls Tryz.prog 122 #[.slice a0 la ca, .slice b0 lb cb] w (RetB (.int .i64 c) w) :=
 (cmp_is c a0 b0 la ca lb cb xs ys w ha hb hc).mono fun _ _ h => h.b
theorem add32_any (x y c : Nat) (w : World) (hx : x < 4294967296) (hy : y < 4294967296) (hc : c ≤ 1) :
  Calls Tryz.prog 131 #[.int .u32 (x : Int), .int .u32 (y : Int), .int .u32 (c : Int)] w fun e w' => e = .returned (.tuple #[.int .u32 (((x + y + c) % 4294967296 : Nat) : Int), .int .u32 (((x + y + c) / 4294967296 : Nat) : Int)]) ∧ w' = w := by
 go_enter Tryz.func131, Tryz.ntmps131
 go_wp2
 go_ret2
 exact ⟨ret_int2 (by omega) (by omega), rfl⟩
theorem sub_bits (x y d : Nat) (hx : x < 4294967296) (hy : y < 4294967296) (c : Nat) (hc : c ≤ 1) (hd : d = subD x y c) :
  (((4294967295 ^^^ x) &&& y) ||| ((4294967295 ^^^ (x ^^^ y)) &&& d)) / 2147483648 = subB x y c := by
 have e : (2147483648 : Nat) = 2 ^ 31 := by decide
 rw [e, Nat.or_div_two_pow, Nat.and_div_two_pow, Nat.and_div_two_pow, Nat.xor_div_two_pow, Nat.xor_div_two_pow, Nat.xor_div_two_pow, ← e]
 have h1 : x / 2147483648 = 0 ∨ x / 2147483648 = 1 := by omega
 have h2 : y / 2147483648 = 0 ∨ y / 2147483648 = 1 := by omega
 have hdl : d < 4294967296 := by rw [hd]; exact subD_lt _ _ _
 unfold subD at hd
 unfold subB
 have h3 : d / 2147483648 = 0 ∨ d / 2147483648 = 1 := by omega
 rcases h1 with h1 | h1 <;> rcases h2 with h2 | h2 <;> rcases h3 with h3 | h3 <;> rw [h1, h2, h3] <;> simp <;> omega
theorem sub_bits_int (x y c : Nat) (hx : x < 4294967296) (hy : y < 4294967296) (hc : c ≤ 1) :
  bits BinOp.or IntKind.u32 (bits BinOp.and IntKind.u32 (bits BinOp.xor IntKind.u32 IntKind.u32.max (x : Int)) (y : Int))
   (bits BinOp.and IntKind.u32 (bits BinOp.xor IntKind.u32 IntKind.u32.max (bits BinOp.xor IntKind.u32 (x : Int) (y : Int))) (((x : Int) - y - c) % 4294967296)) / 2147483648 = (subB x y c : Nat) := by
 have em : IntKind.u32.max = ((4294967295 : Nat) : Int) := by decide
 have ed : ((x : Int) - y - c) % 4294967296 = ((subD x y c : Nat) : Int) := by unfold subD; omega
 have hd := subD_lt x y c
 have l1 : (4294967295 ^^^ x) < 4294967296 := Nat.xor_lt_two_pow (n := 32) (by omega) hx
 have l2 : (x ^^^ y) < 4294967296 := Nat.xor_lt_two_pow (n := 32) hx hy
 have l3 : (4294967295 ^^^ (x ^^^ y)) < 4294967296 := Nat.xor_lt_two_pow (n := 32) (by omega) l2
 have l4 : ((4294967295 ^^^ x) &&& y) < 4294967296 := Nat.lt_of_le_of_lt Nat.and_le_right hy
 have l5 : ((4294967295 ^^^ (x ^^^ y)) &&& subD x y c) < 4294967296 := Nat.lt_of_le_of_lt Nat.and_le_right hd
 rw [em, ed, u32_xor_nat 4294967295 x (by omega) hx, u32_xor_nat x y hx hy, u32_xor_nat 4294967295 _ (by omega) l2, u32_and_nat _ y l1 hy, u32_and_nat _ _ l3 hd, u32_or_nat _ _ l4 l5, ← sub_bits x y _ hx hy c hc rfl]
 omega
theorem sub32_any (x y c : Nat) (w : World) (hx : x < 4294967296) (hy : y < 4294967296) (hc : c ≤ 1) :
  Calls Tryz.prog 134 #[.int .u32 (x : Int), .int .u32 (y : Int), .int .u32 (c : Int)] w fun e w' => e = .returned (.tuple #[.int .u32 (subD x y c : Nat), .int .u32 (subB x y c : Nat)]) ∧ w' = w := by
 have H1 := Lib.hid (sub_bits_int x y c hx hy hc)
 have H2 : Hid (((x : Int) - y - c) % 4294967296 = ((subD x y c : Nat) : Int)) := by show _ = _; unfold subD; omega
 go_enter Tryz.func134, Tryz.ntmps134
 go_wp2
 all_goals
  go_ret2
  exact ⟨ret_int2 H2.out H1.out, rfl⟩
def AddInv (B g n : Nat) (w : World) (S : Nat) (k c : Nat) (wr : World) : Prop :=
 ∃ zs, Own B wr (some ⟨g, 0, none⟩) (n + 1) (n + 1) zs ∧ Below B w wr ∧ val zs + 4294967296 ^ k * c = S
theorem add_ge (a0 b0 : Option Addr) (la ca lb cb : Nat) (xs ys : List Nat) (w : World) (ha : Sl w a0 la ca xs) (hb : Sl w b0 lb cb ys) (hge : nl ys ≤ nl xs) (hroom : la < 35184372088832 ∧ lb < 35184372088832) :
  Calls Tryz.prog 121 #[.slice a0 la ca, .slice b0 lb cb] w (NewSl w (limbs (val xs + val ys))) := by
 have n1 := nl_le xs; have n2 := nl_le ys; rw [ha.len] at n1; rw [hb.len] at n2; have b1 := ha.big; have b2 := hb.big; have l1 := ha.le; have l2 := hb.le; obtain ⟨n, hn⟩ : ∃ n, n = nl xs := ⟨_, rfl⟩; obtain ⟨m, hm⟩ : ∃ m, m = nl ys := ⟨_, rfl⟩; rw [← hn] at n1 hge; rw [← hm] at n2 hge
 have HN : Hid (nl xs = n) := hn.symm
 have HM : Hid (nl ys = m) := hm.symm
 clear hn hm
 have hmn : m ≤ n := by omega
 have HS : Hid (val xs + val ys < 4294967296 ^ (n + 1)) := sum_lt (val_lt_nl ha.wf n (Nat.le_of_eq HN.out)) (val_lt_nl hb.wf n (by rw [HM.out]; exact hmn))
 obtain ⟨hr1, hr2⟩ := hroom; obtain ⟨i0, hi, hz0, hz1, hz2⟩ := info_parts Tryz.info_u32
 go_enter Tryz.func121, Tryz.ntmps121
 go_wp2_with fail; refine (length_is n _ _ _ _ _ ha HN).mono ?_
 rintro e w' ⟨rfl, rfl⟩; go_wp2_with fail; refine (length_is m _ _ _ _ _ hb HM).mono ?_; rintro e w' ⟨rfl, rfl⟩
 go_wp2_with (at_make; refine wpList_make_full _ rfl _ _ 50 rfl w.heap.size 118 i0 (.int .u32 0) 1 Tryz.underlying50 hi hz0 hz1 _ _ _ _ (n + 1) rfl rfl (by omega) (by omega) ?b2 ?b3 (Nat.le_refl _) ?_)
 case b2 => rw [hz2]; omega
 case b3 => unfold maxLen; omega
 intro w1 hown1 hgrow1
 rw [made_u32] at hown1
 have HR : Hid (w1.heap[w.heap.size]? = some (.cells (cellsOf (List.replicate (n + 1) 0)).toArray 118 (0, 0))) := row_full hown1
 have hb1 : Below w.heap.size w w1 := (Below.refl _ _).grown hgrow1 (Nat.le_refl _) (fun k h => by cases h)
 clear hown1 hgrow1; obtain ⟨cs, hcs⟩ : ∃ cs, cs = cellsOf (xs.take n) := ⟨_, rfl⟩; obtain ⟨zs, hzs⟩ : ∃ zs, zs = cellsOf (List.replicate (n + 1) 0) := ⟨_, rfl⟩; rw [← hzs] at HR
 have HCL : Hid (cs.length = n) := by show _ = _; rw [hcs, cellsOf_length, List.length_take, ha.len]; omega
 have HZL : Hid (zs.length = n + 1) := by show _ = _; rw [hzs, cellsOf_length, List.length_replicate]
 have H1 : Hid (∀ v ∈ cs, v.oneCell' = true) := by rw [hcs]; exact cellsOf_one _
 have HSP : Hid (splice zs 0 cs = cellsOf (xs.take n ++ [0])) := by show _ = _; rw [hzs, hcs]; exact splice_front xs n (by rw [ha.len]; exact n1)
 have HSRC : Hid (0 < n → ∃ ad, a0 = some ad ∧ ∀ j v, cs[j]? = some v → w1.cell? (ad.add j) = some v) := by
  intro h0
  rw [hcs]
  exact (ha.below hb1).src n n1 h0
 clear hcs hzs
 go_wp2_with (with_reducible refine wpList_copy_splice rfl (.tmp 25) (.tmp 28) 50 50 rfl 118 rfl Tryz.size_u32 _ _ _ _ _ _ rfl rfl w.heap.size 0 zs 118 HR.out cs (by rw [HCL.out]; exact (Nat.min_eq_left (by omega)).symm) (fun h => ⟨rfl, HSRC.out (by rw [HCL.out] at h; exact h)⟩) (by rw [HCL.out, HZL.out]; omega) H1.out w.heap.size w hb1 (Nat.le_refl _) ?_; intro w2 HG2 hB2)
 have hO2 : Own w.heap.size w2 (some ⟨w.heap.size, 0, none⟩) (n + 1) (n + 1) (xs.take n ++ [0]) := by
  refine Own.at_row (Nat.le_refl _) (by simp [ha.len]; omega) (by omega) ?_ (by have := HG2.out; rwa [HSP.out] at this)
  intro x hx
  rcases List.mem_append.1 hx with hx | hx
  ·exact ha.wf x (List.mem_of_mem_take hx)
  ·simp at hx; omega
 have hV2 : val (xs.take n ++ [0]) = val xs := by
  rw [val_append, ← HN.out, val_nl]; simp [val]
 have hI2 : AddInv w.heap.size w.heap.size n w (val xs + val (ys.take 0)) 0 0 w2 := ⟨_, hO2, hB2, by rw [hV2]; simp [val]⟩
 clear hO2 hV2 hB2 HG2 HSRC HSP H1 HZL HCL HR hb1
 go_loopw [8, 9] (fun c i wr => ∃ k cc : Nat, k ≤ m ∧ cc ≤ 1 ∧ i = .int .i64 k ∧ c = .int .u32 cc ∧ AddInv w.heap.size w.heap.size n w (val xs + val (ys.take k)) k cc wr) (fun _ i _ => m - (intOf i).toNat)
 case atStart => exact ⟨0, 0, Nat.zero_le _, Nat.zero_le _, rfl, rfl, hI2⟩
 case round =>
  obtain ⟨k, cc, hk, hcc, rfl, rfl, hinv⟩ := hrel
  by_cases hkm : k < m
  ·obtain ⟨zs', hO, hB, hV⟩ := hinv
   obtain ⟨b, off, rfl, hbb, hcb⟩ := hb.at (by omega)
   have hyc : wr.cell? ⟨b, off + k, none⟩ = some (.int .u32 (ys.getD k 0 : Nat)) := (hB.cell (by exact hbb)).trans (hcb k (by omega))
   have hzc := hO.cell k (by omega)
   have hzf := hO.frozen k
   have hstep := add_step (y := ys.getD k 0) (by rw [hO.len]; omega) hV
   rw [← val_take_succ ys k (by rw [hb.len]; omega)] at hstep
   have hyl := hb.getD_lt k; have hzl := hO.getD_lt k; obtain ⟨y, hy⟩ : ∃ y, y = ys.getD k 0 := ⟨_, rfl⟩; obtain ⟨z, hz⟩ : ∃ z, z = zs'.getD k 0 := ⟨_, rfl⟩; rw [← hy] at hyc hyl hstep; rw [← hz] at hzc hzl hstep; have HST := Lib.hid hstep; clear hy hz hV hstep hcb
   go_wp2
   have hki : ((k : Nat) : Int) < ((n : Nat) : Int) + 1 := by omega
   have hkb : ((k : Nat) : Int) < ((lb : Nat) : Int) := by omega
   have hk0 : (0 : Int) ≤ ((k : Nat) : Int) := by omega
   go_region_with (go_at_call 131; refine (add32_any z y cc _ hzl hyl hcc).mono ?_; rintro e w' ⟨rfl, rfl⟩)
   all_goals
    go_wp2
    go_roundw
    case rel => exact ⟨k + 1, (z + y + cc) / 4294967296, by omega, by omega, by go_num, by go_num, _, hO.drew.set k _ (Nat.mod_lt _ (by omega)), hB.drew.setCell (Nat.le_refl _) _, HST.out⟩
    case measure => simp [intOf]; omega
  ·obtain rfl : k = m := by omega
   have hI3 : AddInv w.heap.size w.heap.size n w (val xs + val ys) k cc wr := by
    have e : val (ys.take k) = val ys := by rw [← HM.out, val_nl]
    rwa [e] at hinv
   clear hinv
   go_wp2
   go_loopw [8, 10] (fun c i wr => ∃ k cc : Nat, k ≤ n + 1 ∧ cc ≤ 1 ∧ i = .int .i64 k ∧ c = .int .u32 cc ∧ AddInv w.heap.size w.heap.size n w (val xs + val ys) k cc wr) (fun _ i _ => n + 1 - (intOf i).toNat)
   case atStart => exact ⟨k, cc, by omega, hcc, rfl, rfl, hI3⟩
   case round =>
    clear hI3; obtain ⟨k, cc, hk, hcc, rfl, rfl, zs', hO, hB, hV⟩ := hrel
    by_cases hc0 : cc = 0
    ·have hb0 : (((cc : Nat) : Int) != 0) = false := by simp; omega
     have hcut := cut_own _ _ _ _ _ _ hO
     have ht : trimL zs' = limbs (val xs + val ys) := by
      rw [trim_limbs _ hO.wf]
      congr 1
      rw [hc0] at hV
      omega
     rw [ht] at hcut; have HCUT := Lib.hid hcut
     clear ht hV hc0 hcut; go_wp2_with fail
     refine HCUT.out.mono fun e w' h => ?_
     obtain ⟨ao, kk, cap, rfl, h3, rfl⟩ := h; go_wp2_with fail
     go_ret
     exact ⟨_, _, _, rfl, h3, hB⟩
    ·have hb0 : (((cc : Nat) : Int) != 0) = true := by simp; omega
     have hkn : k ≤ n := by
      rcases add_end hV HS.out hk hcc with h | h
      ·exact absurd h hc0
      ·exact h
     have hzc := hO.cell k (by omega)
     have hzf := hO.frozen k
     have hstep := add_step (y := 0) (by rw [hO.len]; omega) hV
     rw [Nat.mul_zero, Nat.add_zero (val ys)] at hstep; have hzl := hO.getD_lt k
     obtain ⟨z, hz⟩ : ∃ z, z = zs'.getD k 0 := ⟨_, rfl⟩; rw [← hz] at hzc hzl hstep; have HST := Lib.hid hstep; clear hz hV hstep hc0
     go_wp2_with (go_at_call 131; refine (add32_any z 0 cc _ hzl (by omega) hcc).mono ?_; rintro e w' ⟨rfl, rfl⟩)
     go_roundw
     case rel => exact ⟨k + 1, (z + 0 + cc) / 4294967296, by omega, by omega, by go_num, by go_num, _, hO.set k _ (Nat.mod_lt _ (by omega)), hB.setCell (Nat.le_refl _) _, HST.out⟩
     case measure => simp [intOf]; omega
theorem add_lt (a0 b0 : Option Addr) (la ca lb cb : Nat) (xs ys : List Nat) (w : World) (ha : Sl w a0 la ca xs) (hb : Sl w b0 lb cb ys) (hge : nl ys < nl xs) (hroom : la < 35184372088832 ∧ lb < 35184372088832) :
  Calls Tryz.prog 121 #[.slice b0 lb cb, .slice a0 la ca] w (NewSl w (limbs (val xs + val ys))) := by
 have n1 := nl_le xs; have n2 := nl_le ys; rw [ha.len] at n1; rw [hb.len] at n2; have b1 := ha.big; have b2 := hb.big; have l1 := ha.le; have l2 := hb.le; obtain ⟨n, hn⟩ : ∃ n, n = nl xs := ⟨_, rfl⟩; obtain ⟨m, hm⟩ : ∃ m, m = nl ys := ⟨_, rfl⟩; rw [← hn] at n1 hge; rw [← hm] at n2 hge
 have HN : Hid (nl xs = n) := hn.symm
 have HM : Hid (nl ys = m) := hm.symm
 clear hn hm
 have hmn : m ≤ n := by omega
 have HS : Hid (val xs + val ys < 4294967296 ^ (n + 1)) := sum_lt (val_lt_nl ha.wf n (Nat.le_of_eq HN.out)) (val_lt_nl hb.wf n (by rw [HM.out]; exact hmn))
 obtain ⟨hr1, hr2⟩ := hroom; obtain ⟨i0, hi, hz0, hz1, hz2⟩ := info_parts Tryz.info_u32
 go_enter Tryz.func121, Tryz.ntmps121
 go_wp2_with fail; refine (length_is m _ _ _ _ _ hb HM).mono ?_
 rintro e w' ⟨rfl, rfl⟩; go_wp2_with fail; refine (length_is n _ _ _ _ _ ha HN).mono ?_; rintro e w' ⟨rfl, rfl⟩
 go_wp2_with (at_make; refine wpList_make_full _ rfl _ _ 50 rfl w.heap.size 118 i0 (.int .u32 0) 1 Tryz.underlying50 hi hz0 hz1 _ _ _ _ (n + 1) rfl rfl (by omega) (by omega) ?b2 ?b3 (Nat.le_refl _) ?_)
 case b2 => rw [hz2]; omega
 case b3 => unfold maxLen; omega
 intro w1 hown1 hgrow1
 rw [made_u32] at hown1
 have HR : Hid (w1.heap[w.heap.size]? = some (.cells (cellsOf (List.replicate (n + 1) 0)).toArray 118 (0, 0))) := row_full hown1
 have hb1 : Below w.heap.size w w1 := (Below.refl _ _).grown hgrow1 (Nat.le_refl _) (fun k h => by cases h)
 clear hown1 hgrow1; obtain ⟨cs, hcs⟩ : ∃ cs, cs = cellsOf (xs.take n) := ⟨_, rfl⟩; obtain ⟨zs, hzs⟩ : ∃ zs, zs = cellsOf (List.replicate (n + 1) 0) := ⟨_, rfl⟩; rw [← hzs] at HR
 have HCL : Hid (cs.length = n) := by show _ = _; rw [hcs, cellsOf_length, List.length_take, ha.len]; omega
 have HZL : Hid (zs.length = n + 1) := by show _ = _; rw [hzs, cellsOf_length, List.length_replicate]
 have H1 : Hid (∀ v ∈ cs, v.oneCell' = true) := by rw [hcs]; exact cellsOf_one _
 have HSP : Hid (splice zs 0 cs = cellsOf (xs.take n ++ [0])) := by show _ = _; rw [hzs, hcs]; exact splice_front xs n (by rw [ha.len]; exact n1)
 have HSRC : Hid (0 < n → ∃ ad, a0 = some ad ∧ ∀ j v, cs[j]? = some v → w1.cell? (ad.add j) = some v) := by
  intro h0
  rw [hcs]
  exact (ha.below hb1).src n n1 h0
 clear hcs hzs
 go_wp2_with (with_reducible refine wpList_copy_splice rfl (.tmp 25) (.tmp 28) 50 50 rfl 118 rfl Tryz.size_u32 _ _ _ _ _ _ rfl rfl w.heap.size 0 zs 118 HR.out cs (by rw [HCL.out]; exact (Nat.min_eq_left (by omega)).symm) (fun h => ⟨rfl, HSRC.out (by rw [HCL.out] at h; exact h)⟩) (by rw [HCL.out, HZL.out]; omega) H1.out w.heap.size w hb1 (Nat.le_refl _) ?_; intro w2 HG2 hB2)
 have hO2 : Own w.heap.size w2 (some ⟨w.heap.size, 0, none⟩) (n + 1) (n + 1) (xs.take n ++ [0]) := by
  refine Own.at_row (Nat.le_refl _) (by simp [ha.len]; omega) (by omega) ?_ (by have := HG2.out; rwa [HSP.out] at this)
  intro x hx
  rcases List.mem_append.1 hx with hx | hx
  ·exact ha.wf x (List.mem_of_mem_take hx)
  ·simp at hx; omega
 have hV2 : val (xs.take n ++ [0]) = val xs := by
  rw [val_append, ← HN.out, val_nl]; simp [val]
 have hI2 : AddInv w.heap.size w.heap.size n w (val xs + val (ys.take 0)) 0 0 w2 := ⟨_, hO2, hB2, by rw [hV2]; simp [val]⟩
 clear hO2 hV2 hB2 HG2 HSRC HSP H1 HZL HCL HR hb1
 go_loopw [8, 9] (fun c i wr => ∃ k cc : Nat, k ≤ m ∧ cc ≤ 1 ∧ i = .int .i64 k ∧ c = .int .u32 cc ∧ AddInv w.heap.size w.heap.size n w (val xs + val (ys.take k)) k cc wr) (fun _ i _ => m - (intOf i).toNat)
 case atStart => exact ⟨0, 0, Nat.zero_le _, Nat.zero_le _, rfl, rfl, hI2⟩
 case round =>
  obtain ⟨k, cc, hk, hcc, rfl, rfl, hinv⟩ := hrel
  by_cases hkm : k < m
  ·obtain ⟨zs', hO, hB, hV⟩ := hinv
   obtain ⟨b, off, rfl, hbb, hcb⟩ := hb.at (by omega)
   have hyc : wr.cell? ⟨b, off + k, none⟩ = some (.int .u32 (ys.getD k 0 : Nat)) := (hB.cell (by exact hbb)).trans (hcb k (by omega))
   have hzc := hO.cell k (by omega)
   have hzf := hO.frozen k
   have hstep := add_step (y := ys.getD k 0) (by rw [hO.len]; omega) hV
   rw [← val_take_succ ys k (by rw [hb.len]; omega)] at hstep
   have hyl := hb.getD_lt k; have hzl := hO.getD_lt k; obtain ⟨y, hy⟩ : ∃ y, y = ys.getD k 0 := ⟨_, rfl⟩; obtain ⟨z, hz⟩ : ∃ z, z = zs'.getD k 0 := ⟨_, rfl⟩; rw [← hy] at hyc hyl hstep; rw [← hz] at hzc hzl hstep; have HST := Lib.hid hstep; clear hy hz hV hstep hcb
   go_wp2
   have hki : ((k : Nat) : Int) < ((n : Nat) : Int) + 1 := by omega
   have hkb : ((k : Nat) : Int) < ((lb : Nat) : Int) := by omega
   have hk0 : (0 : Int) ≤ ((k : Nat) : Int) := by omega
   go_region_with (go_at_call 131; refine (add32_any z y cc _ hzl hyl hcc).mono ?_; rintro e w' ⟨rfl, rfl⟩)
   all_goals
    go_wp2
    go_roundw
    case rel => exact ⟨k + 1, (z + y + cc) / 4294967296, by omega, by omega, by go_num, by go_num, _, hO.drew.set k _ (Nat.mod_lt _ (by omega)), hB.drew.setCell (Nat.le_refl _) _, HST.out⟩
    case measure => simp [intOf]; omega
  ·obtain rfl : k = m := by omega
   have hI3 : AddInv w.heap.size w.heap.size n w (val xs + val ys) k cc wr := by
    have e : val (ys.take k) = val ys := by rw [← HM.out, val_nl]
    rwa [e] at hinv
   clear hinv
   go_wp2
   go_loopw [8, 10] (fun c i wr => ∃ k cc : Nat, k ≤ n + 1 ∧ cc ≤ 1 ∧ i = .int .i64 k ∧ c = .int .u32 cc ∧ AddInv w.heap.size w.heap.size n w (val xs + val ys) k cc wr) (fun _ i _ => n + 1 - (intOf i).toNat)
   case atStart => exact ⟨k, cc, by omega, hcc, rfl, rfl, hI3⟩
   case round =>
    clear hI3; obtain ⟨k, cc, hk, hcc, rfl, rfl, zs', hO, hB, hV⟩ := hrel
    by_cases hc0 : cc = 0
    ·have hb0 : (((cc : Nat) : Int) != 0) = false := by simp; omega
     have hcut := cut_own _ _ _ _ _ _ hO
     have ht : trimL zs' = limbs (val xs + val ys) := by
      rw [trim_limbs _ hO.wf]
      congr 1
      rw [hc0] at hV
      omega
     rw [ht] at hcut; have HCUT := Lib.hid hcut
     clear ht hV hc0 hcut; go_wp2_with fail
     refine HCUT.out.mono fun e w' h => ?_
     obtain ⟨ao, kk, cap, rfl, h3, rfl⟩ := h; go_wp2_with fail
     go_ret
     exact ⟨_, _, _, rfl, h3, hB⟩
    ·have hb0 : (((cc : Nat) : Int) != 0) = true := by simp; omega
     have hkn : k ≤ n := by
      rcases add_end hV HS.out hk hcc with h | h
      ·exact absurd h hc0
      ·exact h
     have hzc := hO.cell k (by omega)
     have hzf := hO.frozen k
     have hstep := add_step (y := 0) (by rw [hO.len]; omega) hV
     rw [Nat.mul_zero, Nat.add_zero (val ys)] at hstep; have hzl := hO.getD_lt k
     obtain ⟨z, hz⟩ : ∃ z, z = zs'.getD k 0 := ⟨_, rfl⟩; rw [← hz] at hzc hzl hstep; have HST := Lib.hid hstep; clear hz hV hstep hc0
     go_wp2_with (go_at_call 131; refine (add32_any z 0 cc _ hzl (by omega) hcc).mono ?_; rintro e w' ⟨rfl, rfl⟩)
     go_roundw
     case rel => exact ⟨k + 1, (z + 0 + cc) / 4294967296, by omega, by omega, by go_num, by go_num, _, hO.set k _ (Nat.mod_lt _ (by omega)), hB.setCell (Nat.le_refl _) _, HST.out⟩
     case measure => simp [intOf]; omega
theorem add_any (a0 b0 : Option Addr) (la ca lb cb : Nat) (xs ys : List Nat) (w : World) (ha : Sl w a0 la ca xs) (hb : Sl w b0 lb cb ys) (h1 : la < 35184372088832) (h2 : lb < 35184372088832) :
  Calls Tryz.prog 121 #[.slice a0 la ca, .slice b0 lb cb] w (NewSl w (limbs (val xs + val ys))) := by
 by_cases h : nl ys ≤ nl xs
 ·exact add_ge a0 b0 la ca lb cb xs ys w ha hb h ⟨h1, h2⟩
 ·rw [Nat.add_comm]
  exact add_lt b0 a0 lb cb la ca ys xs w hb ha (by omega) ⟨h2, h1⟩
def SubInv (B : Nat) (ao : Option Addr) (n cap : Nat) (w : World) (S T k c : Nat) (wr : World) : Prop :=
 ∃ zs, Own B wr ao n cap zs ∧ Below B w wr ∧ val zs + T = S + 4294967296 ^ k * c
theorem sub_any (a0 b0 : Option Addr) (la ca lb cb : Nat) (xs ys : List Nat) (w : World) (ha : Sl w a0 la ca xs) (hb : Sl w b0 lb cb ys) (hge : val ys ≤ val xs) :
  Calls Tryz.prog 123 #[.slice a0 la ca, .slice b0 lb cb] w (NewSlE w (limbs (val xs - val ys)) 0) := by
 obtain ⟨c0, hc0⟩ : ∃ c0, c0 = cmpN (val xs) (val ys) := ⟨_, rfl⟩
 have hc1 : 0 ≤ c0 := by
  rw [hc0]; unfold cmpN; rw [if_neg (by omega)]; split <;> omega
 have HC : Hid (cmpN (val xs) (val ys) = c0) := hc0.symm
 clear hc0; have n1 := nl_le xs; have n2 := nl_le ys; rw [ha.len] at n1; rw [hb.len] at n2; have b1 := ha.big; have b2 := hb.big; have l1 := ha.le; have l2 := hb.le
 have hmn : nl ys ≤ nl xs := by
  by_cases h : nl xs < nl ys
  ·have := val_lt_of_nl ha.wf h; omega
  ·omega
 obtain ⟨n, hn⟩ : ∃ n, n = nl xs := ⟨_, rfl⟩; obtain ⟨m, hm⟩ : ∃ m, m = nl ys := ⟨_, rfl⟩; rw [← hn] at n1 hmn; rw [← hm] at n2 hmn
 have HN : Hid (nl xs = n) := hn.symm
 have HM : Hid (nl ys = m) := hm.symm
 clear hn hm; have HGE := Lib.hid hge; clear hge
 go_enter Tryz.func123, Tryz.ntmps123
 go_wp2_with fail; refine (cmp_is c0 _ _ _ _ _ _ _ _ _ ha hb HC).mono ?_
 rintro e w' ⟨rfl, q, rfl⟩; go_wp2_with fail; refine (trim_any _ _ _ _ _ (ha.drewN q)).mono ?_; rintro e w1 ⟨ao, tn, cap, rfl, hO0, hB0⟩
 obtain rfl : tn = n := by rw [← hO0.len]; exact HN.out
 have hb1 : Sl w1 b0 lb cb ys := (hb.drewN q).below hB0
 have hB1 : Below w.heap.size w w1 := (below_drewN _ w q).trans hB0
 have hO1 : Own w.heap.size w1 ao tn cap (trimL xs) := hO0
 have hcap := hO1.sl.le; have hbig := hO1.big; clear hO0 hB0
 have hI1 : SubInv w.heap.size ao tn cap w (val xs) (val (ys.take 0)) 0 0 w1 := ⟨_, hO1, hB1, by rw [val_trim]; simp [val]⟩
 clear hO1; go_wp2_with fail; refine (length_is m _ _ _ _ _ hb1 HM).mono ?_; rintro e w' ⟨rfl, rfl⟩; go_wp2_with fail
 go_loopw [8, 9] (fun c i wr => ∃ k cc : Nat, k ≤ m ∧ cc ≤ 1 ∧ i = .int .i64 k ∧ c = .int .u32 cc ∧ SubInv w.heap.size ao tn cap w (val xs) (val (ys.take k)) k cc wr) (fun _ i _ => m - (intOf i).toNat)
 case atStart => exact ⟨0, 0, Nat.zero_le _, Nat.zero_le _, rfl, rfl, hI1⟩
 case round =>
  clear hI1; obtain ⟨k, cc, hk, hcc, rfl, rfl, hinv⟩ := hrel
  by_cases hkm : k < m
  ·obtain ⟨zs', hO, hB, hV⟩ := hinv
   obtain ⟨b, off, rfl, hbb, hcb⟩ := hb.at (by omega)
   obtain ⟨g, rfl, hBg⟩ : ∃ g, ao = some ⟨g, 0, none⟩ ∧ w.heap.size ≤ g := by
    rcases hO.parts with ⟨_, h, _⟩ | ⟨g, h1, h2, _⟩
    ·omega
    ·exact ⟨g, h1, h2⟩
   have hyc : wr.cell? ⟨b, off + k, none⟩ = some (.int .u32 (ys.getD k 0 : Nat)) := (hB.cell (by exact hbb)).trans (hcb k (by omega))
   have hzc := hO.cell k (by omega)
   have hzf := hO.frozen k
   have hstep := sub_step (y := ys.getD k 0) (by rw [hO.len]; omega) (hO.getD_lt k) (hb.getD_lt k) hcc hV
   rw [← val_take_succ ys k (by rw [hb.len]; omega)] at hstep
   have hyl := hb.getD_lt k; have hzl := hO.getD_lt k; obtain ⟨y, hy⟩ : ∃ y, y = ys.getD k 0 := ⟨_, rfl⟩; obtain ⟨z, hz⟩ : ∃ z, z = zs'.getD k 0 := ⟨_, rfl⟩; rw [← hy] at hyc hyl hstep; rw [← hz] at hzc hzl hstep; have HST := Lib.hid hstep; clear hy hz hV hstep hcb
   go_wp2
   have hki : ((k : Nat) : Int) < ((tn : Nat) : Int) := by omega
   have hkb : ((k : Nat) : Int) < ((lb : Nat) : Int) := by omega
   have hk0 : (0 : Int) ≤ ((k : Nat) : Int) := by omega
   go_region_with (go_at_call 134; refine (sub32_any z y cc _ hzl hyl hcc).mono ?_; rintro e w' ⟨rfl, rfl⟩)
   all_goals
    go_wp2
    go_roundw
    case rel => exact ⟨k + 1, subB z y cc, by omega, subB_le _ _ _, by go_num, rfl, _, hO.drew.set k _ (subD_lt _ _ _), hB.drew.setCell hBg _, HST.out⟩
    case measure => simp [intOf]; omega
  ·obtain rfl : k = m := by omega
   have hI3 : SubInv w.heap.size ao tn cap w (val xs) (val ys) k cc wr := by
    have e : val (ys.take k) = val ys := by rw [← HM.out, val_nl]
    rwa [e] at hinv
   clear hinv
   go_wp2
   go_loopw [8, 10] (fun c i wr => ∃ k cc : Nat, k ≤ tn ∧ cc ≤ 1 ∧ i = .int .i64 k ∧ c = .int .u32 cc ∧ SubInv w.heap.size ao tn cap w (val xs) (val ys) k cc wr) (fun _ i _ => tn - (intOf i).toNat)
   case atStart => exact ⟨k, cc, by omega, hcc, rfl, rfl, hI3⟩
   case round =>
    clear hI3; obtain ⟨k, cc, hk, hcc, rfl, rfl, zs', hO, hB, hV⟩ := hrel
    by_cases hc0 : cc = 0
    ·have hb0 : (((cc : Nat) : Int) != 0) = false := by simp; omega
     have hcut := cut_own _ _ _ _ _ _ hO
     have ht : trimL zs' = limbs (val xs - val ys) := by
      rw [trim_limbs _ hO.wf]
      congr 1
      rw [hc0] at hV
      omega
     rw [ht] at hcut; have HCUT := Lib.hid hcut
     clear ht hV hc0 hcut; go_wp2_with fail
     refine HCUT.out.mono fun e w' h => ?_
     obtain ⟨ao', kk, cap', rfl, h3, rfl⟩ := h; go_wp2_with fail
     go_ret2
     exact ⟨_, _, _, rfl, h3, hB⟩
    ·have hb0 : (((cc : Nat) : Int) != 0) = true := by simp; omega
     have hkn : k < tn := by
      rcases Nat.lt_or_ge k tn with h | h
      ·exact h
      ·obtain rfl : k = tn := by omega
       obtain rfl : cc = 1 := by omega
       have h1 := val_lt zs' hO.wf; rw [hO.len] at h1
       have := HGE.out
       omega
     obtain ⟨g, rfl, hBg⟩ : ∃ g, ao = some ⟨g, 0, none⟩ ∧ w.heap.size ≤ g := by
      rcases hO.parts with ⟨_, h, _⟩ | ⟨g, h1, h2, _⟩
      ·omega
      ·exact ⟨g, h1, h2⟩
     have hzc := hO.cell k (by omega)
     have hzf := hO.frozen k
     have hstep := sub_step (y := 0) (by rw [hO.len]; omega) (hO.getD_lt k) (by omega) hcc hV
     rw [Nat.mul_zero, Nat.add_zero (val ys)] at hstep; have hzl := hO.getD_lt k
     obtain ⟨z, hz⟩ : ∃ z, z = zs'.getD k 0 := ⟨_, rfl⟩; rw [← hz] at hzc hzl hstep; have HST := Lib.hid hstep; clear hz hV hstep hc0
     go_wp2_with (go_at_call 134; refine (sub32_any z 0 cc _ hzl (by omega) hcc).mono ?_; rintro e w' ⟨rfl, rfl⟩)
     go_roundw
     case rel => exact ⟨k + 1, subB z 0 cc, by omega, subB_le _ _ _, by go_num, rfl, _, hO.set k _ (subD_lt _ _ _), hB.setCell hBg _, HST.out⟩
     case measure => simp [intOf]; omega
end Go.Proofs.YtmmgipcacceakaaGreat

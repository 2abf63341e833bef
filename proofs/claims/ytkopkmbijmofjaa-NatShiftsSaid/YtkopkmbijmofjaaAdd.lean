/-
  The contract of nat.Add: the sum.
-/
import Derived.Test.YtkopkmbijmofjaaCarry
import Derived.Deep.RegionWith
namespace Go.Proofs.Ytkopkmbijmofjaa
open Go.RowKit

/-- the source of a copy out of the first k limbs of a slice -/
theorem Sl.src {w : World} {ao : Option Addr} {n cap : Nat} {xs : List Nat} (h : Sl w ao n cap xs) (k : Nat) (hk : k ≤ n) (h0 : 0 < k) :
    ∃ ad, ao = some ad ∧ ∀ j v, (cellsOf (xs.take k))[j]? = some v → w.cell? (ad.add j) = some v := by
  obtain ⟨b, off, rfl, _, hc⟩ := h.at (by omega)
  refine ⟨_, rfl, fun j v hv => ?_⟩
  have hj : j < (cellsOf (xs.take k)).length := (List.getElem?_eq_some_iff.1 hv).1
  rw [cellsOf_length, List.length_take, h.len] at hj
  rw [Addr.add_lit, hc j (by omega), ← hv, cellsOf_get _ _ (by rw [List.length_take, h.len]; omega)]
  simp [List.getD, show j < k by omega]

theorem splice_front (xs : List Nat) (n : Nat) (h : n ≤ xs.length) : splice (cellsOf (List.replicate (n + 1) 0)) 0 (cellsOf (xs.take n)) = cellsOf (xs.take n ++ [0]) := by
  have hl : (cellsOf (xs.take n)).length = n := by rw [cellsOf_length, List.length_take]; omega
  unfold splice
  rw [hl, cellsOf_append]
  simp [cellsOf]

theorem Own.drew {B : Nat} {w : World} {ao : Option Addr} {n cap : Nat} {ys : List Nat} (h : Own B w ao n cap ys) : Own B w.drew ao n cap ys :=
  ⟨h.row.drew, h.big, h.wf⟩

theorem Own.cell {B : Nat} {w : World} {g n cap : Nat} {ys : List Nat} (h : Own B w (some ⟨g, 0, none⟩) n cap ys) (t : Nat) (ht : t < n) : w.cell? ⟨g, t, none⟩ = some (.int .u32 (ys.getD t 0 : Nat)) := by
  rw [h.row.cellAt t (by omega), cellsOf_get _ _ (by rw [h.len]; exact ht)]

theorem Own.getD_lt {B : Nat} {w : World} {ao : Option Addr} {n cap : Nat} {ys : List Nat} (h : Own B w ao n cap ys) (t : Nat) : ys.getD t 0 < 4294967296 := h.sl.getD_lt t

theorem Own.at_row {B : Nat} {w : World} {g n : Nat} {ys : List Nat} (hB : B ≤ g) (hl : ys.length = n) (hn : n ≤ 35184372088832) (hw : Wf ys) (h : w.heap[g]? = some (.cells (cellsOf ys).toArray 38 (0, 0))) :
    Own B w (some ⟨g, 0, none⟩) n n ys :=
  ⟨full_row hB (by rw [cellsOf_length, hl]) (by unfold maxLen; omega) h, hn, hw⟩

/-- What the loops of nat.Add hold: the limbs so far, the carry, at place k. -/
def AddInv (B g n : Nat) (w : World) (S : Nat) (k c : Nat) (wr : World) : Prop :=
  ∃ zs, Own B wr (some ⟨g, 0, none⟩) (n + 1) (n + 1) zs ∧ Below B w wr ∧ val zs + 4294967296 ^ k * c = S


set_option maxHeartbeats 1000000 in
theorem add_ge (a0 b0 : Option Addr) (la ca lb cb : Nat) (xs ys : List Nat) (w : World) (ha : Sl w a0 la ca xs) (hb : Sl w b0 lb cb ys) (hge : nl ys ≤ nl xs) (hroom : la < 35184372088832 ∧ lb < 35184372088832) :
    Calls Try.prog 11 #[.slice a0 la ca, .slice b0 lb cb] w (NewSl w (limbs (val xs + val ys))) := by
  have n1 := nl_le xs
  have n2 := nl_le ys
  rw [ha.len] at n1
  rw [hb.len] at n2
  have b1 := ha.big
  have b2 := hb.big
  have l1 := ha.le
  have l2 := hb.le
  obtain ⟨n, hn⟩ : ∃ n, n = nl xs := ⟨_, rfl⟩
  obtain ⟨m, hm⟩ : ∃ m, m = nl ys := ⟨_, rfl⟩
  rw [← hn] at n1 hge
  rw [← hm] at n2 hge
  have HN : Hid (nl xs = n) := hn.symm
  have HM : Hid (nl ys = m) := hm.symm
  clear hn hm
  have hmn : m ≤ n := by omega
  have HS : Hid (val xs + val ys < 4294967296 ^ (n + 1)) := sum_lt (val_lt_nl ha.wf n (Nat.le_of_eq HN.out)) (val_lt_nl hb.wf n (by rw [HM.out]; exact hmn))
  obtain ⟨hr1, hr2⟩ := hroom
  obtain ⟨i0, hi, hz0, hz1, hz2⟩ := info_parts Try.info_u32
  go_enter Try.func11, Try.ntmps11
  go_wp2_with fail
  refine (length_is n _ _ _ _ _ ha HN).mono ?_
  rintro e w' ⟨rfl, rfl⟩
  go_wp2_with fail
  refine (length_is m _ _ _ _ _ hb HM).mono ?_
  rintro e w' ⟨rfl, rfl⟩
  go_wp2_with (at_make; refine wpList_make_full _ rfl _ _ 22 rfl w.heap.size 38 i0 (.int .u32 0) 1 Try.underlying22 hi hz0 hz1 _ _ _ _ (n + 1) rfl rfl (by omega) (by omega) ?b2 ?b3 (Nat.le_refl _) ?_)
  case b2 => rw [hz2]; omega
  case b3 => unfold maxLen; omega
  intro w1 hown1 hgrow1
  rw [made_u32] at hown1
  have HR : Hid (w1.heap[w.heap.size]? = some (.cells (cellsOf (List.replicate (n + 1) 0)).toArray 38 (0, 0))) := row_full hown1
  have hb1 : Below w.heap.size w w1 := (Below.refl _ _).grown hgrow1 (Nat.le_refl _) (fun k h => by cases h)
  clear hown1 hgrow1
  obtain ⟨cs, hcs⟩ : ∃ cs, cs = cellsOf (xs.take n) := ⟨_, rfl⟩
  obtain ⟨zs, hzs⟩ : ∃ zs, zs = cellsOf (List.replicate (n + 1) 0) := ⟨_, rfl⟩
  rw [← hzs] at HR
  have HCL : Hid (cs.length = n) := by show _ = _; rw [hcs, cellsOf_length, List.length_take, ha.len]; omega
  have HZL : Hid (zs.length = n + 1) := by show _ = _; rw [hzs, cellsOf_length, List.length_replicate]
  have H1 : Hid (∀ v ∈ cs, v.oneCell' = true) := by rw [hcs]; exact cellsOf_one _
  have HSP : Hid (splice zs 0 cs = cellsOf (xs.take n ++ [0])) := by show _ = _; rw [hzs, hcs]; exact splice_front xs n (by rw [ha.len]; exact n1)
  have HSRC : Hid (0 < n → ∃ ad, a0 = some ad ∧ ∀ j v, cs[j]? = some v → w1.cell? (ad.add j) = some v) := by
    intro h0
    rw [hcs]
    exact (ha.below hb1).src n n1 h0
  clear hcs hzs
  go_wp2_with (with_reducible refine wpList_copy_splice rfl (.tmp 25) (.tmp 28) 22 22 rfl 38 rfl Try.size_u32 _ _ _ _ _ _ rfl rfl w.heap.size 0 zs 38 HR.out cs (by rw [HCL.out]; exact (Nat.min_eq_left (by omega)).symm) (fun h => ⟨rfl, HSRC.out (by rw [HCL.out] at h; exact h)⟩) (by rw [HCL.out, HZL.out]; omega) H1.out w.heap.size w hb1 (Nat.le_refl _) ?_; intro w2 HG2 hB2)
  have hO2 : Own w.heap.size w2 (some ⟨w.heap.size, 0, none⟩) (n + 1) (n + 1) (xs.take n ++ [0]) := by
    refine Own.at_row (Nat.le_refl _) (by simp [ha.len]; omega) (by omega) ?_ (by have := HG2.out; rwa [HSP.out] at this)
    intro x hx
    rcases List.mem_append.1 hx with hx | hx
    · exact ha.wf x (List.mem_of_mem_take hx)
    · simp at hx; omega
  have hV2 : val (xs.take n ++ [0]) = val xs := by
    rw [val_append, ← HN.out, val_nl]; simp [val]
  have hI2 : AddInv w.heap.size w.heap.size n w (val xs + val (ys.take 0)) 0 0 w2 := ⟨_, hO2, hB2, by rw [hV2]; simp [val]⟩
  clear hO2 hV2 hB2 HG2 HSRC HSP H1 HZL HCL HR hb1
  go_loopw [8, 9] (fun c i wr => ∃ k cc : Nat, k ≤ m ∧ cc ≤ 1 ∧ i = .int .i64 k ∧ c = .int .u32 cc ∧ AddInv w.heap.size w.heap.size n w (val xs + val (ys.take k)) k cc wr) (fun _ i _ => m - (intOf i).toNat)
  case atStart => exact ⟨0, 0, Nat.zero_le _, Nat.zero_le _, rfl, rfl, hI2⟩
  case round =>
    obtain ⟨k, cc, hk, hcc, rfl, rfl, hinv⟩ := hrel
    by_cases hkm : k < m
    · obtain ⟨zs', hO, hB, hV⟩ := hinv
      obtain ⟨b, off, rfl, hbb, hcb⟩ := hb.at (by omega)
      have hyc : wr.cell? ⟨b, off + k, none⟩ = some (.int .u32 (ys.getD k 0 : Nat)) := (hB.cell (by exact hbb)).trans (hcb k (by omega))
      have hzc := hO.cell k (by omega)
      have hzf := hO.frozen k
      have hstep := add_step (y := ys.getD k 0) (by rw [hO.len]; omega) hV
      rw [← val_take_succ ys k (by rw [hb.len]; omega)] at hstep
      have hyl := hb.getD_lt k
      have hzl := hO.getD_lt k
      obtain ⟨y, hy⟩ : ∃ y, y = ys.getD k 0 := ⟨_, rfl⟩
      obtain ⟨z, hz⟩ : ∃ z, z = zs'.getD k 0 := ⟨_, rfl⟩
      rw [← hy] at hyc hyl hstep
      rw [← hz] at hzc hzl hstep
      have HST := Lib.hid hstep
      clear hy hz hV hstep hcb
      go_wp2
      have hki : ((k : Nat) : Int) < ((n : Nat) : Int) + 1 := by omega
      have hkb : ((k : Nat) : Int) < ((lb : Nat) : Int) := by omega
      have hk0 : (0 : Int) ≤ ((k : Nat) : Int) := by omega
      go_region_with (go_at_call 34; refine (add32_any z y cc _ hzl hyl hcc).mono ?_; rintro e w' ⟨rfl, rfl⟩)
      all_goals
        go_wp2
        go_roundw
        case rel => exact ⟨k + 1, (z + y + cc) / 4294967296, by omega, by omega, by go_num, by go_num, _, hO.drew.set k _ (Nat.mod_lt _ (by omega)), hB.drew.setCell (Nat.le_refl _) _, HST.out⟩
        case measure => simp [intOf]; omega
    · obtain rfl : k = m := by omega
      have hI3 : AddInv w.heap.size w.heap.size n w (val xs + val ys) k cc wr := by
        have e : val (ys.take k) = val ys := by rw [← HM.out, val_nl]
        rwa [e] at hinv
      clear hinv
      go_wp2
      go_loopw [8, 10] (fun c i wr => ∃ k cc : Nat, k ≤ n + 1 ∧ cc ≤ 1 ∧ i = .int .i64 k ∧ c = .int .u32 cc ∧ AddInv w.heap.size w.heap.size n w (val xs + val ys) k cc wr) (fun _ i _ => n + 1 - (intOf i).toNat)
      case atStart => exact ⟨k, cc, by omega, hcc, rfl, rfl, hI3⟩
      case round =>
        clear hI3
        obtain ⟨k, cc, hk, hcc, rfl, rfl, zs', hO, hB, hV⟩ := hrel
        by_cases hc0 : cc = 0
        · have hb0 : (((cc : Nat) : Int) != 0) = false := by simp; omega
          have hcut := cut_own _ _ _ _ _ _ hO
          have ht : trimL zs' = limbs (val xs + val ys) := by
            rw [trim_limbs _ hO.wf]
            congr 1
            rw [hc0] at hV
            omega
          rw [ht] at hcut
          have HCUT := Lib.hid hcut
          clear ht hV hc0 hcut
          go_wp2_with fail
          refine HCUT.out.mono fun e w' h => ?_
          obtain ⟨ao, kk, cap, rfl, h3, rfl⟩ := h
          go_wp2_with fail
          go_ret
          exact ⟨_, _, _, rfl, h3, hB⟩
        · have hb0 : (((cc : Nat) : Int) != 0) = true := by simp; omega
          have hkn : k ≤ n := by
            rcases add_end hV HS.out hk hcc with h | h
            · exact absurd h hc0
            · exact h
          have hzc := hO.cell k (by omega)
          have hzf := hO.frozen k
          have hstep := add_step (y := 0) (by rw [hO.len]; omega) hV
          rw [Nat.mul_zero, Nat.add_zero (val ys)] at hstep
          have hzl := hO.getD_lt k
          obtain ⟨z, hz⟩ : ∃ z, z = zs'.getD k 0 := ⟨_, rfl⟩
          rw [← hz] at hzc hzl hstep
          have HST := Lib.hid hstep
          clear hz hV hstep hc0
          go_wp2_with (go_at_call 34; refine (add32_any z 0 cc _ hzl (by omega) hcc).mono ?_; rintro e w' ⟨rfl, rfl⟩)
          go_roundw
          case rel => exact ⟨k + 1, (z + 0 + cc) / 4294967296, by omega, by omega, by go_num, by go_num, _, hO.set k _ (Nat.mod_lt _ (by omega)), hB.setCell (Nat.le_refl _) _, HST.out⟩
          case measure => simp [intOf]; omega

end Go.Proofs.Ytkopkmbijmofjaa

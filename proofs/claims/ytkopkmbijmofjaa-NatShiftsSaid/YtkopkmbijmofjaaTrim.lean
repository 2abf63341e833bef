/-
  The contracts of nat.cut and nat.Trim.
-/
import Derived.Test.YtkopkmbijmofjaaLen
import Derived.Test.YtkopkmbijmofjaaOwn
namespace Go.Proofs.Ytkopkmbijmofjaa
open Go.RowKit

theorem length_is (m : Nat) (ao : Option Addr) (n cap : Nat) (xs : List Nat) (w : World) (h : Sl w ao n cap xs) (hm : Hid (nl xs = m)) :
    Calls Try.prog 33 #[.slice ao n cap] w fun e w' => e = .returned (.int .i64 (m : Nat)) ∧ w = w' := by
  rw [← hm.out]; exact length_any ao n cap xs w h

theorem trimL_nil_of {xs : List Nat} (h : nl xs = 0) : trimL xs = [] := List.eq_nil_of_length_eq_zero h

/-- what nat.cut leaves of limbs that are the call's own -/
def CutOf (B : Nat) (w : World) (ys : List Nat) (e : Ending) (w' : World) : Prop :=
  ∃ ao n cap, e = .returned (.slice ao n cap) ∧ Own B w ao n cap ys ∧ w = w'

set_option maxHeartbeats 400000 in
theorem cut_own (B : Nat) (ao : Option Addr) (n cap : Nat) (xs : List Nat) (w : World) (h : Own B w ao n cap xs) :
    Calls Try.prog 35 #[.slice ao n cap] w (CutOf B w (trimL xs)) := by
  have hs := h.sl
  have hle := hs.le
  have hbig := hs.big
  have hnl : nl xs ≤ n := by have := nl_le xs; rw [hs.len] at this; exact this
  obtain ⟨m, hm⟩ : ∃ m, m = nl xs := ⟨_, rfl⟩
  rw [← hm] at hnl
  have HM : Hid (nl xs = m) := hm.symm
  clear hm
  by_cases h0 : m = 0
  · subst h0
    go_enter Try.func35, Try.ntmps35
    go_wp2_with (go_at_call 33; refine (length_is 0 _ _ _ _ _ hs HM).mono ?_; rintro e w' ⟨rfl, rfl⟩)
    go_ret
    exact ⟨_, _, _, rfl, by rw [trimL_nil_of HM.out]; exact Own.nil _ _, rfl⟩
  · have hb0 : (((m : Nat) : Int) == 0) = false := by simp; omega
    have hres : Own B w ao m cap (trimL xs) := by
      rw [trimL_take, HM.out]; exact h.take m hnl (by omega)
    go_enter Try.func35, Try.ntmps35
    go_wp2_with (go_at_call 33; refine (length_is m _ _ _ _ _ hs HM).mono ?_; rintro e w' ⟨rfl, rfl⟩)
    go_ret
    exact ⟨_, _, _, rfl, hres, rfl⟩

set_option maxHeartbeats 400000 in
theorem trim_any (ao : Option Addr) (n cap : Nat) (xs : List Nat) (w : World) (hs : Sl w ao n cap xs) :
    Calls Try.prog 18 #[.slice ao n cap] w (NewSl w (trimL xs)) := by
  have hle := hs.le
  have hbig := hs.big
  have hnl : nl xs ≤ n := by have := nl_le xs; rw [hs.len] at this; exact this
  obtain ⟨m, hm⟩ : ∃ m, m = nl xs := ⟨_, rfl⟩
  rw [← hm] at hnl
  have HM : Hid (nl xs = m) := hm.symm
  clear hm
  by_cases h0 : m = 0
  · subst h0
    go_enter Try.func18, Try.ntmps18
    go_wp2_with (go_at_call 33; refine (length_is 0 _ _ _ _ _ hs HM).mono ?_; rintro e w' ⟨rfl, rfl⟩)
    go_ret
    exact ⟨_, _, _, rfl, by rw [trimL_nil_of HM.out]; exact Own.nil _ _, Below.refl _ _⟩
  · have hb0 : (((m : Nat) : Int) == 0) = false := by simp; omega
    obtain ⟨i0, hi, hz0, hz1, hz2⟩ := info_parts Try.info_u32
    obtain ⟨b, off, rfl, hb, hcell⟩ := hs.at (by omega)
    have HC : Hid (∀ t, t < n → w.cell? ⟨b, off + t, none⟩ = some (.int .u32 (xs.getD t 0 : Nat))) := hcell
    clear hcell
    go_enter Try.func18, Try.ntmps18
    go_wp2_with (first
      | (go_at_call 33; refine (length_is m _ _ _ _ _ hs HM).mono ?_; rintro e w' ⟨rfl, rfl⟩)
      | (at_make; refine wpList_make_full _ rfl _ _ 22 rfl w.heap.size 38 i0 (.int .u32 0) 1 Try.underlying22 hi hz0 hz1 _ _ _ _ m rfl rfl rfl rfl ?b2 ?b3 (Nat.le_refl _) ?_))
    case b2 => rw [hz2]; omega
    case b3 => unfold maxLen; omega
    intro w1 hown1 hgrow1
    rw [made_u32] at hown1
    have HR : Hid (w1.heap[w.heap.size]? = some (.cells (cellsOf (List.replicate m 0)).toArray 38 (0, 0))) := row_full hown1
    have hb1 : Below w.heap.size w w1 := (Below.refl _ _).grown hgrow1 (Nat.le_refl _) (fun k h => by cases h)
    clear hown1 hgrow1
    obtain ⟨cs, hcs⟩ : ∃ cs, cs = cellsOf (trimL xs) := ⟨_, rfl⟩
    obtain ⟨zs, hzs⟩ : ∃ zs, zs = cellsOf (List.replicate m 0) := ⟨_, rfl⟩
    rw [← hzs] at HR
    have hcl : cs.length = m := by rw [hcs, cellsOf_length]; exact HM.out
    have hzl : zs.length = m := by rw [hzs, cellsOf_length, List.length_replicate]
    have hcell1 : ∀ j v, cs[j]? = some v → w1.cell? ((⟨b, off, none⟩ : Addr).add j) = some v := by
      intro j v hv
      have hj : j < m := by rw [← hcl]; exact (List.getElem?_eq_some_iff.1 hv).1
      rw [Addr.add_lit, hb1.cell (by exact hb), HC.out j (by omega), ← hv, hcs, cellsOf_get _ _ (by rw [← hcl, hcs, cellsOf_length] at hj; exact hj), trimL_take, HM.out]
      simp [List.getD, hj]
    have HC1 := Lib.hid hcell1
    clear hcell1
    have H1 : Hid (∀ v ∈ cs, v.oneCell' = true) := by rw [hcs]; exact cellsOf_one _
    have HS : Hid (splice zs 0 cs = cs) := by
      show splice zs 0 cs = cs
      simp [splice, hcl, hzl]
    have HCL := Lib.hid hcl
    have HZL := Lib.hid hzl
    have HCS := Lib.hid hcs
    clear hcl hzl hcs hzs HC
    go_wp2_with (with_reducible refine wpList_copy_splice rfl (.tmp 11) (.tmp 12) 22 22 rfl 38 rfl Try.size_u32 _ _ _ _ _ _ rfl rfl w.heap.size 0 zs 38 HR.out cs (by rw [HCL.out]; exact (Nat.min_eq_right hnl).symm) (fun _ => ⟨rfl, _, rfl, HC1.out⟩) (by rw [HCL.out, HZL.out]; omega) H1.out w.heap.size w hb1 (Nat.le_refl _) ?_; intro w2 HG2 hB2)
    go_ret
    refine ⟨_, _, _, rfl, ⟨?_, by omega, fun x hx => hs.wf x (List.mem_of_mem_take (by rw [← trimL_take]; exact hx))⟩, hB2⟩
    rw [← HCS.out]
    refine full_row (Nat.le_refl _) HCL.out (by unfold maxLen; omega) ?_
    have := HG2.out
    rw [HS.out] at this
    exact this

theorem CutOf.new {w w1 w2 : World} {ys : List Nat} {e : Ending} (h : CutOf w.heap.size w1 ys e w2) (hb : Below w.heap.size w w1) : NewSl w ys e w2 := by
  obtain ⟨ao, n, cap, he, ho, rfl⟩ := h
  exact ⟨ao, n, cap, he, ho, hb⟩

theorem trim_new (ao : Option Addr) (n cap : Nat) (xs : List Nat) (w : World) (hs : Sl w ao n cap xs) :
    Calls Try.prog 18 #[.slice ao n cap] w (NewSl w (limbs (val xs))) := by
  rw [← trim_limbs xs hs.wf]; exact trim_any ao n cap xs w hs

end Go.Proofs.Ytkopkmbijmofjaa

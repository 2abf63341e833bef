/-
  The contracts of porismref04's Same and May.
-/
import Derived.Test.YtponiigpmjnffaaWZInt
import Derived.Test.YtponiigpmjnffaaWZOf
import Derived.Test.YtponiigpmjnffaaWMay
import Derived.Deep.Cut
set_option maxRecDepth 8192
namespace Go.Proofs.Ytponiigpmjnffaa
open Go.RowKit

set_option maxHeartbeats 4000000 in
theorem same_limbs {m : Bool} {ao bo : Option Addr} {n cap l cb : Nat} {xs ys : List Nat} {w : World} (r : Bool) (hs : Sl w ao n cap xs) (ht : Sl w bo l cb ys) (h : sameB xs ys = r) :
    Calls Try.prog 13 #[.agg #[.bool m, .slice ao n cap], .agg #[.bool m, .slice bo l cb]] w (RetB (.bool r) w) := by
  have HS := Lib.hid h
  go_enter Try.func13, Try.ntmps13
  go_upto_region 1 with (fail)
  refine wp_world (fun W hW => ?_)
  have HB0 : Hid (Below w.heap.size w W) := by rw [hW]; exact step_alloc (below_alloc _ _)
  have hbx_bx : Box W (w.heap.size) m ao n cap := by rw [hW]; exact (Box.new _ _ _ _ _ _ _ (by simp)).below (below_alloc _ _)
  have hbx_by : Box W (w.heap.size + 1) m bo l cb := by rw [hW]; exact Box.new _ _ _ _ _ _ _ (by simp)
  have HK0 := Lib.hid (Live.add_sl (hs.below HB0.out) (Live.add_sl (ht.below HB0.out) (Live.add_box hbx_bx (Live.add_box hbx_by (Live.nil W)))))
  clear hW hbx_bx hbx_by
  have bx_c0 := HK0.out.tail.tail.box.c0
  have bx_c1 := HK0.out.tail.tail.box.c1
  have bx_f0 := HK0.out.tail.tail.box.f0
  have bx_f1 := HK0.out.tail.tail.box.f1
  have by_c0 := HK0.out.tail.tail.tail.box.c0
  have by_c1 := HK0.out.tail.tail.tail.box.c1
  have by_f0 := HK0.out.tail.tail.tail.box.f0
  have by_f1 := HK0.out.tail.tail.tail.box.f1
  go_wp2_with fail
  refine (same_bb r _ _ _ _ _ _ _ _ _ HK0.out.sl HK0.out.tail.sl HS.out).mono ?_
  rintro e w1 ⟨rfl, hB⟩
  have HK1 := Lib.hid (HK0.out.below hB)
  have HB1 := Lib.hid (Below.steps HB0.out hB)
  clear bx_c0 bx_c1 bx_f0 bx_f1 by_c0 by_c1 by_f0 by_f1
  clear HK0 HB0 hB
  have bx_c0 := HK1.out.tail.tail.box.c0
  have bx_c1 := HK1.out.tail.tail.box.c1
  have bx_f0 := HK1.out.tail.tail.box.f0
  have bx_f1 := HK1.out.tail.tail.box.f1
  have by_c0 := HK1.out.tail.tail.tail.box.c0
  have by_c1 := HK1.out.tail.tail.tail.box.c1
  have by_f0 := HK1.out.tail.tail.tail.box.f0
  have by_f1 := HK1.out.tail.tail.tail.box.f1
  go_wp2_with fail
  go_ret
  exact ⟨rfl, HB1.out⟩

set_option maxHeartbeats 4000000 in
theorem same_sign {m k : Bool} {ao bo : Option Addr} {n cap l cb : Nat} {w : World} (h : m ≠ k) :
    Calls Try.prog 13 #[.agg #[.bool m, .slice ao n cap], .agg #[.bool k, .slice bo l cb]] w (RetB (.bool false) w) := by
  have hmm : (m == k) = false := by cases m <;> cases k <;> simp at h ⊢
  go_enter Try.func13, Try.ntmps13
  go_upto_region 1 with (fail)
  refine wp_world (fun W hW => ?_)
  have HB0 : Hid (Below w.heap.size w W) := by rw [hW]; exact step_alloc (below_alloc _ _)
  have hbx_bx : Box W (w.heap.size) m ao n cap := by rw [hW]; exact (Box.new _ _ _ _ _ _ _ (by simp)).below (below_alloc _ _)
  have hbx_by : Box W (w.heap.size + 1) k bo l cb := by rw [hW]; exact Box.new _ _ _ _ _ _ _ (by simp)
  have HK0 := Lib.hid (Live.add_box hbx_bx (Live.add_box hbx_by (Live.nil W)))
  clear hW hbx_bx hbx_by
  have bx_c0 := HK0.out.box.c0
  have bx_c1 := HK0.out.box.c1
  have bx_f0 := HK0.out.box.f0
  have bx_f1 := HK0.out.box.f1
  have by_c0 := HK0.out.tail.box.c0
  have by_c1 := HK0.out.tail.box.c1
  have by_f0 := HK0.out.tail.box.f0
  have by_f1 := HK0.out.tail.box.f1
  go_wp2_with fail
  go_ret
  exact ⟨rfl, HB0.out⟩

theorem zsame_is (r : Bool) {m k : Bool} {ao bo : Option Addr} {n cap l cb : Nat} {x y : Int} {w : World} (hx : Cx w m ao n cap x) (hy : Cx w k bo l cb y) (h : decide (x = y) = r) :
    Calls Try.prog 13 #[.agg #[.bool m, .slice ao n cap], .agg #[.bool k, .slice bo l cb]] w (RetB (.bool r) w) := by
  rw [← h]
  by_cases hmk : m = k
  · subst hmk
    refine same_limbs _ hx.cn.sl hy.cn.sl ?_
    have h1 := hx.cn.neg
    have h2 := hy.cn.neg
    unfold sameB
    rw [decide_eq_decide]
    constructor
    · intro e
      have e2 := limbs_inj e
      rw [h1] at h2
      have h3 : (x < 0) ↔ (y < 0) := by simpa using h2
      omega
    · intro e; rw [e]
  · have e : decide (x = y) = false := by
      rw [decide_eq_false_iff_not]
      intro e
      exact hmk (by rw [hx.cn.neg, hy.cn.neg, e])
    rw [e]
    exact same_sign hmk

theorem zsame {m k : Bool} {ao bo : Option Addr} {n cap l cb : Nat} {x y : Int} {w : World} (hx : Cx w m ao n cap x) (hy : Cx w k bo l cb y) (h : x = y) :
    Calls Try.prog 13 #[.agg #[.bool m, .slice ao n cap], .agg #[.bool k, .slice bo l cb]] w (RetB (.bool true) w) := zsame_is true hx hy (by simpa using h)

theorem zsame_self {m : Bool} {ao bo : Option Addr} {n cap l cb : Nat} {xs : List Nat} {w : World} (hs : Sl w ao n cap xs) (ht : Sl w bo l cb xs) :
    Calls Try.prog 13 #[.agg #[.bool m, .slice ao n cap], .agg #[.bool m, .slice bo l cb]] w (RetB (.bool true) w) := same_limbs true hs ht (sameB_self xs)

theorem trim_last (xs : List Nat) (j : Nat) (hj : xs.length = j + 1) (hl : xs.getD j 0 ≠ 0) : trimL xs = xs := by
  have h1 := take_succ_getD xs j (by omega)
  rw [take_all xs (j + 1) hj] at h1
  rw [h1]
  exact trimL_snoc _ hl

theorem mayB_iff {m : Bool} {xs : List Nat} (hw : Wf xs) : mayB m xs.length xs = decide (m = decide (zOf m (val xs) < 0) ∧ xs = limbs (zOf m (val xs)).natAbs) := by
  rw [zOf_abs, zOf_neg]
  unfold mayB
  split
  · rename_i h0
    obtain rfl : xs = [] := List.eq_nil_of_length_eq_zero h0
    rw [val_nil]
    cases m <;> simp [limbs_zero]
  · rename_i h0
    obtain ⟨j, hj⟩ : ∃ j, xs.length = j + 1 := ⟨xs.length - 1, by omega⟩
    rw [hj, Nat.add_sub_cancel]
    have ht := trim_limbs xs hw
    by_cases hl : xs.getD j 0 = 0
    · have h1 : ¬ xs = limbs (val xs) := fun e => last_pos xs j (by rw [ht, ← e]) hj hl
      simp only [hl, h1]
      simp
    · have h1 : trimL xs = xs := trim_last xs j hj hl
      have h2 : xs = limbs (val xs) := by rw [← ht, h1]
      have h3 : 0 < val xs := by
        rcases Nat.eq_zero_or_pos (val xs) with h | h
        · rw [h, limbs_zero] at h2; rw [h2] at hj; simp at hj
        · exact h
      simp only [← h2, h3]
      simp
      exact hl

theorem may_same {m k : Bool} {ao bo : Option Addr} {n cap l cb : Nat} {xs : List Nat} {w : World} (r : Bool) (hs : Sl w ao n cap xs) (hv : Cx w k bo l cb (zOf m (val xs))) (h : mayB m n xs = r) :
    Calls Try.prog 13 #[.agg #[.bool m, .slice ao n cap], .agg #[.bool k, .slice bo l cb]] w (RetB (.bool r) w) := by
  have e := mayB_iff (m := m) hs.wf
  rw [hs.len] at e
  rw [← h, e]
  clear e
  have h1 := hv.cn.neg
  by_cases hmk : m = k
  · subst hmk
    refine same_limbs _ hs hv.cn.sl ?_
    unfold sameB
    rw [decide_eq_decide]
    exact ⟨fun e => ⟨h1, e⟩, fun e => e.2⟩
  · have e : decide (m = decide (zOf m (val xs) < 0) ∧ xs = limbs (zOf m (val xs)).natAbs) = false := by
      rw [decide_eq_false_iff_not, ← h1]
      exact fun e => hmk e.1
    rw [e]
    exact same_sign hmk

set_option maxHeartbeats 4000000 in
theorem zmay_is {m : Bool} {ao : Option Addr} {n cap : Nat} {xs : List Nat} {w : World} (r : Bool) (hs : Sl w ao n cap xs) (hn : n ≤ 1000) (h : mayB m n xs = r) :
    Calls Try.prog 28 #[.agg #[.bool m, .slice ao n cap]] w (RetB (.bool r) w) := by
  have HR := Lib.hid h
  have hle := hn
  have HV : Hid (Nx w m ao n cap (zOf m (val xs))) := ⟨⟨xs, hs, rfl⟩, by omega⟩
  have HBD : Hid (Bd (zOf m (val xs)) 1000) := HV.out.inn.bd (by omega)
  clear h
  go_enter Try.func28, Try.ntmps28
  go_upto_region 1 with (fail)
  refine wp_world (fun W hW => ?_)
  have HB0 : Hid (Below w.heap.size w W) := by rw [hW]; exact below_alloc _ _
  have hbx_bx : Box W (w.heap.size) m ao n cap := by rw [hW]; exact Box.new _ _ _ _ _ _ _ (by simp)
  have HK0 := Lib.hid (Live.add_num (HV.out.below HB0.out) (Live.add_sl (hs.below HB0.out) (Live.add_box hbx_bx (Live.nil W))))
  clear hW hbx_bx
  have bx_c0 := HK0.out.tail.tail.box.c0
  have bx_c1 := HK0.out.tail.tail.box.c1
  have bx_f0 := HK0.out.tail.tail.box.f0
  have bx_f1 := HK0.out.tail.tail.box.f1
  have HK0d := Lib.hid (HK0.out.below ((Below.refl _ _).drew))
  have HB0d := Lib.hid HB0.out.drew
  clear bx_c0 bx_c1 bx_f0 bx_f1
  clear HK0 HB0
  have HK0 := Lib.hid HK0d.out
  have HB0 := Lib.hid HB0d.out
  clear HK0d HB0d
  have bx_c0 := HK0.out.tail.tail.box.c0
  have bx_c1 := HK0.out.tail.tail.box.c1
  have bx_f0 := HK0.out.tail.tail.box.f0
  have bx_f1 := HK0.out.tail.tail.box.f1
  refine wp_region_held_drew (S := fun w' => w'.cell? ⟨w.heap.size, 0, none⟩ = some (.bool m) ∧ w'.cell? ⟨w.heap.size, 1, none⟩ = some (.slice ao n cap)) (by kernel_rfl) (And.intro HK0.out.tail.tail.box.c0 (HK0.out.tail.tail.box.c1)) (fun hHeld => ?_)
  refine step_on 0 rfl (by kernel_rfl) (fun _ _ _ h => h) (by rfl) hHeld (by intro w hSw; first | (go_simp; done) | (go_simp; with_reducible rfl)) ?_
  try simp only [Act.put, List.setIfInBounds_toArray, List.set_cons_zero, List.set_cons_succ]
  refine step_on 1 rfl (by kernel_rfl) (fun _ _ _ h => h) (by rfl) hHeld (by intro w hSw; first | (go_simp; done) | (go_simp; with_reducible rfl)) ?_
  try simp only [Act.put, List.setIfInBounds_toArray, List.set_cons_zero, List.set_cons_succ]
  refine step_one 2 rfl (by kernel_rfl) (fun K hK => ?_)
  go_simp
  refine (zof_any HK0.out.num).mono ?_
  rintro e w1 ⟨um, u0, un, uc, rfl, hU, hB⟩
  have HK1 := Lib.hid (Live.add_zed (hU.zx HBD.out (by omega)) (HK0.out.below hB))
  have HB1 := Lib.hid (Below.steps HB0.out hB)
  clear bx_c0 bx_c1 bx_f0 bx_f1
  clear HK0 HB0 hU hB
  have bx_c0 := HK1.out.tail.tail.tail.box.c0
  have bx_c1 := HK1.out.tail.tail.tail.box.c1
  have bx_f0 := HK1.out.tail.tail.tail.box.f0
  have bx_f1 := HK1.out.tail.tail.tail.box.f1
  go_wp2_with fail
  refine hK.out _ _ (And.intro HK1.out.tail.tail.tail.box.c0 (HK1.out.tail.tail.tail.box.c1)) (fun hHeld2 => ?_)
  clear hK K hHeld
  have hHeld := hHeld2
  clear hHeld2
  try simp only [Act.put, List.setIfInBounds_toArray, List.set_cons_zero, List.set_cons_succ]
  refine step_one 3 rfl (by kernel_rfl) (fun K hK => ?_)
  go_simp
  refine (zint_any HK1.out.zed).mono ?_
  rintro e w2 ⟨vm, v0, vn, vc, rfl, hV, hB⟩
  have HK2 := Lib.hid (Live.add_can (hV.cx HBD.out (by omega)) (HK1.out.below hB))
  have HB2 := Lib.hid (Below.steps HB1.out hB)
  clear bx_c0 bx_c1 bx_f0 bx_f1
  clear HK1 HB1 hV hB
  have bx_c0 := HK2.out.tail.tail.tail.tail.box.c0
  have bx_c1 := HK2.out.tail.tail.tail.tail.box.c1
  have bx_f0 := HK2.out.tail.tail.tail.tail.box.f0
  have bx_f1 := HK2.out.tail.tail.tail.tail.box.f1
  go_wp2_with fail
  refine hK.out _ _ (And.intro HK2.out.tail.tail.tail.tail.box.c0 (HK2.out.tail.tail.tail.tail.box.c1)) (fun hHeld2 => ?_)
  clear hK K hHeld
  have hHeld := hHeld2
  clear hHeld2
  try simp only [Act.put, List.setIfInBounds_toArray, List.set_cons_zero, List.set_cons_succ]
  refine step_one 4 rfl (by kernel_rfl) (fun K hK => ?_)
  go_simp
  refine (may_same r HK2.out.tail.tail.tail.sl HK2.out.can HR.out).mono ?_
  rintro e w3 ⟨rfl, hB⟩
  have HK3 := Lib.hid (HK2.out.below hB)
  have HB3 := Lib.hid (Below.steps HB2.out hB)
  clear bx_c0 bx_c1 bx_f0 bx_f1
  clear HK2 HB2 hB
  have bx_c0 := HK3.out.tail.tail.tail.tail.box.c0
  have bx_c1 := HK3.out.tail.tail.tail.tail.box.c1
  have bx_f0 := HK3.out.tail.tail.tail.tail.box.f0
  have bx_f1 := HK3.out.tail.tail.tail.tail.box.f1
  go_wp2_with fail
  refine hK.out _ _ (And.intro HK3.out.tail.tail.tail.tail.box.c0 (HK3.out.tail.tail.tail.tail.box.c1)) (fun hHeld2 => ?_)
  clear hK K hHeld
  have hHeld := hHeld2
  clear hHeld2
  try simp only [Act.put, List.setIfInBounds_toArray, List.set_cons_zero, List.set_cons_succ]
  refine step_on 5 rfl (by kernel_rfl) (fun _ _ _ h => h) (by rfl) hHeld (by intro w hSw; first | (go_simp; done) | (go_simp; with_reducible rfl)) ?_
  try simp only [Act.put, List.setIfInBounds_toArray, List.set_cons_zero, List.set_cons_succ]
  refine wpAnyH_done (by kernel_rfl) ?_ _
  clear hHeld
  go_wp2_with fail
  go_ret
  exact ⟨rfl, HB3.out⟩

end Go.Proofs.Ytponiigpmjnffaa

/-
  The contract of porismlaw06.known.
-/
import Derived.Test.YteceomlbnajihaaGreatDoorRatioMay
import Derived.Test.YteceomlbnajihaaGreatDoorRatioPar
import Derived.Test.YteceomlbnajihaaGreatDoorRatioOf
import Derived.Test.YteceomlbnajihaaGreatDoorRatioFld
import Derived.Deep.Cut
import Derived.Deep.CutRange
set_option maxRecDepth 8192
namespace Go.Proofs.YteceomlbnajihaaGreatDoor
open Go.RowKit

theorem itoa_m3 : Lib.itoa (-3) = [45, 51] := by
  rw [itoa_neg' (by omega)]
  exact congrArg (45 :: ·) (dec_of_digVal 0 [51] rfl (by decide) (.inl (by decide)))
theorem itoa_2 : Lib.itoa 2 = [50] := by
  rw [itoa_pos' (by omega)]
  exact dec_of_digVal 0 [50] rfl (by decide) (.inl (by decide))
theorem known_txt : ratS (Rat.divInt 6 (-4)) = ⟨#[45, 51, 47, 50]⟩ := by
  have h1 : (Rat.divInt 6 (-4)).num = -3 := by decide +kernel
  have h2 : (Rat.divInt 6 (-4)).den = 2 := by decide +kernel
  unfold ratS ratTxt
  rw [h1, h2, itoa_m3, if_neg (by decide)]
  show (⟨([45, 51] ++ 47 :: Lib.itoa 2).toArray⟩ : ByteArray) = _
  rw [itoa_2]
  rfl

set_option maxHeartbeats 1000000 in
set_option maxRecDepth 100000 in
theorem known6_any (w : World) (ht : Tab w) : Calls Tryz.prog 10 #[] w (RetB (.bool true) w) := by
  have HT := Lib.hid ht
  obtain ⟨u, hu⟩ : ∃ u : ByteArray, u = ratS (Rat.divInt 6 (-4)) := ⟨_, rfl⟩
  have e1 : (u.toList == [45, 51, 47, 50]) = true := by rw [hu, known_txt, ByteArray.toList_eq]; decide
  have HU := Lib.hid hu
  clear ht hu
  go_enter Tryz.func10, Tryz.ntmps10
  have S0 := Lib.hid (Sx.start (w := w) (N := []) trivial)
  go_wp2_with fail
  refine (rsmall_any 6 (-4) _ (by omega) (by omega) (by decide)).mono ?_
  rintro e w1 ⟨r1_m, r1_0, r1_n, r1_c, r1_k, r1_1, r1_l, r1_d, rfl, hX, hB⟩
  have S1 := Lib.hid (((S0.out.step hB).rc hX rfl))
  clear S0 hX hB
  go_upto_region 2 with (fail)
  have S2 := Lib.hid (S1.out.var (w1.heap.size) [.bool r1_m, .slice r1_0 r1_n r1_c, .bool r1_k, .slice r1_1 r1_l r1_d] 26 (by simp))
  clear S1
  refine wp_world (fun w2 hW => ?_)
  rw [← hW] at S2
  clear hW
  go_wp2_with fail
  refine (ratparse_bad ⟨#[50, 47, 52]⟩ _ (by decide) (by decide +kernel)).mono ?_
  rintro e w3 ⟨rfl, hB⟩
  have S3 := Lib.hid ((S2.out.step hB))
  clear S2 hB
  go_upto_region 3 with (fail)
  have S4 := Lib.hid (S3.out.var (w3.heap.size) [.bool false, .slice none 0 0, .bool false, .slice none 0 0] 26 (by simp))
  clear S3
  refine wp_world (fun w4 hW => ?_)
  rw [← hW] at S4
  clear hW
  go_wp2_with fail
  refine (ratparse_bad ⟨#[51, 47, 49]⟩ _ (by decide) (by decide +kernel)).mono ?_
  rintro e w5 ⟨rfl, hB⟩
  have S5 := Lib.hid ((S4.out.step hB))
  clear S4 hB
  go_upto_region 4 with (fail)
  have S6 := Lib.hid (S5.out.var (w5.heap.size) [.bool false, .slice none 0 0, .bool false, .slice none 0 0] 26 (by simp))
  clear S5
  refine wp_world (fun w6 hW => ?_)
  rw [← hW] at S6
  clear hW
  go_wp2_with fail
  refine (rsmall_zero 1 (by omega) _ (rfl)).mono ?_
  rintro e w7 ⟨rfl, hB⟩
  have S7 := Lib.hid ((S6.out.step hB))
  clear S6 hB
  go_upto_region 5 with (fail)
  have S8 := Lib.hid (S7.out.var (w7.heap.size) [.bool false, .slice none 0 0, .bool false, .slice none 0 0] 26 (by simp))
  clear S7
  refine wp_world (fun w8 hW => ?_)
  rw [← hW] at S8
  clear hW
  have S9 := Lib.hid (S8.out.drew)
  clear S8
  refine wp_region_held_drew (S := fun w' => (w'.cell? ⟨(w1.heap.size), 0, none⟩ = some (.bool r1_m) ∧ w'.cell? ⟨(w1.heap.size), 1, none⟩ = some (.slice r1_0 r1_n r1_c) ∧ w'.cell? ⟨(w1.heap.size), 2, none⟩ = some (.bool r1_k) ∧ w'.cell? ⟨(w1.heap.size), 3, none⟩ = some (.slice r1_1 r1_l r1_d))) (by kernel_rfl) ((S9.out.b.t.t.t.c4)) (fun hH => ?_)
  refine anyH_world (fun w9 hW => ?_)
  rw [← hW] at S9 hH
  clear hW
  refine step_on 0 rfl (by kernel_rfl) (fun _ _ _ h => h) (by rfl) hH (by intro w hS; go_simp <;> with_reducible rfl) ?_
  try simp only [nrm]
  refine step_on 1 rfl (by kernel_rfl) (fun _ _ _ h => h) (by rfl) hH (by intro w hS; go_simp <;> with_reducible rfl) ?_
  try simp only [nrm]
  refine step_on 2 rfl (by kernel_rfl) (fun _ _ _ h => h) (by rfl) hH (by intro w hS; go_simp <;> with_reducible rfl) ?_
  try simp only [nrm]
  refine step_on 3 rfl (by kernel_rfl) (fun _ _ _ h => h) (by rfl) hH (by intro w hS; go_simp <;> with_reducible rfl) ?_
  try simp only [nrm]
  refine step_one 4 rfl (by kernel_rfl) (fun K hK => ?_)
  go_simp
  refine (rattext_any S9.out.n.rc.rx (HT.out.below S9.out.h) (by omega) (by omega)).mono ?_
  rintro e w10 ⟨rfl, hB⟩
  rw [← HU.out]
  have S10 := Lib.hid ((S9.out.step hB))
  clear S9 hB
  go_wp2_with fail
  refine hK.out _ _ (S10.out.b.t.t.t.c4) (fun h2 => ?_)
  clear hK K hH
  have hH := h2
  clear h2
  try simp only [nrm]
  refine step_on 5 rfl (by kernel_rfl) (fun _ _ _ h => h) (by rfl) hH (by intro w hS; go_simp <;> with_reducible rfl) ?_
  try simp only [nrm]
  refine step_on 6 rfl (by kernel_rfl) (fun _ _ _ h => h) (by rfl) hH (by intro w hS; go_simp <;> with_reducible rfl) ?_
  try simp only [nrm]
  refine step_on 7 rfl (by kernel_rfl) (fun _ _ _ h => h) (by rfl) hH (by intro w hS; go_simp <;> with_reducible rfl) ?_
  try simp only [nrm]
  refine step_on 8 rfl (by kernel_rfl) (fun _ _ _ h => h) (by rfl) hH (by intro w hS; go_simp <;> with_reducible rfl) ?_
  try simp only [nrm]
  refine step_on 9 rfl (by kernel_rfl) (fun _ _ _ h => h) (by rfl) hH (by intro w hS; go_simp <;> with_reducible rfl) ?_
  try simp only [nrm]
  refine step_one 10 rfl (by kernel_rfl) (fun K hK => ?_)
  go_simp
  refine (rneg_any S10.out.n.rc.rx (by omega) (by omega)).mono ?_
  rintro e w11 ⟨r2_m, r2_0, r2_n, r2_c, r2_k, r2_1, r2_l, r2_d, rfl, hX, hB⟩
  have S11 := Lib.hid (((S10.out.step hB).rc hX rfl))
  clear S10 hX hB
  go_wp2_with fail
  refine hK.out _ _ (S11.out.b.t.t.t.c4) (fun h2 => ?_)
  clear hK K hH
  have hH := h2
  clear h2
  try simp only [nrm]
  refine step_one 11 rfl (by kernel_rfl) (fun K hK => ?_)
  go_simp
  refine (radd_any S11.out.n.t.rc.rx S11.out.n.rc.rx (by omega) (by omega) (by omega)).mono ?_
  rintro e w12 ⟨r3_m, r3_0, r3_n, r3_c, r3_k, r3_1, r3_l, r3_d, rfl, hX, hB⟩
  have S12 := Lib.hid (((S11.out.step hB).rc hX rfl))
  clear S11 hX hB
  go_wp2_with fail
  refine hK.out _ _ (S12.out.b.t.t.t.c4) (fun h2 => ?_)
  clear hK K hH
  have hH := h2
  clear h2
  try simp only [nrm]
  refine step_one 12 rfl (by kernel_rfl) (fun K hK => ?_)
  go_simp
  refine (rsign_any (0) S12.out.n.rc.rx (by omega) (by rw [Rat.add_neg_cancel]; exact (qs_zero _).2 rfl)).mono ?_
  rintro e w13 ⟨rfl, hB⟩
  have S13 := Lib.hid ((S12.out.step hB))
  clear S12 hB
  go_wp2_with fail
  refine hK.out _ _ (S13.out.b.t.t.t.c4) (fun h2 => ?_)
  clear hK K hH
  have hH := h2
  clear h2
  try simp only [nrm]
  refine step_on 13 rfl (by kernel_rfl) (fun _ _ _ h => h) (by rfl) hH (by intro w hS; go_simp <;> with_reducible rfl) ?_
  try simp only [nrm]
  refine step_on 14 rfl (by kernel_rfl) (fun _ _ _ h => h) (by rfl) hH (by intro w hS; go_simp <;> with_reducible rfl) ?_
  try simp only [nrm]
  refine step_on 15 rfl (by kernel_rfl) (fun _ _ _ h => h) (by rfl) hH (by intro w hS; go_simp <;> with_reducible rfl) ?_
  try simp only [nrm]
  refine step_on 16 rfl (by kernel_rfl) (fun _ _ _ h => h) (by rfl) hH (by intro w hS; go_simp <;> with_reducible rfl) ?_
  try simp only [nrm]
  refine step_on 17 rfl (by kernel_rfl) (fun _ _ _ h => h) (by rfl) hH (by intro w hS; go_simp <;> with_reducible rfl) ?_
  try simp only [nrm]
  refine step_on 18 rfl (by kernel_rfl) (fun _ _ _ h => h) (by rfl) hH (by intro w hS; go_simp <;> with_reducible rfl) ?_
  try simp only [nrm]
  refine step_on 19 rfl (by kernel_rfl) (fun _ _ _ h => h) (by rfl) hH (by intro w hS; go_simp <;> with_reducible rfl) ?_
  try simp only [nrm]
  refine step_on 20 rfl (by kernel_rfl) (fun _ _ _ h => h) (by rfl) hH (by intro w hS; go_simp <;> with_reducible rfl) ?_
  try simp only [nrm]
  refine step_on 21 rfl (by kernel_rfl) (fun _ _ _ h => h) (by rfl) hH (by intro w hS; go_simp <;> with_reducible rfl) ?_
  try simp only [nrm]
  refine step_on 22 rfl (by kernel_rfl) (fun _ _ _ h => h) (by rfl) hH (by intro w hS; go_simp <;> with_reducible rfl) ?_
  try simp only [nrm]
  refine step_on 23 rfl (by kernel_rfl) (fun _ _ _ h => h) (by rfl) hH (by intro w hS; go_simp <;> with_reducible rfl) ?_
  try simp only [nrm]
  refine step_on 24 rfl (by kernel_rfl) (fun _ _ _ h => h) (by rfl) hH (by intro w hS; go_simp <;> with_reducible rfl) ?_
  try simp only [nrm]
  refine step_on 25 rfl (by kernel_rfl) (fun _ _ _ h => h) (by rfl) hH (by intro w hS; go_simp <;> with_reducible rfl) ?_
  try simp only [nrm]
  refine step_on 26 rfl (by kernel_rfl) (fun _ _ _ h => h) (by rfl) hH (by intro w hS; go_simp <;> with_reducible rfl) ?_
  try simp only [nrm]
  refine step_on 27 rfl (by kernel_rfl) (fun _ _ _ h => h) (by rfl) hH (by intro w hS; go_simp <;> with_reducible rfl) ?_
  try simp only [nrm]
  refine wpAnyH_done (by kernel_rfl) ?_ _
  clear hH
  go_wp2_with fail
  go_ret
  exact ⟨rfl, S13.out.h⟩

end Go.Proofs.YteceomlbnajihaaGreatDoor

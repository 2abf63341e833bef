/-
  PROVED: whatever list of polynomials (any lists of terms), list of polynomials (any lists of terms), list of polynomials (any lists of terms) the law RankOrders is handed, it answers true, and what came in reads afterwards as before. CONDITIONS: none of ours (the form's own reach alone).
-/
import Derived.Test.YtmmgipcacceakaaRankOrders
import Derived.Test.YtmmgipcacceakaaRkRow
set_option maxHeartbeats 40000000
set_option maxRecDepth 100000
namespace Go.Proofs.Ytmmgipcacceakaa
open Go.ChangeShapes Go.WideShapes Go.ChangeAt Go.RowKit
theorem rankOrders_lifted (os : Os) (started : os.Started) (H : Type) (enc : TypeId × Value → H) :
  ReturnsInHanded {} Try.checked os 4 .any (Rows.rankOrdersSpec.pre6 enc Try.prog Try.f4 Rows.rankOrdersRow.domain false) (Rows.rankOrdersSpec.post enc Try.prog Try.f4 false true false false) := by
 refine returnsInHanded_of_change_sized (C := Try.checked) Try.own8 started (by kernel_rfl) Try.func4
  (ChangeSpec.witness6 (enc := enc) (C := Try.checked) false ⟨#[], #[.slice none 0 0, .slice none 0 0, .slice none 0 0], []⟩ 8 (by kernel_rfl) (by kernel_rfl) (by kernel_rfl) (by kernel_rfl)) ?_
 intro W base args ds gs before hval0 hW _ hsz0 _
 have hsz : (DataW.weightsEach Try.prog (Try.f4.params.toList ++ Rows.rankOrdersSpec.plain.varTypes Try.prog) (ds ++ gs)).all (· ≤ reachBytes) = true := hsz0
 clear hsz0
 have hval : ∀ (j : Nat) t v, Try.f4.params[j]? = some t → args[j]? = some v → Value.okWide Try.prog W .any base t v := hval0
 have hW' := hW; obtain ⟨p, q, hA0, hV, rfl, _, _⟩ := hW
 have hA : DataW.TrodAll enc Try.prog W 0 (fun _ => true) true Try.f4.params.toList args.toList ds p := hA0
 rw [Try.params4] at hA hval hsz; obtain ⟨v0, v1, v2, d0, d1, d2, p0, p1, p2, rfl, rfl, rfl, h0, h1, h2⟩ := trodAll_three hA
 obtain ⟨rfl, rfl⟩ := trodVars_none hV; obtain ⟨a0, l0, c0, rfl⟩ := okWide_slice Try.underlying24 (hval 0 24 v0 rfl rfl); obtain ⟨a1, l1, c1, rfl⟩ := okWide_slice Try.underlying24 (hval 1 24 v1 rfl rfl); obtain ⟨a2, l2, c2, rfl⟩ := okWide_slice Try.underlying24 (hval 2 24 v2 rfl rfl); clear hA0 hval0
 simp only [List.append_nil] at hW'
 letI : Ol := ⟨W.heap.size⟩
 have S0 := And.intro (view_polysX h0 (Nat.le_refl _) (sized_one hsz (j := 0) (t := 24) rfl rfl)) (fun hb => view_polys hb h0 (Nat.le_refl _) (sized_one hsz (j := 0) (t := 24) rfl rfl))
 have S1 := And.intro (view_polysX h1 (Nat.le_refl _) (sized_one hsz (j := 1) (t := 24) rfl rfl)) (fun hb => view_polys hb h1 (Nat.le_refl _) (sized_one hsz (j := 1) (t := 24) rfl rfl))
 have S2 := And.intro (view_polysX h2 (Nat.le_refl _) (sized_one hsz (j := 2) (t := 24) rfl rfl)) (fun hb => view_polys hb h2 (Nat.le_refl _) (sized_one hsz (j := 2) (t := 24) rfl rfl))
 have hlt : ∀ x ∈ p0 ++ p1 ++ p2, x.block < W.heap.size := fun x hx => by simpa using hW'.lt x (by simpa using hx)
 refine (rankOrders_any (Nat.le_refl _) S0 S1 S2).mono ?_; rintro e W' ⟨rfl, hb⟩
 refine ⟨_, rfl, _, _, _, [], _, [], hW', trodAll_mk1 (shut_bool Try.underlying4 true), trodAll_mk3 (Below.trod Try.laidOut8 (by kernel_rfl) (of_decide_eq_true (by kernel_rfl)) h0 hb (fun x hx => hlt x (by simp [hx]))) (Below.trod Try.laidOut8 (by kernel_rfl) (of_decide_eq_true (by kernel_rfl)) h1 hb (fun x hx => hlt x (by simp [hx]))) (Below.trod Try.laidOut8 (by kernel_rfl) (of_decide_eq_true (by kernel_rfl)) h2 hb (fun x hx => hlt x (by simp [hx]))), rfl, hb.frame _, fun h => by cases h⟩
theorem rankOrders_holds : Rows.RankOrdersSaid :=
 OpenClaim.holds_of_wide 4 Try.f4 rfl rfl rfl rfl rfl rfl rfl ⟨rfl, rfl, rfl, rfl, rfl⟩ rfl rfl rfl rfl rfl (by kernel_rfl) Try.func4 (by kernel_rfl)
  (of_decide_eq_true (by kernel_rfl)) (by unfold Func.isWrapper; first | (rw [if_pos (by decide +kernel)]; kernel_rfl) | (rw [if_neg (by decide +kernel)]; exact ⟨rfl, rfl⟩))
  (fun os started H enc _ => rankOrders_lifted os started H enc)
end Go.Proofs.Ytmmgipcacceakaa

/-
  The contract of the reference's Parse.
-/
import Derived.Test.YteceomlbnajihaaGreatDoorRatioQT
import Derived.Deep.Cut
import Derived.Deep.CutRange
set_option maxRecDepth 8192
namespace Go.Proofs.YteceomlbnajihaaGreatDoor
open Go.RowKit

theorem rparse_as {l : List UInt8} {a : ByteArray} (w : World) (hs : a.size ≤ 20000) (hn : numB l = true) (hl : a.data.toList = l) :
    Calls Tryz.prog 65 #[.string a] w (NewPE w (numZ l) 0) := by
  subst hl; exact rparse_ok a w hs hn
theorem rparse_as_bad {l : List UInt8} {a : ByteArray} (w : World) (hs : a.size ≤ 20000) (hn : numB l = false) (hl : a.data.toList = l) :
    Calls Tryz.prog 65 #[.string a] w (RetB (.tuple #[.agg #[.bool false, .slice none 0 0], .int .i64 4]) w) := by
  subst hl; exact rparse_bad a w hs hn

set_option maxHeartbeats 1000000 in
set_option maxRecDepth 100000 in
theorem qp_e1 {s : ByteArray} {A : List UInt8} {w : World} (hs : s.size ≤ 20000) {p : Nat} (hp : p < s.size) (hno : ∀ k, k < p → ∀ h : k < s.size, ((s[k].toNat : Int) == 47) = false) (hat : ((s[p].toNat : Int) == 47) = true) (la : (s.extract 0 p).data.toList = A) (sa : (s.extract 0 p).size ≤ 20000) (na : numB A = false) :
    Calls Tryz.prog 36 #[.string s] w (RetB (.tuple #[.agg #[.bool false, .slice none 0 0, .bool false, .slice none 0 0], .int .i64 4]) w) := by
  have HSA := Lib.hid sa
  have LA := Lib.hid la
  have NA := Lib.hid na
  clear sa la na
  have c1 : (0 : Int) ≤ ↑p := by omega
  have c2 : (↑p : Int) ≤ ↑s.size := by omega
  have c3 : (0 : Int) ≤ ↑p + 1 := by omega
  have c4 : (↑p + 1 : Int) ≤ ↑s.size := by omega
  go_enter Tryz.func36, Tryz.ntmps36
  have S0 := Lib.hid (Sx.start (w := w) (N := []) trivial)
  have S1 := Lib.hid (S0.out.var (w.heap.size) [.bool false, .slice none 0 0, .bool false, .slice none 0 0] 26 (by simp))
  clear S0
  go_upto_region 1 with (fail)
  refine wp_world (fun w1 hW => ?_)
  rw [← hW] at S1
  clear hW
  go_wp2_with fail
  go_loop [5] (fun i => ∃ k : Nat, k ≤ p ∧ i = .int .i64 (k : Int)) (fun i => p - (intOf i).toNat)
  case atStart => exact ⟨0, Nat.zero_le _, rfl⟩
  case round =>
    obtain ⟨k, hk, rfl⟩ := hrel
    by_cases hlt : k < p
    · have hks : k < s.size := by omega
      have h47 : ((s[k].toNat : Int) == 47) = false := hno k hlt hks
      go_wp2_with fail
      go_round
      case rel => exact ⟨k + 1, by omega, by go_num⟩
      case measure => simp [intOf]; omega
    · obtain rfl : k = p := by omega
      clear hlt hk
      have h47 : ((s[k].toNat : Int) == 47) = true := hat
      go_wp2_with fail
      refine (rparse_as_bad _ (HSA.out) (NA.out) (LA.out)).mono ?_
      rintro e w2 ⟨rfl, hB⟩
      have S2 := Lib.hid ((S1.out.step hB))
      clear S1 hB
      go_upto_region 10 with (fail)
      have S3 := Lib.hid (S2.out.var (w2.heap.size) [.bool false, .slice none 0 0] 24 (by simp))
      clear S2
      refine wp_world (fun w3 hW => ?_)
      rw [← hW] at S3
      clear hW
      obtain ⟨c_b2_0, c_b2_1, c_b2_2, c_b2_3⟩ := S3.out.b.t.c4
      obtain ⟨f_b2_0, f_b2_1, f_b2_2, f_b2_3⟩ := S3.out.b.t.f4
      go_wp2_with fail
      have S4 : Hid (Sx w _ [⟨(w2.heap.size), [.bool false, .slice none 0 0]⟩, ⟨(w.heap.size), [.bool false, .slice none 0 0, .bool false, .slice none 0 0]⟩] _) := Lib.hid (Sx.set [⟨(w2.heap.size), [.bool false, .slice none 0 0]⟩] [] (Sx.set [⟨(w2.heap.size), [.bool false, .slice none 0 0]⟩] [] (Sx.set [⟨(w2.heap.size), [.bool false, .slice none 0 0]⟩] [] (Sx.set [⟨(w2.heap.size), [.bool false, .slice none 0 0]⟩] [] S3.out 0 (.bool false)) 1 (.slice none 0 0)) 2 (.bool false)) 3 (.slice none 0 0))
      clear S3
      refine bodyPost_ret (v := .tuple #[.agg #[.bool false, .slice none 0 0, .bool false, .slice none 0 0], .int .i64 4]) (by simp [results, Tryz.results36, go_sem, c_b2_0, c_b2_1, c_b2_2, c_b2_3]) rfl ?_
      exact ⟨rfl, S4.out.h⟩

set_option maxHeartbeats 1000000 in
set_option maxRecDepth 100000 in
theorem qp_f1 {s : ByteArray} {A B : List UInt8} {w : World} (hs : s.size ≤ 20000) {p : Nat} (hp : p < s.size) (hno : ∀ k, k < p → ∀ h : k < s.size, ((s[k].toNat : Int) == 47) = false) (hat : ((s[p].toNat : Int) == 47) = true) (la : (s.extract 0 p).data.toList = A) (sa : (s.extract 0 p).size ≤ 20000) (BA : Hid (A.length ≤ 20000)) (na : numB A = true) (lb : (s.extract (p + 1) s.size).data.toList = B) (sb : (s.extract (p + 1) s.size).size ≤ 20000) (nb : numB B = false) :
    Calls Tryz.prog 36 #[.string s] w (RetB (.tuple #[.agg #[.bool false, .slice none 0 0, .bool false, .slice none 0 0], .int .i64 4]) w) := by
  have HSA := Lib.hid sa
  have LA := Lib.hid la
  have NA := Lib.hid na
  clear sa la na
  have c1 : (0 : Int) ≤ ↑p := by omega
  have c2 : (↑p : Int) ≤ ↑s.size := by omega
  have c3 : (0 : Int) ≤ ↑p + 1 := by omega
  have c4 : (↑p + 1 : Int) ≤ ↑s.size := by omega
  have HSB := Lib.hid sb
  have LB := Lib.hid lb
  have NB := Lib.hid nb
  clear sb lb nb
  go_enter Tryz.func36, Tryz.ntmps36
  have S0 := Lib.hid (Sx.start (w := w) (N := []) trivial)
  have S1 := Lib.hid (S0.out.var (w.heap.size) [.bool false, .slice none 0 0, .bool false, .slice none 0 0] 26 (by simp))
  clear S0
  go_upto_region 1 with (fail)
  refine wp_world (fun w1 hW => ?_)
  rw [← hW] at S1
  clear hW
  go_wp2_with fail
  go_loop [5] (fun i => ∃ k : Nat, k ≤ p ∧ i = .int .i64 (k : Int)) (fun i => p - (intOf i).toNat)
  case atStart => exact ⟨0, Nat.zero_le _, rfl⟩
  case round =>
    obtain ⟨k, hk, rfl⟩ := hrel
    by_cases hlt : k < p
    · have hks : k < s.size := by omega
      have h47 : ((s[k].toNat : Int) == 47) = false := hno k hlt hks
      go_wp2_with fail
      go_round
      case rel => exact ⟨k + 1, by omega, by go_num⟩
      case measure => simp [intOf]; omega
    · obtain rfl : k = p := by omega
      clear hlt hk
      have h47 : ((s[k].toNat : Int) == 47) = true := hat
      go_wp2_with fail
      refine (rparse_as _ (HSA.out) (NA.out) (LA.out)).mono ?_
      rintro e w2 ⟨r1_m, r1_0, r1_n, r1_c, rfl, hX, hB⟩
      have S2 := Lib.hid (((S1.out.step hB).cb (hX.cb ((numZ_bd (NA.out)).mono (BA.out)) (by omega)) rfl))
      clear S1 hX hB
      go_upto_region 10 with (fail)
      have S3 := Lib.hid (S2.out.var (w2.heap.size) [.bool r1_m, .slice r1_0 r1_n r1_c] 24 (by simp))
      clear S2
      refine wp_world (fun w3 hW => ?_)
      rw [← hW] at S3
      clear hW
      go_wp2_with fail
      go_cut [8] from 38 to 42 (fun sl0 w9 => ∃ (qb8 : Nat) (r3_m : Bool) (r3_0 : Option Addr) (r3_n : Nat) (r3_c : Nat) (r2_m : Bool) (r2_0 : Option Addr) (r2_n : Nat) (r2_c : Nat), sl0 = .pointer (some ⟨qb8, 0, none⟩) ∧ Hid (Sx w w9 [⟨qb8, [.bool r1_m, .slice r1_0 r1_n r1_c, .bool r3_m, .slice r3_0 r3_n r3_c]⟩, ⟨(w2.heap.size), [.bool r1_m, .slice r1_0 r1_n r1_c]⟩, ⟨(w.heap.size), [.bool false, .slice none 0 0, .bool false, .slice none 0 0]⟩] [.cb r3_m r3_0 r3_n r3_c (1 : Int) 1, .zb r2_m r2_0 r2_n r2_c (1 : Int) 1, .cb r1_m r1_0 r1_n r1_c (numZ A) 20000]))
      case first =>
        have S4 := Lib.hid (S3.out.drew)
        clear S3
        refine wp_region_held_drew (S := fun w' => (w'.cell? ⟨(w2.heap.size), 0, none⟩ = some (.bool r1_m) ∧ w'.cell? ⟨(w2.heap.size), 1, none⟩ = some (.slice r1_0 r1_n r1_c))) (by kernel_rfl) ((S4.out.b.c2)) (fun hH => ?_)
        refine anyH_world (fun w4 hW => ?_)
        rw [← hW] at S4 hH
        clear hW
        refine step_on 0 rfl (by kernel_rfl) (fun _ _ _ h => h) (by rfl) hH (by intro w hS; go_simp <;> with_reducible rfl) ?_
        try simp only [nrm]
        refine wpAnyH_ready (rs := [1, 4]) (by kernel_rfl) (by simp) (ready_cons rfl (fun K hK => ?_) (ready_cons rfl (fun K hK => ?_) (AllReadyH.nil)))
        · go_simp
          refine (zsmall_any (1) _ ⟨by omega, by omega⟩).mono ?_
          rintro e w5 ⟨r2_m, r2_0, r2_n, r2_c, rfl, hX, hB⟩
          have S5 := Lib.hid (((S4.out.step hB).zb (hX.zb (show Bd (1 : Int) 1 by unfold Bd; decide) (by omega)) rfl))
          clear S4 hX hB
          go_wp2_with fail
          refine hK.out _ _ (S5.out.b.c2) (fun h2 => ?_)
          clear hK K hH
          have hH := h2
          clear h2
          try simp only [nrm]
          refine wpAnyH_ready (rs := [2, 4]) (by kernel_rfl) (by simp) (ready_cons rfl (fun K hK => ?_) (ready_cons rfl (fun K hK => ?_) (AllReadyH.nil)))
          · go_simp
            refine (zint_any S5.out.n.zb.zx).mono ?_
            rintro e w6 ⟨r3_m, r3_0, r3_n, r3_c, rfl, hX, hB⟩
            have S6 := Lib.hid (((S5.out.step hB).cb (hX.cb (S5.out.n.zb.bd) (by omega)) rfl))
            clear S5 hX hB
            go_wp2_with fail
            refine hK.out _ _ (S6.out.b.c2) (fun h2 => ?_)
            clear hK K hH
            have hH := h2
            clear h2
            try simp only [nrm]
            refine step_on 3 rfl (by kernel_rfl) (fun _ _ _ h => h) (by rfl) hH (by intro w hS; go_simp <;> with_reducible rfl) ?_
            try simp only [nrm]
            refine step_one 4 rfl (by kernel_rfl) (fun K hK => ?_)
            go_simp
            have S7 := Lib.hid (S6.out.var (w6.heap.size) [.bool false, .slice none 0 0, .bool false, .slice none 0 0] 26 (by simp))
            clear S6
            refine hK.out _ _ (S7.out.b.t.c2) (fun h2 => ?_)
            clear hK K hH
            have hH := h2
            clear h2
            try simp only [nrm]
            refine anyH_world (fun w7 hW => ?_)
            rw [← hW] at S7 hH
            clear hW
            refine step_one 5 rfl (by kernel_rfl) (fun K hK => ?_)
            obtain ⟨c_b8_0, c_b8_1, c_b8_2, c_b8_3⟩ := S7.out.b.c4
            obtain ⟨f_b8_0, f_b8_1, f_b8_2, f_b8_3⟩ := S7.out.b.f4
            go_simp
            clear c_b8_0 c_b8_1 c_b8_2 c_b8_3 f_b8_0 f_b8_1 f_b8_2 f_b8_3
            have S8 : Hid (Sx w _ [⟨(w6.heap.size), [.bool r1_m, .slice r1_0 r1_n r1_c, .bool r3_m, .slice r3_0 r3_n r3_c]⟩, ⟨(w2.heap.size), [.bool r1_m, .slice r1_0 r1_n r1_c]⟩, ⟨(w.heap.size), [.bool false, .slice none 0 0, .bool false, .slice none 0 0]⟩] _) := Lib.hid (Sx.set [] [⟨(w2.heap.size), [.bool r1_m, .slice r1_0 r1_n r1_c]⟩, ⟨(w.heap.size), [.bool false, .slice none 0 0, .bool false, .slice none 0 0]⟩] (Sx.set [] [⟨(w2.heap.size), [.bool r1_m, .slice r1_0 r1_n r1_c]⟩, ⟨(w.heap.size), [.bool false, .slice none 0 0, .bool false, .slice none 0 0]⟩] (Sx.set [] [⟨(w2.heap.size), [.bool r1_m, .slice r1_0 r1_n r1_c]⟩, ⟨(w.heap.size), [.bool false, .slice none 0 0, .bool false, .slice none 0 0]⟩] (Sx.set [] [⟨(w2.heap.size), [.bool r1_m, .slice r1_0 r1_n r1_c]⟩, ⟨(w.heap.size), [.bool false, .slice none 0 0, .bool false, .slice none 0 0]⟩] S7.out 0 (.bool r1_m)) 1 (.slice r1_0 r1_n r1_c)) 2 (.bool r3_m)) 3 (.slice r3_0 r3_n r3_c))
            clear S7
            refine hK.out _ _ (S8.out.b.t.c2) (fun h2 => ?_)
            clear hK K hH
            have hH := h2
            clear h2
            try simp only [nrm]
            refine anyH_world (fun w8 hW => ?_)
            rw [← hW] at S8 hH
            clear hW
            refine wpAnyH_done (by kernel_rfl) ?_ _
            clear hH
            go_wp2_with fail
            go_meet
            case rel => exact ⟨_, _, _, _, _, _, _, _, _, rfl, S8.out⟩
          · go_simp
            have S6 := Lib.hid (S5.out.var (w5.heap.size) [.bool false, .slice none 0 0, .bool false, .slice none 0 0] 26 (by simp))
            clear S5
            refine hK.out _ _ (S6.out.b.t.c2) (fun h2 => ?_)
            clear hK K hH
            have hH := h2
            clear h2
            try simp only [nrm]
            refine anyH_world (fun w6 hW => ?_)
            rw [← hW] at S6 hH
            clear hW
            refine step_one 2 rfl (by kernel_rfl) (fun K hK => ?_)
            go_simp
            refine (zint_any S6.out.n.zb.zx).mono ?_
            rintro e w7 ⟨r3_m, r3_0, r3_n, r3_c, rfl, hX, hB⟩
            have S7 := Lib.hid (((S6.out.step hB).cb (hX.cb (S6.out.n.zb.bd) (by omega)) rfl))
            clear S6 hX hB
            go_wp2_with fail
            refine hK.out _ _ (S7.out.b.t.c2) (fun h2 => ?_)
            clear hK K hH
            have hH := h2
            clear h2
            try simp only [nrm]
            refine step_on 3 rfl (by kernel_rfl) (fun _ _ _ h => h) (by rfl) hH (by intro w hS; go_simp <;> with_reducible rfl) ?_
            try simp only [nrm]
            refine step_one 5 rfl (by kernel_rfl) (fun K hK => ?_)
            obtain ⟨c_b8_0, c_b8_1, c_b8_2, c_b8_3⟩ := S7.out.b.c4
            obtain ⟨f_b8_0, f_b8_1, f_b8_2, f_b8_3⟩ := S7.out.b.f4
            go_simp
            clear c_b8_0 c_b8_1 c_b8_2 c_b8_3 f_b8_0 f_b8_1 f_b8_2 f_b8_3
            have S8 : Hid (Sx w _ [⟨(w5.heap.size), [.bool r1_m, .slice r1_0 r1_n r1_c, .bool r3_m, .slice r3_0 r3_n r3_c]⟩, ⟨(w2.heap.size), [.bool r1_m, .slice r1_0 r1_n r1_c]⟩, ⟨(w.heap.size), [.bool false, .slice none 0 0, .bool false, .slice none 0 0]⟩] _) := Lib.hid (Sx.set [] [⟨(w2.heap.size), [.bool r1_m, .slice r1_0 r1_n r1_c]⟩, ⟨(w.heap.size), [.bool false, .slice none 0 0, .bool false, .slice none 0 0]⟩] (Sx.set [] [⟨(w2.heap.size), [.bool r1_m, .slice r1_0 r1_n r1_c]⟩, ⟨(w.heap.size), [.bool false, .slice none 0 0, .bool false, .slice none 0 0]⟩] (Sx.set [] [⟨(w2.heap.size), [.bool r1_m, .slice r1_0 r1_n r1_c]⟩, ⟨(w.heap.size), [.bool false, .slice none 0 0, .bool false, .slice none 0 0]⟩] (Sx.set [] [⟨(w2.heap.size), [.bool r1_m, .slice r1_0 r1_n r1_c]⟩, ⟨(w.heap.size), [.bool false, .slice none 0 0, .bool false, .slice none 0 0]⟩] S7.out 0 (.bool r1_m)) 1 (.slice r1_0 r1_n r1_c)) 2 (.bool r3_m)) 3 (.slice r3_0 r3_n r3_c))
            clear S7
            refine hK.out _ _ (S8.out.b.t.c2) (fun h2 => ?_)
            clear hK K hH
            have hH := h2
            clear h2
            try simp only [nrm]
            refine anyH_world (fun w8 hW => ?_)
            rw [← hW] at S8 hH
            clear hW
            refine wpAnyH_done (by kernel_rfl) ?_ _
            clear hH
            go_wp2_with fail
            go_meet
            case rel => exact ⟨_, _, _, _, _, _, _, _, _, rfl, S8.out⟩
        · go_simp
          have S5 := Lib.hid (S4.out.var (w4.heap.size) [.bool false, .slice none 0 0, .bool false, .slice none 0 0] 26 (by simp))
          clear S4
          refine hK.out _ _ (S5.out.b.t.c2) (fun h2 => ?_)
          clear hK K hH
          have hH := h2
          clear h2
          try simp only [nrm]
          refine anyH_world (fun w5 hW => ?_)
          rw [← hW] at S5 hH
          clear hW
          refine step_one 1 rfl (by kernel_rfl) (fun K hK => ?_)
          go_simp
          refine (zsmall_any (1) _ ⟨by omega, by omega⟩).mono ?_
          rintro e w6 ⟨r2_m, r2_0, r2_n, r2_c, rfl, hX, hB⟩
          have S6 := Lib.hid (((S5.out.step hB).zb (hX.zb (show Bd (1 : Int) 1 by unfold Bd; decide) (by omega)) rfl))
          clear S5 hX hB
          go_wp2_with fail
          refine hK.out _ _ (S6.out.b.t.c2) (fun h2 => ?_)
          clear hK K hH
          have hH := h2
          clear h2
          try simp only [nrm]
          refine step_one 2 rfl (by kernel_rfl) (fun K hK => ?_)
          go_simp
          refine (zint_any S6.out.n.zb.zx).mono ?_
          rintro e w7 ⟨r3_m, r3_0, r3_n, r3_c, rfl, hX, hB⟩
          have S7 := Lib.hid (((S6.out.step hB).cb (hX.cb (S6.out.n.zb.bd) (by omega)) rfl))
          clear S6 hX hB
          go_wp2_with fail
          refine hK.out _ _ (S7.out.b.t.c2) (fun h2 => ?_)
          clear hK K hH
          have hH := h2
          clear h2
          try simp only [nrm]
          refine step_on 3 rfl (by kernel_rfl) (fun _ _ _ h => h) (by rfl) hH (by intro w hS; go_simp <;> with_reducible rfl) ?_
          try simp only [nrm]
          refine step_one 5 rfl (by kernel_rfl) (fun K hK => ?_)
          obtain ⟨c_b8_0, c_b8_1, c_b8_2, c_b8_3⟩ := S7.out.b.c4
          obtain ⟨f_b8_0, f_b8_1, f_b8_2, f_b8_3⟩ := S7.out.b.f4
          go_simp
          clear c_b8_0 c_b8_1 c_b8_2 c_b8_3 f_b8_0 f_b8_1 f_b8_2 f_b8_3
          have S8 : Hid (Sx w _ [⟨(w4.heap.size), [.bool r1_m, .slice r1_0 r1_n r1_c, .bool r3_m, .slice r3_0 r3_n r3_c]⟩, ⟨(w2.heap.size), [.bool r1_m, .slice r1_0 r1_n r1_c]⟩, ⟨(w.heap.size), [.bool false, .slice none 0 0, .bool false, .slice none 0 0]⟩] _) := Lib.hid (Sx.set [] [⟨(w2.heap.size), [.bool r1_m, .slice r1_0 r1_n r1_c]⟩, ⟨(w.heap.size), [.bool false, .slice none 0 0, .bool false, .slice none 0 0]⟩] (Sx.set [] [⟨(w2.heap.size), [.bool r1_m, .slice r1_0 r1_n r1_c]⟩, ⟨(w.heap.size), [.bool false, .slice none 0 0, .bool false, .slice none 0 0]⟩] (Sx.set [] [⟨(w2.heap.size), [.bool r1_m, .slice r1_0 r1_n r1_c]⟩, ⟨(w.heap.size), [.bool false, .slice none 0 0, .bool false, .slice none 0 0]⟩] (Sx.set [] [⟨(w2.heap.size), [.bool r1_m, .slice r1_0 r1_n r1_c]⟩, ⟨(w.heap.size), [.bool false, .slice none 0 0, .bool false, .slice none 0 0]⟩] S7.out 0 (.bool r1_m)) 1 (.slice r1_0 r1_n r1_c)) 2 (.bool r3_m)) 3 (.slice r3_0 r3_n r3_c))
          clear S7
          refine hK.out _ _ (S8.out.b.t.c2) (fun h2 => ?_)
          clear hK K hH
          have hH := h2
          clear h2
          try simp only [nrm]
          refine anyH_world (fun w8 hW => ?_)
          rw [← hW] at S8 hH
          clear hW
          refine wpAnyH_done (by kernel_rfl) ?_ _
          clear hH
          go_wp2_with fail
          go_meet
          case rel => exact ⟨_, _, _, _, _, _, _, _, _, rfl, S8.out⟩
      case rest =>
      clear S3
      obtain ⟨qb8, r3_m, r3_0, r3_n, r3_c, r2_m, r2_0, r2_n, r2_c, rfl, S4⟩ := hcut
      obtain ⟨w9, hW⟩ : ∃ w9, w9 = wc := ⟨_, rfl⟩
      rw [← hW] at S4 ⊢
      clear hW
      go_wp2_with fail
      refine (rparse_as_bad _ (HSB.out) (NB.out) (LB.out)).mono ?_
      rintro e w10 ⟨rfl, hB⟩
      have S5 := Lib.hid ((S4.out.step hB))
      clear S4 hB
      go_upto_region 15 with (fail)
      have S6 := Lib.hid (S5.out.var (w10.heap.size) [.bool false, .slice none 0 0] 24 (by simp))
      clear S5
      refine wp_world (fun w11 hW => ?_)
      rw [← hW] at S6
      clear hW
      obtain ⟨c_b2_0, c_b2_1, c_b2_2, c_b2_3⟩ := S6.out.b.t.t.t.c4
      obtain ⟨f_b2_0, f_b2_1, f_b2_2, f_b2_3⟩ := S6.out.b.t.t.t.f4
      go_wp2_with fail
      have S7 : Hid (Sx w _ [⟨(w10.heap.size), [.bool false, .slice none 0 0]⟩, ⟨qb8, [.bool r1_m, .slice r1_0 r1_n r1_c, .bool r3_m, .slice r3_0 r3_n r3_c]⟩, ⟨(w2.heap.size), [.bool r1_m, .slice r1_0 r1_n r1_c]⟩, ⟨(w.heap.size), [.bool false, .slice none 0 0, .bool false, .slice none 0 0]⟩] _) := Lib.hid (Sx.set [⟨(w10.heap.size), [.bool false, .slice none 0 0]⟩, ⟨qb8, [.bool r1_m, .slice r1_0 r1_n r1_c, .bool r3_m, .slice r3_0 r3_n r3_c]⟩, ⟨(w2.heap.size), [.bool r1_m, .slice r1_0 r1_n r1_c]⟩] [] (Sx.set [⟨(w10.heap.size), [.bool false, .slice none 0 0]⟩, ⟨qb8, [.bool r1_m, .slice r1_0 r1_n r1_c, .bool r3_m, .slice r3_0 r3_n r3_c]⟩, ⟨(w2.heap.size), [.bool r1_m, .slice r1_0 r1_n r1_c]⟩] [] (Sx.set [⟨(w10.heap.size), [.bool false, .slice none 0 0]⟩, ⟨qb8, [.bool r1_m, .slice r1_0 r1_n r1_c, .bool r3_m, .slice r3_0 r3_n r3_c]⟩, ⟨(w2.heap.size), [.bool r1_m, .slice r1_0 r1_n r1_c]⟩] [] (Sx.set [⟨(w10.heap.size), [.bool false, .slice none 0 0]⟩, ⟨qb8, [.bool r1_m, .slice r1_0 r1_n r1_c, .bool r3_m, .slice r3_0 r3_n r3_c]⟩, ⟨(w2.heap.size), [.bool r1_m, .slice r1_0 r1_n r1_c]⟩] [] S6.out 0 (.bool false)) 1 (.slice none 0 0)) 2 (.bool false)) 3 (.slice none 0 0))
      clear S6
      refine bodyPost_ret (v := .tuple #[.agg #[.bool false, .slice none 0 0, .bool false, .slice none 0 0], .int .i64 4]) (by simp [results, Tryz.results36, go_sem, c_b2_0, c_b2_1, c_b2_2, c_b2_3]) rfl ?_
      exact ⟨rfl, S7.out.h⟩

set_option maxHeartbeats 1000000 in
set_option maxRecDepth 100000 in
theorem qp_m1 {s : ByteArray} {A B : List UInt8} {w : World} (hs : s.size ≤ 20000) {p : Nat} (hp : p < s.size) (hno : ∀ k, k < p → ∀ h : k < s.size, ((s[k].toNat : Int) == 47) = false) (hat : ((s[p].toNat : Int) == 47) = true) (la : (s.extract 0 p).data.toList = A) (sa : (s.extract 0 p).size ≤ 20000) (BA : Hid (A.length ≤ 20000)) (na : numB A = true) (lb : (s.extract (p + 1) s.size).data.toList = B) (sb : (s.extract (p + 1) s.size).size ≤ 20000) (BB : Hid (B.length ≤ 20000)) (nb : numB B = true) (hp0 : ¬ 0 < numZ B) :
    Calls Tryz.prog 36 #[.string s] w (RetB (.tuple #[.agg #[.bool false, .slice none 0 0, .bool false, .slice none 0 0], .int .i64 4]) w) := by
  have HSA := Lib.hid sa
  have LA := Lib.hid la
  have NA := Lib.hid na
  clear sa la na
  have c1 : (0 : Int) ≤ ↑p := by omega
  have c2 : (↑p : Int) ≤ ↑s.size := by omega
  have c3 : (0 : Int) ≤ ↑p + 1 := by omega
  have c4 : (↑p + 1 : Int) ≤ ↑s.size := by omega
  have HSB := Lib.hid sb
  have LB := Lib.hid lb
  have NB := Lib.hid nb
  clear sb lb nb
  obtain ⟨g, hg⟩ : ∃ g, (numZ B).sign = g := ⟨_, rfl⟩
  have e1 : decide (g ≤ 0) = true := by rw [← hg]; have := sign_cases (numZ B); simp; omega
  have HG := Lib.hid hg
  clear hg
  go_enter Tryz.func36, Tryz.ntmps36
  have S0 := Lib.hid (Sx.start (w := w) (N := []) trivial)
  have S1 := Lib.hid (S0.out.var (w.heap.size) [.bool false, .slice none 0 0, .bool false, .slice none 0 0] 26 (by simp))
  clear S0
  go_upto_region 1 with (fail)
  refine wp_world (fun w1 hW => ?_)
  rw [← hW] at S1
  clear hW
  go_wp2_with fail
  go_loop [5] (fun i => ∃ k : Nat, k ≤ p ∧ i = .int .i64 (k : Int)) (fun i => p - (intOf i).toNat)
  case atStart => exact ⟨0, Nat.zero_le _, rfl⟩
  case round =>
    obtain ⟨k, hk, rfl⟩ := hrel
    by_cases hlt : k < p
    · have hks : k < s.size := by omega
      have h47 : ((s[k].toNat : Int) == 47) = false := hno k hlt hks
      go_wp2_with fail
      go_round
      case rel => exact ⟨k + 1, by omega, by go_num⟩
      case measure => simp [intOf]; omega
    · obtain rfl : k = p := by omega
      clear hlt hk
      have h47 : ((s[k].toNat : Int) == 47) = true := hat
      go_wp2_with fail
      refine (rparse_as _ (HSA.out) (NA.out) (LA.out)).mono ?_
      rintro e w2 ⟨r1_m, r1_0, r1_n, r1_c, rfl, hX, hB⟩
      have S2 := Lib.hid (((S1.out.step hB).cb (hX.cb ((numZ_bd (NA.out)).mono (BA.out)) (by omega)) rfl))
      clear S1 hX hB
      go_upto_region 10 with (fail)
      have S3 := Lib.hid (S2.out.var (w2.heap.size) [.bool r1_m, .slice r1_0 r1_n r1_c] 24 (by simp))
      clear S2
      refine wp_world (fun w3 hW => ?_)
      rw [← hW] at S3
      clear hW
      go_wp2_with fail
      go_cut [8] from 38 to 42 (fun sl0 w9 => ∃ (qb8 : Nat) (r3_m : Bool) (r3_0 : Option Addr) (r3_n : Nat) (r3_c : Nat) (r2_m : Bool) (r2_0 : Option Addr) (r2_n : Nat) (r2_c : Nat), sl0 = .pointer (some ⟨qb8, 0, none⟩) ∧ Hid (Sx w w9 [⟨qb8, [.bool r1_m, .slice r1_0 r1_n r1_c, .bool r3_m, .slice r3_0 r3_n r3_c]⟩, ⟨(w2.heap.size), [.bool r1_m, .slice r1_0 r1_n r1_c]⟩, ⟨(w.heap.size), [.bool false, .slice none 0 0, .bool false, .slice none 0 0]⟩] [.cb r3_m r3_0 r3_n r3_c (1 : Int) 1, .zb r2_m r2_0 r2_n r2_c (1 : Int) 1, .cb r1_m r1_0 r1_n r1_c (numZ A) 20000]))
      case first =>
        have S4 := Lib.hid (S3.out.drew)
        clear S3
        refine wp_region_held_drew (S := fun w' => (w'.cell? ⟨(w2.heap.size), 0, none⟩ = some (.bool r1_m) ∧ w'.cell? ⟨(w2.heap.size), 1, none⟩ = some (.slice r1_0 r1_n r1_c))) (by kernel_rfl) ((S4.out.b.c2)) (fun hH => ?_)
        refine anyH_world (fun w4 hW => ?_)
        rw [← hW] at S4 hH
        clear hW
        refine step_on 0 rfl (by kernel_rfl) (fun _ _ _ h => h) (by rfl) hH (by intro w hS; go_simp <;> with_reducible rfl) ?_
        try simp only [nrm]
        refine wpAnyH_ready (rs := [1, 4]) (by kernel_rfl) (by simp) (ready_cons rfl (fun K hK => ?_) (ready_cons rfl (fun K hK => ?_) (AllReadyH.nil)))
        · go_simp
          refine (zsmall_any (1) _ ⟨by omega, by omega⟩).mono ?_
          rintro e w5 ⟨r2_m, r2_0, r2_n, r2_c, rfl, hX, hB⟩
          have S5 := Lib.hid (((S4.out.step hB).zb (hX.zb (show Bd (1 : Int) 1 by unfold Bd; decide) (by omega)) rfl))
          clear S4 hX hB
          go_wp2_with fail
          refine hK.out _ _ (S5.out.b.c2) (fun h2 => ?_)
          clear hK K hH
          have hH := h2
          clear h2
          try simp only [nrm]
          refine wpAnyH_ready (rs := [2, 4]) (by kernel_rfl) (by simp) (ready_cons rfl (fun K hK => ?_) (ready_cons rfl (fun K hK => ?_) (AllReadyH.nil)))
          · go_simp
            refine (zint_any S5.out.n.zb.zx).mono ?_
            rintro e w6 ⟨r3_m, r3_0, r3_n, r3_c, rfl, hX, hB⟩
            have S6 := Lib.hid (((S5.out.step hB).cb (hX.cb (S5.out.n.zb.bd) (by omega)) rfl))
            clear S5 hX hB
            go_wp2_with fail
            refine hK.out _ _ (S6.out.b.c2) (fun h2 => ?_)
            clear hK K hH
            have hH := h2
            clear h2
            try simp only [nrm]
            refine step_on 3 rfl (by kernel_rfl) (fun _ _ _ h => h) (by rfl) hH (by intro w hS; go_simp <;> with_reducible rfl) ?_
            try simp only [nrm]
            refine step_one 4 rfl (by kernel_rfl) (fun K hK => ?_)
            go_simp
            have S7 := Lib.hid (S6.out.var (w6.heap.size) [.bool false, .slice none 0 0, .bool false, .slice none 0 0] 26 (by simp))
            clear S6
            refine hK.out _ _ (S7.out.b.t.c2) (fun h2 => ?_)
            clear hK K hH
            have hH := h2
            clear h2
            try simp only [nrm]
            refine anyH_world (fun w7 hW => ?_)
            rw [← hW] at S7 hH
            clear hW
            refine step_one 5 rfl (by kernel_rfl) (fun K hK => ?_)
            obtain ⟨c_b8_0, c_b8_1, c_b8_2, c_b8_3⟩ := S7.out.b.c4
            obtain ⟨f_b8_0, f_b8_1, f_b8_2, f_b8_3⟩ := S7.out.b.f4
            go_simp
            clear c_b8_0 c_b8_1 c_b8_2 c_b8_3 f_b8_0 f_b8_1 f_b8_2 f_b8_3
            have S8 : Hid (Sx w _ [⟨(w6.heap.size), [.bool r1_m, .slice r1_0 r1_n r1_c, .bool r3_m, .slice r3_0 r3_n r3_c]⟩, ⟨(w2.heap.size), [.bool r1_m, .slice r1_0 r1_n r1_c]⟩, ⟨(w.heap.size), [.bool false, .slice none 0 0, .bool false, .slice none 0 0]⟩] _) := Lib.hid (Sx.set [] [⟨(w2.heap.size), [.bool r1_m, .slice r1_0 r1_n r1_c]⟩, ⟨(w.heap.size), [.bool false, .slice none 0 0, .bool false, .slice none 0 0]⟩] (Sx.set [] [⟨(w2.heap.size), [.bool r1_m, .slice r1_0 r1_n r1_c]⟩, ⟨(w.heap.size), [.bool false, .slice none 0 0, .bool false, .slice none 0 0]⟩] (Sx.set [] [⟨(w2.heap.size), [.bool r1_m, .slice r1_0 r1_n r1_c]⟩, ⟨(w.heap.size), [.bool false, .slice none 0 0, .bool false, .slice none 0 0]⟩] (Sx.set [] [⟨(w2.heap.size), [.bool r1_m, .slice r1_0 r1_n r1_c]⟩, ⟨(w.heap.size), [.bool false, .slice none 0 0, .bool false, .slice none 0 0]⟩] S7.out 0 (.bool r1_m)) 1 (.slice r1_0 r1_n r1_c)) 2 (.bool r3_m)) 3 (.slice r3_0 r3_n r3_c))
            clear S7
            refine hK.out _ _ (S8.out.b.t.c2) (fun h2 => ?_)
            clear hK K hH
            have hH := h2
            clear h2
            try simp only [nrm]
            refine anyH_world (fun w8 hW => ?_)
            rw [← hW] at S8 hH
            clear hW
            refine wpAnyH_done (by kernel_rfl) ?_ _
            clear hH
            go_wp2_with fail
            go_meet
            case rel => exact ⟨_, _, _, _, _, _, _, _, _, rfl, S8.out⟩
          · go_simp
            have S6 := Lib.hid (S5.out.var (w5.heap.size) [.bool false, .slice none 0 0, .bool false, .slice none 0 0] 26 (by simp))
            clear S5
            refine hK.out _ _ (S6.out.b.t.c2) (fun h2 => ?_)
            clear hK K hH
            have hH := h2
            clear h2
            try simp only [nrm]
            refine anyH_world (fun w6 hW => ?_)
            rw [← hW] at S6 hH
            clear hW
            refine step_one 2 rfl (by kernel_rfl) (fun K hK => ?_)
            go_simp
            refine (zint_any S6.out.n.zb.zx).mono ?_
            rintro e w7 ⟨r3_m, r3_0, r3_n, r3_c, rfl, hX, hB⟩
            have S7 := Lib.hid (((S6.out.step hB).cb (hX.cb (S6.out.n.zb.bd) (by omega)) rfl))
            clear S6 hX hB
            go_wp2_with fail
            refine hK.out _ _ (S7.out.b.t.c2) (fun h2 => ?_)
            clear hK K hH
            have hH := h2
            clear h2
            try simp only [nrm]
            refine step_on 3 rfl (by kernel_rfl) (fun _ _ _ h => h) (by rfl) hH (by intro w hS; go_simp <;> with_reducible rfl) ?_
            try simp only [nrm]
            refine step_one 5 rfl (by kernel_rfl) (fun K hK => ?_)
            obtain ⟨c_b8_0, c_b8_1, c_b8_2, c_b8_3⟩ := S7.out.b.c4
            obtain ⟨f_b8_0, f_b8_1, f_b8_2, f_b8_3⟩ := S7.out.b.f4
            go_simp
            clear c_b8_0 c_b8_1 c_b8_2 c_b8_3 f_b8_0 f_b8_1 f_b8_2 f_b8_3
            have S8 : Hid (Sx w _ [⟨(w5.heap.size), [.bool r1_m, .slice r1_0 r1_n r1_c, .bool r3_m, .slice r3_0 r3_n r3_c]⟩, ⟨(w2.heap.size), [.bool r1_m, .slice r1_0 r1_n r1_c]⟩, ⟨(w.heap.size), [.bool false, .slice none 0 0, .bool false, .slice none 0 0]⟩] _) := Lib.hid (Sx.set [] [⟨(w2.heap.size), [.bool r1_m, .slice r1_0 r1_n r1_c]⟩, ⟨(w.heap.size), [.bool false, .slice none 0 0, .bool false, .slice none 0 0]⟩] (Sx.set [] [⟨(w2.heap.size), [.bool r1_m, .slice r1_0 r1_n r1_c]⟩, ⟨(w.heap.size), [.bool false, .slice none 0 0, .bool false, .slice none 0 0]⟩] (Sx.set [] [⟨(w2.heap.size), [.bool r1_m, .slice r1_0 r1_n r1_c]⟩, ⟨(w.heap.size), [.bool false, .slice none 0 0, .bool false, .slice none 0 0]⟩] (Sx.set [] [⟨(w2.heap.size), [.bool r1_m, .slice r1_0 r1_n r1_c]⟩, ⟨(w.heap.size), [.bool false, .slice none 0 0, .bool false, .slice none 0 0]⟩] S7.out 0 (.bool r1_m)) 1 (.slice r1_0 r1_n r1_c)) 2 (.bool r3_m)) 3 (.slice r3_0 r3_n r3_c))
            clear S7
            refine hK.out _ _ (S8.out.b.t.c2) (fun h2 => ?_)
            clear hK K hH
            have hH := h2
            clear h2
            try simp only [nrm]
            refine anyH_world (fun w8 hW => ?_)
            rw [← hW] at S8 hH
            clear hW
            refine wpAnyH_done (by kernel_rfl) ?_ _
            clear hH
            go_wp2_with fail
            go_meet
            case rel => exact ⟨_, _, _, _, _, _, _, _, _, rfl, S8.out⟩
        · go_simp
          have S5 := Lib.hid (S4.out.var (w4.heap.size) [.bool false, .slice none 0 0, .bool false, .slice none 0 0] 26 (by simp))
          clear S4
          refine hK.out _ _ (S5.out.b.t.c2) (fun h2 => ?_)
          clear hK K hH
          have hH := h2
          clear h2
          try simp only [nrm]
          refine anyH_world (fun w5 hW => ?_)
          rw [← hW] at S5 hH
          clear hW
          refine step_one 1 rfl (by kernel_rfl) (fun K hK => ?_)
          go_simp
          refine (zsmall_any (1) _ ⟨by omega, by omega⟩).mono ?_
          rintro e w6 ⟨r2_m, r2_0, r2_n, r2_c, rfl, hX, hB⟩
          have S6 := Lib.hid (((S5.out.step hB).zb (hX.zb (show Bd (1 : Int) 1 by unfold Bd; decide) (by omega)) rfl))
          clear S5 hX hB
          go_wp2_with fail
          refine hK.out _ _ (S6.out.b.t.c2) (fun h2 => ?_)
          clear hK K hH
          have hH := h2
          clear h2
          try simp only [nrm]
          refine step_one 2 rfl (by kernel_rfl) (fun K hK => ?_)
          go_simp
          refine (zint_any S6.out.n.zb.zx).mono ?_
          rintro e w7 ⟨r3_m, r3_0, r3_n, r3_c, rfl, hX, hB⟩
          have S7 := Lib.hid (((S6.out.step hB).cb (hX.cb (S6.out.n.zb.bd) (by omega)) rfl))
          clear S6 hX hB
          go_wp2_with fail
          refine hK.out _ _ (S7.out.b.t.c2) (fun h2 => ?_)
          clear hK K hH
          have hH := h2
          clear h2
          try simp only [nrm]
          refine step_on 3 rfl (by kernel_rfl) (fun _ _ _ h => h) (by rfl) hH (by intro w hS; go_simp <;> with_reducible rfl) ?_
          try simp only [nrm]
          refine step_one 5 rfl (by kernel_rfl) (fun K hK => ?_)
          obtain ⟨c_b8_0, c_b8_1, c_b8_2, c_b8_3⟩ := S7.out.b.c4
          obtain ⟨f_b8_0, f_b8_1, f_b8_2, f_b8_3⟩ := S7.out.b.f4
          go_simp
          clear c_b8_0 c_b8_1 c_b8_2 c_b8_3 f_b8_0 f_b8_1 f_b8_2 f_b8_3
          have S8 : Hid (Sx w _ [⟨(w4.heap.size), [.bool r1_m, .slice r1_0 r1_n r1_c, .bool r3_m, .slice r3_0 r3_n r3_c]⟩, ⟨(w2.heap.size), [.bool r1_m, .slice r1_0 r1_n r1_c]⟩, ⟨(w.heap.size), [.bool false, .slice none 0 0, .bool false, .slice none 0 0]⟩] _) := Lib.hid (Sx.set [] [⟨(w2.heap.size), [.bool r1_m, .slice r1_0 r1_n r1_c]⟩, ⟨(w.heap.size), [.bool false, .slice none 0 0, .bool false, .slice none 0 0]⟩] (Sx.set [] [⟨(w2.heap.size), [.bool r1_m, .slice r1_0 r1_n r1_c]⟩, ⟨(w.heap.size), [.bool false, .slice none 0 0, .bool false, .slice none 0 0]⟩] (Sx.set [] [⟨(w2.heap.size), [.bool r1_m, .slice r1_0 r1_n r1_c]⟩, ⟨(w.heap.size), [.bool false, .slice none 0 0, .bool false, .slice none 0 0]⟩] (Sx.set [] [⟨(w2.heap.size), [.bool r1_m, .slice r1_0 r1_n r1_c]⟩, ⟨(w.heap.size), [.bool false, .slice none 0 0, .bool false, .slice none 0 0]⟩] S7.out 0 (.bool r1_m)) 1 (.slice r1_0 r1_n r1_c)) 2 (.bool r3_m)) 3 (.slice r3_0 r3_n r3_c))
          clear S7
          refine hK.out _ _ (S8.out.b.t.c2) (fun h2 => ?_)
          clear hK K hH
          have hH := h2
          clear h2
          try simp only [nrm]
          refine anyH_world (fun w8 hW => ?_)
          rw [← hW] at S8 hH
          clear hW
          refine wpAnyH_done (by kernel_rfl) ?_ _
          clear hH
          go_wp2_with fail
          go_meet
          case rel => exact ⟨_, _, _, _, _, _, _, _, _, rfl, S8.out⟩
      case rest =>
      clear S3
      obtain ⟨qb8, r3_m, r3_0, r3_n, r3_c, r2_m, r2_0, r2_n, r2_c, rfl, S4⟩ := hcut
      obtain ⟨w9, hW⟩ : ∃ w9, w9 = wc := ⟨_, rfl⟩
      rw [← hW] at S4 ⊢
      clear hW
      go_wp2_with fail
      refine (rparse_as _ (HSB.out) (NB.out) (LB.out)).mono ?_
      rintro e w10 ⟨r4_m, r4_0, r4_n, r4_c, rfl, hX, hB⟩
      have S5 := Lib.hid (((S4.out.step hB).cb (hX.cb ((numZ_bd (NB.out)).mono (BB.out)) (by omega)) rfl))
      clear S4 hX hB
      go_upto_region 15 with (fail)
      have S6 := Lib.hid (S5.out.var (w10.heap.size) [.bool r4_m, .slice r4_0 r4_n r4_c] 24 (by simp))
      clear S5
      refine wp_world (fun w11 hW => ?_)
      rw [← hW] at S6
      clear hW
      obtain ⟨c_b9_0, c_b9_1⟩ := S6.out.b.c2
      go_wp2_with fail
      clear c_b9_0 c_b9_1
      refine (zof_any S6.out.n.cb.cx.nx).mono ?_
      rintro e w12 ⟨r5_m, r5_0, r5_n, r5_c, rfl, hX, hB⟩
      have S7 := Lib.hid (((S6.out.step hB).zb (hX.zb (S6.out.n.cb.bd) (by omega)) rfl))
      clear S6 hX hB
      go_wp2_with fail
      refine (zsign_is (g) S7.out.n.zb.zx (HG.out)).mono ?_
      rintro e w13 ⟨rfl, hB⟩
      have S8 := Lib.hid ((S7.out.step hB))
      clear S7 hB
      obtain ⟨c_b2_0, c_b2_1, c_b2_2, c_b2_3⟩ := S8.out.b.t.t.t.c4
      obtain ⟨f_b2_0, f_b2_1, f_b2_2, f_b2_3⟩ := S8.out.b.t.t.t.f4
      go_wp2_with fail
      have S9 : Hid (Sx w _ [⟨(w10.heap.size), [.bool r4_m, .slice r4_0 r4_n r4_c]⟩, ⟨qb8, [.bool r1_m, .slice r1_0 r1_n r1_c, .bool r3_m, .slice r3_0 r3_n r3_c]⟩, ⟨(w2.heap.size), [.bool r1_m, .slice r1_0 r1_n r1_c]⟩, ⟨(w.heap.size), [.bool false, .slice none 0 0, .bool false, .slice none 0 0]⟩] _) := Lib.hid (Sx.set [⟨(w10.heap.size), [.bool r4_m, .slice r4_0 r4_n r4_c]⟩, ⟨qb8, [.bool r1_m, .slice r1_0 r1_n r1_c, .bool r3_m, .slice r3_0 r3_n r3_c]⟩, ⟨(w2.heap.size), [.bool r1_m, .slice r1_0 r1_n r1_c]⟩] [] (Sx.set [⟨(w10.heap.size), [.bool r4_m, .slice r4_0 r4_n r4_c]⟩, ⟨qb8, [.bool r1_m, .slice r1_0 r1_n r1_c, .bool r3_m, .slice r3_0 r3_n r3_c]⟩, ⟨(w2.heap.size), [.bool r1_m, .slice r1_0 r1_n r1_c]⟩] [] (Sx.set [⟨(w10.heap.size), [.bool r4_m, .slice r4_0 r4_n r4_c]⟩, ⟨qb8, [.bool r1_m, .slice r1_0 r1_n r1_c, .bool r3_m, .slice r3_0 r3_n r3_c]⟩, ⟨(w2.heap.size), [.bool r1_m, .slice r1_0 r1_n r1_c]⟩] [] (Sx.set [⟨(w10.heap.size), [.bool r4_m, .slice r4_0 r4_n r4_c]⟩, ⟨qb8, [.bool r1_m, .slice r1_0 r1_n r1_c, .bool r3_m, .slice r3_0 r3_n r3_c]⟩, ⟨(w2.heap.size), [.bool r1_m, .slice r1_0 r1_n r1_c]⟩] [] S8.out 0 (.bool false)) 1 (.slice none 0 0)) 2 (.bool false)) 3 (.slice none 0 0))
      clear S8
      refine bodyPost_ret (v := .tuple #[.agg #[.bool false, .slice none 0 0, .bool false, .slice none 0 0], .int .i64 4]) (by simp [results, Tryz.results36, go_sem, c_b2_0, c_b2_1, c_b2_2, c_b2_3]) rfl ?_
      exact ⟨rfl, S9.out.h⟩

set_option maxHeartbeats 1000000 in
set_option maxRecDepth 100000 in
theorem qp_t1 {s : ByteArray} {A B : List UInt8} {w : World} (hs : s.size ≤ 20000) {p : Nat} (hp : p < s.size) (hno : ∀ k, k < p → ∀ h : k < s.size, ((s[k].toNat : Int) == 47) = false) (hat : ((s[p].toNat : Int) == 47) = true) (la : (s.extract 0 p).data.toList = A) (sa : (s.extract 0 p).size ≤ 20000) (BA : Hid (A.length ≤ 20000)) (na : numB A = true) (lb : (s.extract (p + 1) s.size).data.toList = B) (sb : (s.extract (p + 1) s.size).size ≤ 20000) (BB : Hid (B.length ≤ 20000)) (nb : numB B = true) (hp0 : 0 < numZ B) {q : Rat} (hv : qv (numZ A) (numZ B) = q) (he : ((ratS q).toList == s.toList) = false) :
    Calls Tryz.prog 36 #[.string s] w (RetB (.tuple #[.agg #[.bool false, .slice none 0 0, .bool false, .slice none 0 0], .int .i64 4]) w) := by
  have HSA := Lib.hid sa
  have LA := Lib.hid la
  have NA := Lib.hid na
  clear sa la na
  have c1 : (0 : Int) ≤ ↑p := by omega
  have c2 : (↑p : Int) ≤ ↑s.size := by omega
  have c3 : (0 : Int) ≤ ↑p + 1 := by omega
  have c4 : (↑p + 1 : Int) ≤ ↑s.size := by omega
  have HSB := Lib.hid sb
  have LB := Lib.hid lb
  have NB := Lib.hid nb
  clear sb lb nb
  obtain ⟨g, hg⟩ : ∃ g, (numZ B).sign = g := ⟨_, rfl⟩
  have e1 : decide (g ≤ 0) = false := by rw [← hg]; have := sign_cases (numZ B); simp; omega
  have HG := Lib.hid hg
  clear hg
  obtain ⟨t, ht⟩ : ∃ t : ByteArray, t = ratS q := ⟨_, rfl⟩
  have e2 : (t.toList == s.toList) = false := by rw [ht]; exact he
  have HT := Lib.hid ht
  have HV := Lib.hid hv
  clear ht he hv
  go_enter Tryz.func36, Tryz.ntmps36
  have S0 := Lib.hid (Sx.start (w := w) (N := []) trivial)
  have S1 := Lib.hid (S0.out.var (w.heap.size) [.bool false, .slice none 0 0, .bool false, .slice none 0 0] 26 (by simp))
  clear S0
  go_upto_region 1 with (fail)
  refine wp_world (fun w1 hW => ?_)
  rw [← hW] at S1
  clear hW
  go_wp2_with fail
  go_loop [5] (fun i => ∃ k : Nat, k ≤ p ∧ i = .int .i64 (k : Int)) (fun i => p - (intOf i).toNat)
  case atStart => exact ⟨0, Nat.zero_le _, rfl⟩
  case round =>
    obtain ⟨k, hk, rfl⟩ := hrel
    by_cases hlt : k < p
    · have hks : k < s.size := by omega
      have h47 : ((s[k].toNat : Int) == 47) = false := hno k hlt hks
      go_wp2_with fail
      go_round
      case rel => exact ⟨k + 1, by omega, by go_num⟩
      case measure => simp [intOf]; omega
    · obtain rfl : k = p := by omega
      clear hlt hk
      have h47 : ((s[k].toNat : Int) == 47) = true := hat
      go_wp2_with fail
      refine (rparse_as _ (HSA.out) (NA.out) (LA.out)).mono ?_
      rintro e w2 ⟨r1_m, r1_0, r1_n, r1_c, rfl, hX, hB⟩
      have S2 := Lib.hid (((S1.out.step hB).cb (hX.cb ((numZ_bd (NA.out)).mono (BA.out)) (by omega)) rfl))
      clear S1 hX hB
      go_upto_region 10 with (fail)
      have S3 := Lib.hid (S2.out.var (w2.heap.size) [.bool r1_m, .slice r1_0 r1_n r1_c] 24 (by simp))
      clear S2
      refine wp_world (fun w3 hW => ?_)
      rw [← hW] at S3
      clear hW
      go_wp2_with fail
      go_cut [8] from 38 to 42 (fun sl0 w9 => ∃ (qb8 : Nat) (r3_m : Bool) (r3_0 : Option Addr) (r3_n : Nat) (r3_c : Nat) (r2_m : Bool) (r2_0 : Option Addr) (r2_n : Nat) (r2_c : Nat), sl0 = .pointer (some ⟨qb8, 0, none⟩) ∧ Hid (Sx w w9 [⟨qb8, [.bool r1_m, .slice r1_0 r1_n r1_c, .bool r3_m, .slice r3_0 r3_n r3_c]⟩, ⟨(w2.heap.size), [.bool r1_m, .slice r1_0 r1_n r1_c]⟩, ⟨(w.heap.size), [.bool false, .slice none 0 0, .bool false, .slice none 0 0]⟩] [.cb r3_m r3_0 r3_n r3_c (1 : Int) 1, .zb r2_m r2_0 r2_n r2_c (1 : Int) 1, .cb r1_m r1_0 r1_n r1_c (numZ A) 20000]))
      case first =>
        have S4 := Lib.hid (S3.out.drew)
        clear S3
        refine wp_region_held_drew (S := fun w' => (w'.cell? ⟨(w2.heap.size), 0, none⟩ = some (.bool r1_m) ∧ w'.cell? ⟨(w2.heap.size), 1, none⟩ = some (.slice r1_0 r1_n r1_c))) (by kernel_rfl) ((S4.out.b.c2)) (fun hH => ?_)
        refine anyH_world (fun w4 hW => ?_)
        rw [← hW] at S4 hH
        clear hW
        refine step_on 0 rfl (by kernel_rfl) (fun _ _ _ h => h) (by rfl) hH (by intro w hS; go_simp <;> with_reducible rfl) ?_
        try simp only [nrm]
        refine wpAnyH_ready (rs := [1, 4]) (by kernel_rfl) (by simp) (ready_cons rfl (fun K hK => ?_) (ready_cons rfl (fun K hK => ?_) (AllReadyH.nil)))
        · go_simp
          refine (zsmall_any (1) _ ⟨by omega, by omega⟩).mono ?_
          rintro e w5 ⟨r2_m, r2_0, r2_n, r2_c, rfl, hX, hB⟩
          have S5 := Lib.hid (((S4.out.step hB).zb (hX.zb (show Bd (1 : Int) 1 by unfold Bd; decide) (by omega)) rfl))
          clear S4 hX hB
          go_wp2_with fail
          refine hK.out _ _ (S5.out.b.c2) (fun h2 => ?_)
          clear hK K hH
          have hH := h2
          clear h2
          try simp only [nrm]
          refine wpAnyH_ready (rs := [2, 4]) (by kernel_rfl) (by simp) (ready_cons rfl (fun K hK => ?_) (ready_cons rfl (fun K hK => ?_) (AllReadyH.nil)))
          · go_simp
            refine (zint_any S5.out.n.zb.zx).mono ?_
            rintro e w6 ⟨r3_m, r3_0, r3_n, r3_c, rfl, hX, hB⟩
            have S6 := Lib.hid (((S5.out.step hB).cb (hX.cb (S5.out.n.zb.bd) (by omega)) rfl))
            clear S5 hX hB
            go_wp2_with fail
            refine hK.out _ _ (S6.out.b.c2) (fun h2 => ?_)
            clear hK K hH
            have hH := h2
            clear h2
            try simp only [nrm]
            refine step_on 3 rfl (by kernel_rfl) (fun _ _ _ h => h) (by rfl) hH (by intro w hS; go_simp <;> with_reducible rfl) ?_
            try simp only [nrm]
            refine step_one 4 rfl (by kernel_rfl) (fun K hK => ?_)
            go_simp
            have S7 := Lib.hid (S6.out.var (w6.heap.size) [.bool false, .slice none 0 0, .bool false, .slice none 0 0] 26 (by simp))
            clear S6
            refine hK.out _ _ (S7.out.b.t.c2) (fun h2 => ?_)
            clear hK K hH
            have hH := h2
            clear h2
            try simp only [nrm]
            refine anyH_world (fun w7 hW => ?_)
            rw [← hW] at S7 hH
            clear hW
            refine step_one 5 rfl (by kernel_rfl) (fun K hK => ?_)
            obtain ⟨c_b8_0, c_b8_1, c_b8_2, c_b8_3⟩ := S7.out.b.c4
            obtain ⟨f_b8_0, f_b8_1, f_b8_2, f_b8_3⟩ := S7.out.b.f4
            go_simp
            clear c_b8_0 c_b8_1 c_b8_2 c_b8_3 f_b8_0 f_b8_1 f_b8_2 f_b8_3
            have S8 : Hid (Sx w _ [⟨(w6.heap.size), [.bool r1_m, .slice r1_0 r1_n r1_c, .bool r3_m, .slice r3_0 r3_n r3_c]⟩, ⟨(w2.heap.size), [.bool r1_m, .slice r1_0 r1_n r1_c]⟩, ⟨(w.heap.size), [.bool false, .slice none 0 0, .bool false, .slice none 0 0]⟩] _) := Lib.hid (Sx.set [] [⟨(w2.heap.size), [.bool r1_m, .slice r1_0 r1_n r1_c]⟩, ⟨(w.heap.size), [.bool false, .slice none 0 0, .bool false, .slice none 0 0]⟩] (Sx.set [] [⟨(w2.heap.size), [.bool r1_m, .slice r1_0 r1_n r1_c]⟩, ⟨(w.heap.size), [.bool false, .slice none 0 0, .bool false, .slice none 0 0]⟩] (Sx.set [] [⟨(w2.heap.size), [.bool r1_m, .slice r1_0 r1_n r1_c]⟩, ⟨(w.heap.size), [.bool false, .slice none 0 0, .bool false, .slice none 0 0]⟩] (Sx.set [] [⟨(w2.heap.size), [.bool r1_m, .slice r1_0 r1_n r1_c]⟩, ⟨(w.heap.size), [.bool false, .slice none 0 0, .bool false, .slice none 0 0]⟩] S7.out 0 (.bool r1_m)) 1 (.slice r1_0 r1_n r1_c)) 2 (.bool r3_m)) 3 (.slice r3_0 r3_n r3_c))
            clear S7
            refine hK.out _ _ (S8.out.b.t.c2) (fun h2 => ?_)
            clear hK K hH
            have hH := h2
            clear h2
            try simp only [nrm]
            refine anyH_world (fun w8 hW => ?_)
            rw [← hW] at S8 hH
            clear hW
            refine wpAnyH_done (by kernel_rfl) ?_ _
            clear hH
            go_wp2_with fail
            go_meet
            case rel => exact ⟨_, _, _, _, _, _, _, _, _, rfl, S8.out⟩
          · go_simp
            have S6 := Lib.hid (S5.out.var (w5.heap.size) [.bool false, .slice none 0 0, .bool false, .slice none 0 0] 26 (by simp))
            clear S5
            refine hK.out _ _ (S6.out.b.t.c2) (fun h2 => ?_)
            clear hK K hH
            have hH := h2
            clear h2
            try simp only [nrm]
            refine anyH_world (fun w6 hW => ?_)
            rw [← hW] at S6 hH
            clear hW
            refine step_one 2 rfl (by kernel_rfl) (fun K hK => ?_)
            go_simp
            refine (zint_any S6.out.n.zb.zx).mono ?_
            rintro e w7 ⟨r3_m, r3_0, r3_n, r3_c, rfl, hX, hB⟩
            have S7 := Lib.hid (((S6.out.step hB).cb (hX.cb (S6.out.n.zb.bd) (by omega)) rfl))
            clear S6 hX hB
            go_wp2_with fail
            refine hK.out _ _ (S7.out.b.t.c2) (fun h2 => ?_)
            clear hK K hH
            have hH := h2
            clear h2
            try simp only [nrm]
            refine step_on 3 rfl (by kernel_rfl) (fun _ _ _ h => h) (by rfl) hH (by intro w hS; go_simp <;> with_reducible rfl) ?_
            try simp only [nrm]
            refine step_one 5 rfl (by kernel_rfl) (fun K hK => ?_)
            obtain ⟨c_b8_0, c_b8_1, c_b8_2, c_b8_3⟩ := S7.out.b.c4
            obtain ⟨f_b8_0, f_b8_1, f_b8_2, f_b8_3⟩ := S7.out.b.f4
            go_simp
            clear c_b8_0 c_b8_1 c_b8_2 c_b8_3 f_b8_0 f_b8_1 f_b8_2 f_b8_3
            have S8 : Hid (Sx w _ [⟨(w5.heap.size), [.bool r1_m, .slice r1_0 r1_n r1_c, .bool r3_m, .slice r3_0 r3_n r3_c]⟩, ⟨(w2.heap.size), [.bool r1_m, .slice r1_0 r1_n r1_c]⟩, ⟨(w.heap.size), [.bool false, .slice none 0 0, .bool false, .slice none 0 0]⟩] _) := Lib.hid (Sx.set [] [⟨(w2.heap.size), [.bool r1_m, .slice r1_0 r1_n r1_c]⟩, ⟨(w.heap.size), [.bool false, .slice none 0 0, .bool false, .slice none 0 0]⟩] (Sx.set [] [⟨(w2.heap.size), [.bool r1_m, .slice r1_0 r1_n r1_c]⟩, ⟨(w.heap.size), [.bool false, .slice none 0 0, .bool false, .slice none 0 0]⟩] (Sx.set [] [⟨(w2.heap.size), [.bool r1_m, .slice r1_0 r1_n r1_c]⟩, ⟨(w.heap.size), [.bool false, .slice none 0 0, .bool false, .slice none 0 0]⟩] (Sx.set [] [⟨(w2.heap.size), [.bool r1_m, .slice r1_0 r1_n r1_c]⟩, ⟨(w.heap.size), [.bool false, .slice none 0 0, .bool false, .slice none 0 0]⟩] S7.out 0 (.bool r1_m)) 1 (.slice r1_0 r1_n r1_c)) 2 (.bool r3_m)) 3 (.slice r3_0 r3_n r3_c))
            clear S7
            refine hK.out _ _ (S8.out.b.t.c2) (fun h2 => ?_)
            clear hK K hH
            have hH := h2
            clear h2
            try simp only [nrm]
            refine anyH_world (fun w8 hW => ?_)
            rw [← hW] at S8 hH
            clear hW
            refine wpAnyH_done (by kernel_rfl) ?_ _
            clear hH
            go_wp2_with fail
            go_meet
            case rel => exact ⟨_, _, _, _, _, _, _, _, _, rfl, S8.out⟩
        · go_simp
          have S5 := Lib.hid (S4.out.var (w4.heap.size) [.bool false, .slice none 0 0, .bool false, .slice none 0 0] 26 (by simp))
          clear S4
          refine hK.out _ _ (S5.out.b.t.c2) (fun h2 => ?_)
          clear hK K hH
          have hH := h2
          clear h2
          try simp only [nrm]
          refine anyH_world (fun w5 hW => ?_)
          rw [← hW] at S5 hH
          clear hW
          refine step_one 1 rfl (by kernel_rfl) (fun K hK => ?_)
          go_simp
          refine (zsmall_any (1) _ ⟨by omega, by omega⟩).mono ?_
          rintro e w6 ⟨r2_m, r2_0, r2_n, r2_c, rfl, hX, hB⟩
          have S6 := Lib.hid (((S5.out.step hB).zb (hX.zb (show Bd (1 : Int) 1 by unfold Bd; decide) (by omega)) rfl))
          clear S5 hX hB
          go_wp2_with fail
          refine hK.out _ _ (S6.out.b.t.c2) (fun h2 => ?_)
          clear hK K hH
          have hH := h2
          clear h2
          try simp only [nrm]
          refine step_one 2 rfl (by kernel_rfl) (fun K hK => ?_)
          go_simp
          refine (zint_any S6.out.n.zb.zx).mono ?_
          rintro e w7 ⟨r3_m, r3_0, r3_n, r3_c, rfl, hX, hB⟩
          have S7 := Lib.hid (((S6.out.step hB).cb (hX.cb (S6.out.n.zb.bd) (by omega)) rfl))
          clear S6 hX hB
          go_wp2_with fail
          refine hK.out _ _ (S7.out.b.t.c2) (fun h2 => ?_)
          clear hK K hH
          have hH := h2
          clear h2
          try simp only [nrm]
          refine step_on 3 rfl (by kernel_rfl) (fun _ _ _ h => h) (by rfl) hH (by intro w hS; go_simp <;> with_reducible rfl) ?_
          try simp only [nrm]
          refine step_one 5 rfl (by kernel_rfl) (fun K hK => ?_)
          obtain ⟨c_b8_0, c_b8_1, c_b8_2, c_b8_3⟩ := S7.out.b.c4
          obtain ⟨f_b8_0, f_b8_1, f_b8_2, f_b8_3⟩ := S7.out.b.f4
          go_simp
          clear c_b8_0 c_b8_1 c_b8_2 c_b8_3 f_b8_0 f_b8_1 f_b8_2 f_b8_3
          have S8 : Hid (Sx w _ [⟨(w4.heap.size), [.bool r1_m, .slice r1_0 r1_n r1_c, .bool r3_m, .slice r3_0 r3_n r3_c]⟩, ⟨(w2.heap.size), [.bool r1_m, .slice r1_0 r1_n r1_c]⟩, ⟨(w.heap.size), [.bool false, .slice none 0 0, .bool false, .slice none 0 0]⟩] _) := Lib.hid (Sx.set [] [⟨(w2.heap.size), [.bool r1_m, .slice r1_0 r1_n r1_c]⟩, ⟨(w.heap.size), [.bool false, .slice none 0 0, .bool false, .slice none 0 0]⟩] (Sx.set [] [⟨(w2.heap.size), [.bool r1_m, .slice r1_0 r1_n r1_c]⟩, ⟨(w.heap.size), [.bool false, .slice none 0 0, .bool false, .slice none 0 0]⟩] (Sx.set [] [⟨(w2.heap.size), [.bool r1_m, .slice r1_0 r1_n r1_c]⟩, ⟨(w.heap.size), [.bool false, .slice none 0 0, .bool false, .slice none 0 0]⟩] (Sx.set [] [⟨(w2.heap.size), [.bool r1_m, .slice r1_0 r1_n r1_c]⟩, ⟨(w.heap.size), [.bool false, .slice none 0 0, .bool false, .slice none 0 0]⟩] S7.out 0 (.bool r1_m)) 1 (.slice r1_0 r1_n r1_c)) 2 (.bool r3_m)) 3 (.slice r3_0 r3_n r3_c))
          clear S7
          refine hK.out _ _ (S8.out.b.t.c2) (fun h2 => ?_)
          clear hK K hH
          have hH := h2
          clear h2
          try simp only [nrm]
          refine anyH_world (fun w8 hW => ?_)
          rw [← hW] at S8 hH
          clear hW
          refine wpAnyH_done (by kernel_rfl) ?_ _
          clear hH
          go_wp2_with fail
          go_meet
          case rel => exact ⟨_, _, _, _, _, _, _, _, _, rfl, S8.out⟩
      case rest =>
      clear S3
      obtain ⟨qb8, r3_m, r3_0, r3_n, r3_c, r2_m, r2_0, r2_n, r2_c, rfl, S4⟩ := hcut
      obtain ⟨w9, hW⟩ : ∃ w9, w9 = wc := ⟨_, rfl⟩
      rw [← hW] at S4 ⊢
      clear hW
      go_wp2_with fail
      refine (rparse_as _ (HSB.out) (NB.out) (LB.out)).mono ?_
      rintro e w10 ⟨r4_m, r4_0, r4_n, r4_c, rfl, hX, hB⟩
      have S5 := Lib.hid (((S4.out.step hB).cb (hX.cb ((numZ_bd (NB.out)).mono (BB.out)) (by omega)) rfl))
      clear S4 hX hB
      go_upto_region 15 with (fail)
      have S6 := Lib.hid (S5.out.var (w10.heap.size) [.bool r4_m, .slice r4_0 r4_n r4_c] 24 (by simp))
      clear S5
      refine wp_world (fun w11 hW => ?_)
      rw [← hW] at S6
      clear hW
      obtain ⟨c_b9_0, c_b9_1⟩ := S6.out.b.c2
      go_wp2_with fail
      clear c_b9_0 c_b9_1
      refine (zof_any S6.out.n.cb.cx.nx).mono ?_
      rintro e w12 ⟨r5_m, r5_0, r5_n, r5_c, rfl, hX, hB⟩
      have S7 := Lib.hid (((S6.out.step hB).zb (hX.zb (S6.out.n.cb.bd) (by omega)) rfl))
      clear S6 hX hB
      go_wp2_with fail
      refine (zsign_is (g) S7.out.n.zb.zx (HG.out)).mono ?_
      rintro e w13 ⟨rfl, hB⟩
      have S8 := Lib.hid ((S7.out.step hB))
      clear S7 hB
      obtain ⟨c_b9_0, c_b9_1⟩ := S8.out.b.c2
      obtain ⟨c_b8_0, c_b8_1, c_b8_2, c_b8_3⟩ := S8.out.b.t.c4
      obtain ⟨f_b8_0, f_b8_1, f_b8_2, f_b8_3⟩ := S8.out.b.t.f4
      go_upto_region 18 with (fail)
      clear c_b9_0 c_b9_1 c_b8_0 c_b8_1 c_b8_2 c_b8_3 f_b8_0 f_b8_1 f_b8_2 f_b8_3
      have S9 : Hid (Sx w _ [⟨(w10.heap.size), [.bool r4_m, .slice r4_0 r4_n r4_c]⟩, ⟨qb8, [.bool r1_m, .slice r1_0 r1_n r1_c, .bool r4_m, .slice r4_0 r4_n r4_c]⟩, ⟨(w2.heap.size), [.bool r1_m, .slice r1_0 r1_n r1_c]⟩, ⟨(w.heap.size), [.bool false, .slice none 0 0, .bool false, .slice none 0 0]⟩] _) := Lib.hid (Sx.set [⟨(w10.heap.size), [.bool r4_m, .slice r4_0 r4_n r4_c]⟩] [⟨(w2.heap.size), [.bool r1_m, .slice r1_0 r1_n r1_c]⟩, ⟨(w.heap.size), [.bool false, .slice none 0 0, .bool false, .slice none 0 0]⟩] (Sx.set [⟨(w10.heap.size), [.bool r4_m, .slice r4_0 r4_n r4_c]⟩] [⟨(w2.heap.size), [.bool r1_m, .slice r1_0 r1_n r1_c]⟩, ⟨(w.heap.size), [.bool false, .slice none 0 0, .bool false, .slice none 0 0]⟩] S8.out 2 (.bool r4_m)) 3 (.slice r4_0 r4_n r4_c))
      clear S8
      refine wp_world (fun w14 hW => ?_)
      rw [← hW] at S9
      clear hW
      obtain ⟨c_b8_0, c_b8_1, c_b8_2, c_b8_3⟩ := S9.out.b.t.c4
      go_wp2_with fail
      clear c_b8_0 c_b8_1 c_b8_2 c_b8_3
      refine (qof_any (⟨S9.out.n.t.t.t.t.cb.cx.nx, S9.out.n.t.cb.cx.nx, HV.out, S9.out.n.t.t.t.t.cb.bd.mono (by omega), S9.out.n.t.cb.bd.mono (by omega)⟩ : Rx _ _ _ _ _ _ _ _ _ _ _ q 20000) (by omega) (by omega)).mono ?_
      rintro e w15 ⟨r6_m, r6_0, r6_n, r6_c, r6_k, r6_1, r6_l, r6_d, rfl, hX, hB⟩
      have S10 := Lib.hid (((S9.out.step hB).qx hX rfl))
      clear S9 hX hB
      go_wp2_with fail
      refine (qtext_any S10.out.n.qx (by omega) (by omega)).mono ?_
      rintro e w16 ⟨rfl, hB⟩
      rw [← HT.out]
      have S11 := Lib.hid ((S10.out.step hB))
      clear S10 hB
      obtain ⟨c_b2_0, c_b2_1, c_b2_2, c_b2_3⟩ := S11.out.b.t.t.t.c4
      obtain ⟨f_b2_0, f_b2_1, f_b2_2, f_b2_3⟩ := S11.out.b.t.t.t.f4
      go_wp2_with fail
      have S12 : Hid (Sx w _ [⟨(w10.heap.size), [.bool r4_m, .slice r4_0 r4_n r4_c]⟩, ⟨qb8, [.bool r1_m, .slice r1_0 r1_n r1_c, .bool r4_m, .slice r4_0 r4_n r4_c]⟩, ⟨(w2.heap.size), [.bool r1_m, .slice r1_0 r1_n r1_c]⟩, ⟨(w.heap.size), [.bool false, .slice none 0 0, .bool false, .slice none 0 0]⟩] _) := Lib.hid (Sx.set [⟨(w10.heap.size), [.bool r4_m, .slice r4_0 r4_n r4_c]⟩, ⟨qb8, [.bool r1_m, .slice r1_0 r1_n r1_c, .bool r4_m, .slice r4_0 r4_n r4_c]⟩, ⟨(w2.heap.size), [.bool r1_m, .slice r1_0 r1_n r1_c]⟩] [] (Sx.set [⟨(w10.heap.size), [.bool r4_m, .slice r4_0 r4_n r4_c]⟩, ⟨qb8, [.bool r1_m, .slice r1_0 r1_n r1_c, .bool r4_m, .slice r4_0 r4_n r4_c]⟩, ⟨(w2.heap.size), [.bool r1_m, .slice r1_0 r1_n r1_c]⟩] [] (Sx.set [⟨(w10.heap.size), [.bool r4_m, .slice r4_0 r4_n r4_c]⟩, ⟨qb8, [.bool r1_m, .slice r1_0 r1_n r1_c, .bool r4_m, .slice r4_0 r4_n r4_c]⟩, ⟨(w2.heap.size), [.bool r1_m, .slice r1_0 r1_n r1_c]⟩] [] (Sx.set [⟨(w10.heap.size), [.bool r4_m, .slice r4_0 r4_n r4_c]⟩, ⟨qb8, [.bool r1_m, .slice r1_0 r1_n r1_c, .bool r4_m, .slice r4_0 r4_n r4_c]⟩, ⟨(w2.heap.size), [.bool r1_m, .slice r1_0 r1_n r1_c]⟩] [] S11.out 0 (.bool false)) 1 (.slice none 0 0)) 2 (.bool false)) 3 (.slice none 0 0))
      clear S11
      refine bodyPost_ret (v := .tuple #[.agg #[.bool false, .slice none 0 0, .bool false, .slice none 0 0], .int .i64 4]) (by simp [results, Tryz.results36, go_sem, c_b2_0, c_b2_1, c_b2_2, c_b2_3]) rfl ?_
      exact ⟨rfl, S12.out.h⟩

set_option maxHeartbeats 1000000 in
set_option maxRecDepth 100000 in
theorem qp_o1 {s : ByteArray} {A B : List UInt8} {w : World} (hs : s.size ≤ 20000) {p : Nat} (hp : p < s.size) (hno : ∀ k, k < p → ∀ h : k < s.size, ((s[k].toNat : Int) == 47) = false) (hat : ((s[p].toNat : Int) == 47) = true) (la : (s.extract 0 p).data.toList = A) (sa : (s.extract 0 p).size ≤ 20000) (BA : Hid (A.length ≤ 20000)) (na : numB A = true) (lb : (s.extract (p + 1) s.size).data.toList = B) (sb : (s.extract (p + 1) s.size).size ≤ 20000) (BB : Hid (B.length ≤ 20000)) (nb : numB B = true) (hp0 : 0 < numZ B) {q : Rat} (hv : qv (numZ A) (numZ B) = q) (he : ((ratS q).toList == s.toList) = true) (hn : numZ A = q.num) (hd : (numZ B : Int) = (q.den : Int)) :
    Calls Tryz.prog 36 #[.string s] w (NewRE w q 20000 0) := by
  have HSA := Lib.hid sa
  have LA := Lib.hid la
  have NA := Lib.hid na
  clear sa la na
  have c1 : (0 : Int) ≤ ↑p := by omega
  have c2 : (↑p : Int) ≤ ↑s.size := by omega
  have c3 : (0 : Int) ≤ ↑p + 1 := by omega
  have c4 : (↑p + 1 : Int) ≤ ↑s.size := by omega
  have HSB := Lib.hid sb
  have LB := Lib.hid lb
  have NB := Lib.hid nb
  clear sb lb nb
  obtain ⟨g, hg⟩ : ∃ g, (numZ B).sign = g := ⟨_, rfl⟩
  have e1 : decide (g ≤ 0) = false := by rw [← hg]; have := sign_cases (numZ B); simp; omega
  have HG := Lib.hid hg
  clear hg
  obtain ⟨t, ht⟩ : ∃ t : ByteArray, t = ratS q := ⟨_, rfl⟩
  have e2 : (t.toList == s.toList) = true := by rw [ht]; exact he
  have HT := Lib.hid ht
  have HV := Lib.hid hv
  clear ht he hv
  have HN := Lib.hid hn
  have HD := Lib.hid hd
  clear hn hd
  go_enter Tryz.func36, Tryz.ntmps36
  have S0 := Lib.hid (Sx.start (w := w) (N := []) trivial)
  have S1 := Lib.hid (S0.out.var (w.heap.size) [.bool false, .slice none 0 0, .bool false, .slice none 0 0] 26 (by simp))
  clear S0
  go_upto_region 1 with (fail)
  refine wp_world (fun w1 hW => ?_)
  rw [← hW] at S1
  clear hW
  go_wp2_with fail
  go_loop [5] (fun i => ∃ k : Nat, k ≤ p ∧ i = .int .i64 (k : Int)) (fun i => p - (intOf i).toNat)
  case atStart => exact ⟨0, Nat.zero_le _, rfl⟩
  case round =>
    obtain ⟨k, hk, rfl⟩ := hrel
    by_cases hlt : k < p
    · have hks : k < s.size := by omega
      have h47 : ((s[k].toNat : Int) == 47) = false := hno k hlt hks
      go_wp2_with fail
      go_round
      case rel => exact ⟨k + 1, by omega, by go_num⟩
      case measure => simp [intOf]; omega
    · obtain rfl : k = p := by omega
      clear hlt hk
      have h47 : ((s[k].toNat : Int) == 47) = true := hat
      go_wp2_with fail
      refine (rparse_as _ (HSA.out) (NA.out) (LA.out)).mono ?_
      rintro e w2 ⟨r1_m, r1_0, r1_n, r1_c, rfl, hX, hB⟩
      have S2 := Lib.hid (((S1.out.step hB).cb (hX.cb ((numZ_bd (NA.out)).mono (BA.out)) (by omega)) rfl))
      clear S1 hX hB
      go_upto_region 10 with (fail)
      have S3 := Lib.hid (S2.out.var (w2.heap.size) [.bool r1_m, .slice r1_0 r1_n r1_c] 24 (by simp))
      clear S2
      refine wp_world (fun w3 hW => ?_)
      rw [← hW] at S3
      clear hW
      go_wp2_with fail
      go_cut [8] from 38 to 42 (fun sl0 w9 => ∃ (qb8 : Nat) (r3_m : Bool) (r3_0 : Option Addr) (r3_n : Nat) (r3_c : Nat) (r2_m : Bool) (r2_0 : Option Addr) (r2_n : Nat) (r2_c : Nat), sl0 = .pointer (some ⟨qb8, 0, none⟩) ∧ Hid (Sx w w9 [⟨qb8, [.bool r1_m, .slice r1_0 r1_n r1_c, .bool r3_m, .slice r3_0 r3_n r3_c]⟩, ⟨(w2.heap.size), [.bool r1_m, .slice r1_0 r1_n r1_c]⟩, ⟨(w.heap.size), [.bool false, .slice none 0 0, .bool false, .slice none 0 0]⟩] [.cb r3_m r3_0 r3_n r3_c (1 : Int) 1, .zb r2_m r2_0 r2_n r2_c (1 : Int) 1, .cb r1_m r1_0 r1_n r1_c (numZ A) 20000]))
      case first =>
        have S4 := Lib.hid (S3.out.drew)
        clear S3
        refine wp_region_held_drew (S := fun w' => (w'.cell? ⟨(w2.heap.size), 0, none⟩ = some (.bool r1_m) ∧ w'.cell? ⟨(w2.heap.size), 1, none⟩ = some (.slice r1_0 r1_n r1_c))) (by kernel_rfl) ((S4.out.b.c2)) (fun hH => ?_)
        refine anyH_world (fun w4 hW => ?_)
        rw [← hW] at S4 hH
        clear hW
        refine step_on 0 rfl (by kernel_rfl) (fun _ _ _ h => h) (by rfl) hH (by intro w hS; go_simp <;> with_reducible rfl) ?_
        try simp only [nrm]
        refine wpAnyH_ready (rs := [1, 4]) (by kernel_rfl) (by simp) (ready_cons rfl (fun K hK => ?_) (ready_cons rfl (fun K hK => ?_) (AllReadyH.nil)))
        · go_simp
          refine (zsmall_any (1) _ ⟨by omega, by omega⟩).mono ?_
          rintro e w5 ⟨r2_m, r2_0, r2_n, r2_c, rfl, hX, hB⟩
          have S5 := Lib.hid (((S4.out.step hB).zb (hX.zb (show Bd (1 : Int) 1 by unfold Bd; decide) (by omega)) rfl))
          clear S4 hX hB
          go_wp2_with fail
          refine hK.out _ _ (S5.out.b.c2) (fun h2 => ?_)
          clear hK K hH
          have hH := h2
          clear h2
          try simp only [nrm]
          refine wpAnyH_ready (rs := [2, 4]) (by kernel_rfl) (by simp) (ready_cons rfl (fun K hK => ?_) (ready_cons rfl (fun K hK => ?_) (AllReadyH.nil)))
          · go_simp
            refine (zint_any S5.out.n.zb.zx).mono ?_
            rintro e w6 ⟨r3_m, r3_0, r3_n, r3_c, rfl, hX, hB⟩
            have S6 := Lib.hid (((S5.out.step hB).cb (hX.cb (S5.out.n.zb.bd) (by omega)) rfl))
            clear S5 hX hB
            go_wp2_with fail
            refine hK.out _ _ (S6.out.b.c2) (fun h2 => ?_)
            clear hK K hH
            have hH := h2
            clear h2
            try simp only [nrm]
            refine step_on 3 rfl (by kernel_rfl) (fun _ _ _ h => h) (by rfl) hH (by intro w hS; go_simp <;> with_reducible rfl) ?_
            try simp only [nrm]
            refine step_one 4 rfl (by kernel_rfl) (fun K hK => ?_)
            go_simp
            have S7 := Lib.hid (S6.out.var (w6.heap.size) [.bool false, .slice none 0 0, .bool false, .slice none 0 0] 26 (by simp))
            clear S6
            refine hK.out _ _ (S7.out.b.t.c2) (fun h2 => ?_)
            clear hK K hH
            have hH := h2
            clear h2
            try simp only [nrm]
            refine anyH_world (fun w7 hW => ?_)
            rw [← hW] at S7 hH
            clear hW
            refine step_one 5 rfl (by kernel_rfl) (fun K hK => ?_)
            obtain ⟨c_b8_0, c_b8_1, c_b8_2, c_b8_3⟩ := S7.out.b.c4
            obtain ⟨f_b8_0, f_b8_1, f_b8_2, f_b8_3⟩ := S7.out.b.f4
            go_simp
            clear c_b8_0 c_b8_1 c_b8_2 c_b8_3 f_b8_0 f_b8_1 f_b8_2 f_b8_3
            have S8 : Hid (Sx w _ [⟨(w6.heap.size), [.bool r1_m, .slice r1_0 r1_n r1_c, .bool r3_m, .slice r3_0 r3_n r3_c]⟩, ⟨(w2.heap.size), [.bool r1_m, .slice r1_0 r1_n r1_c]⟩, ⟨(w.heap.size), [.bool false, .slice none 0 0, .bool false, .slice none 0 0]⟩] _) := Lib.hid (Sx.set [] [⟨(w2.heap.size), [.bool r1_m, .slice r1_0 r1_n r1_c]⟩, ⟨(w.heap.size), [.bool false, .slice none 0 0, .bool false, .slice none 0 0]⟩] (Sx.set [] [⟨(w2.heap.size), [.bool r1_m, .slice r1_0 r1_n r1_c]⟩, ⟨(w.heap.size), [.bool false, .slice none 0 0, .bool false, .slice none 0 0]⟩] (Sx.set [] [⟨(w2.heap.size), [.bool r1_m, .slice r1_0 r1_n r1_c]⟩, ⟨(w.heap.size), [.bool false, .slice none 0 0, .bool false, .slice none 0 0]⟩] (Sx.set [] [⟨(w2.heap.size), [.bool r1_m, .slice r1_0 r1_n r1_c]⟩, ⟨(w.heap.size), [.bool false, .slice none 0 0, .bool false, .slice none 0 0]⟩] S7.out 0 (.bool r1_m)) 1 (.slice r1_0 r1_n r1_c)) 2 (.bool r3_m)) 3 (.slice r3_0 r3_n r3_c))
            clear S7
            refine hK.out _ _ (S8.out.b.t.c2) (fun h2 => ?_)
            clear hK K hH
            have hH := h2
            clear h2
            try simp only [nrm]
            refine anyH_world (fun w8 hW => ?_)
            rw [← hW] at S8 hH
            clear hW
            refine wpAnyH_done (by kernel_rfl) ?_ _
            clear hH
            go_wp2_with fail
            go_meet
            case rel => exact ⟨_, _, _, _, _, _, _, _, _, rfl, S8.out⟩
          · go_simp
            have S6 := Lib.hid (S5.out.var (w5.heap.size) [.bool false, .slice none 0 0, .bool false, .slice none 0 0] 26 (by simp))
            clear S5
            refine hK.out _ _ (S6.out.b.t.c2) (fun h2 => ?_)
            clear hK K hH
            have hH := h2
            clear h2
            try simp only [nrm]
            refine anyH_world (fun w6 hW => ?_)
            rw [← hW] at S6 hH
            clear hW
            refine step_one 2 rfl (by kernel_rfl) (fun K hK => ?_)
            go_simp
            refine (zint_any S6.out.n.zb.zx).mono ?_
            rintro e w7 ⟨r3_m, r3_0, r3_n, r3_c, rfl, hX, hB⟩
            have S7 := Lib.hid (((S6.out.step hB).cb (hX.cb (S6.out.n.zb.bd) (by omega)) rfl))
            clear S6 hX hB
            go_wp2_with fail
            refine hK.out _ _ (S7.out.b.t.c2) (fun h2 => ?_)
            clear hK K hH
            have hH := h2
            clear h2
            try simp only [nrm]
            refine step_on 3 rfl (by kernel_rfl) (fun _ _ _ h => h) (by rfl) hH (by intro w hS; go_simp <;> with_reducible rfl) ?_
            try simp only [nrm]
            refine step_one 5 rfl (by kernel_rfl) (fun K hK => ?_)
            obtain ⟨c_b8_0, c_b8_1, c_b8_2, c_b8_3⟩ := S7.out.b.c4
            obtain ⟨f_b8_0, f_b8_1, f_b8_2, f_b8_3⟩ := S7.out.b.f4
            go_simp
            clear c_b8_0 c_b8_1 c_b8_2 c_b8_3 f_b8_0 f_b8_1 f_b8_2 f_b8_3
            have S8 : Hid (Sx w _ [⟨(w5.heap.size), [.bool r1_m, .slice r1_0 r1_n r1_c, .bool r3_m, .slice r3_0 r3_n r3_c]⟩, ⟨(w2.heap.size), [.bool r1_m, .slice r1_0 r1_n r1_c]⟩, ⟨(w.heap.size), [.bool false, .slice none 0 0, .bool false, .slice none 0 0]⟩] _) := Lib.hid (Sx.set [] [⟨(w2.heap.size), [.bool r1_m, .slice r1_0 r1_n r1_c]⟩, ⟨(w.heap.size), [.bool false, .slice none 0 0, .bool false, .slice none 0 0]⟩] (Sx.set [] [⟨(w2.heap.size), [.bool r1_m, .slice r1_0 r1_n r1_c]⟩, ⟨(w.heap.size), [.bool false, .slice none 0 0, .bool false, .slice none 0 0]⟩] (Sx.set [] [⟨(w2.heap.size), [.bool r1_m, .slice r1_0 r1_n r1_c]⟩, ⟨(w.heap.size), [.bool false, .slice none 0 0, .bool false, .slice none 0 0]⟩] (Sx.set [] [⟨(w2.heap.size), [.bool r1_m, .slice r1_0 r1_n r1_c]⟩, ⟨(w.heap.size), [.bool false, .slice none 0 0, .bool false, .slice none 0 0]⟩] S7.out 0 (.bool r1_m)) 1 (.slice r1_0 r1_n r1_c)) 2 (.bool r3_m)) 3 (.slice r3_0 r3_n r3_c))
            clear S7
            refine hK.out _ _ (S8.out.b.t.c2) (fun h2 => ?_)
            clear hK K hH
            have hH := h2
            clear h2
            try simp only [nrm]
            refine anyH_world (fun w8 hW => ?_)
            rw [← hW] at S8 hH
            clear hW
            refine wpAnyH_done (by kernel_rfl) ?_ _
            clear hH
            go_wp2_with fail
            go_meet
            case rel => exact ⟨_, _, _, _, _, _, _, _, _, rfl, S8.out⟩
        · go_simp
          have S5 := Lib.hid (S4.out.var (w4.heap.size) [.bool false, .slice none 0 0, .bool false, .slice none 0 0] 26 (by simp))
          clear S4
          refine hK.out _ _ (S5.out.b.t.c2) (fun h2 => ?_)
          clear hK K hH
          have hH := h2
          clear h2
          try simp only [nrm]
          refine anyH_world (fun w5 hW => ?_)
          rw [← hW] at S5 hH
          clear hW
          refine step_one 1 rfl (by kernel_rfl) (fun K hK => ?_)
          go_simp
          refine (zsmall_any (1) _ ⟨by omega, by omega⟩).mono ?_
          rintro e w6 ⟨r2_m, r2_0, r2_n, r2_c, rfl, hX, hB⟩
          have S6 := Lib.hid (((S5.out.step hB).zb (hX.zb (show Bd (1 : Int) 1 by unfold Bd; decide) (by omega)) rfl))
          clear S5 hX hB
          go_wp2_with fail
          refine hK.out _ _ (S6.out.b.t.c2) (fun h2 => ?_)
          clear hK K hH
          have hH := h2
          clear h2
          try simp only [nrm]
          refine step_one 2 rfl (by kernel_rfl) (fun K hK => ?_)
          go_simp
          refine (zint_any S6.out.n.zb.zx).mono ?_
          rintro e w7 ⟨r3_m, r3_0, r3_n, r3_c, rfl, hX, hB⟩
          have S7 := Lib.hid (((S6.out.step hB).cb (hX.cb (S6.out.n.zb.bd) (by omega)) rfl))
          clear S6 hX hB
          go_wp2_with fail
          refine hK.out _ _ (S7.out.b.t.c2) (fun h2 => ?_)
          clear hK K hH
          have hH := h2
          clear h2
          try simp only [nrm]
          refine step_on 3 rfl (by kernel_rfl) (fun _ _ _ h => h) (by rfl) hH (by intro w hS; go_simp <;> with_reducible rfl) ?_
          try simp only [nrm]
          refine step_one 5 rfl (by kernel_rfl) (fun K hK => ?_)
          obtain ⟨c_b8_0, c_b8_1, c_b8_2, c_b8_3⟩ := S7.out.b.c4
          obtain ⟨f_b8_0, f_b8_1, f_b8_2, f_b8_3⟩ := S7.out.b.f4
          go_simp
          clear c_b8_0 c_b8_1 c_b8_2 c_b8_3 f_b8_0 f_b8_1 f_b8_2 f_b8_3
          have S8 : Hid (Sx w _ [⟨(w4.heap.size), [.bool r1_m, .slice r1_0 r1_n r1_c, .bool r3_m, .slice r3_0 r3_n r3_c]⟩, ⟨(w2.heap.size), [.bool r1_m, .slice r1_0 r1_n r1_c]⟩, ⟨(w.heap.size), [.bool false, .slice none 0 0, .bool false, .slice none 0 0]⟩] _) := Lib.hid (Sx.set [] [⟨(w2.heap.size), [.bool r1_m, .slice r1_0 r1_n r1_c]⟩, ⟨(w.heap.size), [.bool false, .slice none 0 0, .bool false, .slice none 0 0]⟩] (Sx.set [] [⟨(w2.heap.size), [.bool r1_m, .slice r1_0 r1_n r1_c]⟩, ⟨(w.heap.size), [.bool false, .slice none 0 0, .bool false, .slice none 0 0]⟩] (Sx.set [] [⟨(w2.heap.size), [.bool r1_m, .slice r1_0 r1_n r1_c]⟩, ⟨(w.heap.size), [.bool false, .slice none 0 0, .bool false, .slice none 0 0]⟩] (Sx.set [] [⟨(w2.heap.size), [.bool r1_m, .slice r1_0 r1_n r1_c]⟩, ⟨(w.heap.size), [.bool false, .slice none 0 0, .bool false, .slice none 0 0]⟩] S7.out 0 (.bool r1_m)) 1 (.slice r1_0 r1_n r1_c)) 2 (.bool r3_m)) 3 (.slice r3_0 r3_n r3_c))
          clear S7
          refine hK.out _ _ (S8.out.b.t.c2) (fun h2 => ?_)
          clear hK K hH
          have hH := h2
          clear h2
          try simp only [nrm]
          refine anyH_world (fun w8 hW => ?_)
          rw [← hW] at S8 hH
          clear hW
          refine wpAnyH_done (by kernel_rfl) ?_ _
          clear hH
          go_wp2_with fail
          go_meet
          case rel => exact ⟨_, _, _, _, _, _, _, _, _, rfl, S8.out⟩
      case rest =>
      clear S3
      obtain ⟨qb8, r3_m, r3_0, r3_n, r3_c, r2_m, r2_0, r2_n, r2_c, rfl, S4⟩ := hcut
      obtain ⟨w9, hW⟩ : ∃ w9, w9 = wc := ⟨_, rfl⟩
      rw [← hW] at S4 ⊢
      clear hW
      go_wp2_with fail
      refine (rparse_as _ (HSB.out) (NB.out) (LB.out)).mono ?_
      rintro e w10 ⟨r4_m, r4_0, r4_n, r4_c, rfl, hX, hB⟩
      have S5 := Lib.hid (((S4.out.step hB).cb (hX.cb ((numZ_bd (NB.out)).mono (BB.out)) (by omega)) rfl))
      clear S4 hX hB
      go_upto_region 15 with (fail)
      have S6 := Lib.hid (S5.out.var (w10.heap.size) [.bool r4_m, .slice r4_0 r4_n r4_c] 24 (by simp))
      clear S5
      refine wp_world (fun w11 hW => ?_)
      rw [← hW] at S6
      clear hW
      obtain ⟨c_b9_0, c_b9_1⟩ := S6.out.b.c2
      go_wp2_with fail
      clear c_b9_0 c_b9_1
      refine (zof_any S6.out.n.cb.cx.nx).mono ?_
      rintro e w12 ⟨r5_m, r5_0, r5_n, r5_c, rfl, hX, hB⟩
      have S7 := Lib.hid (((S6.out.step hB).zb (hX.zb (S6.out.n.cb.bd) (by omega)) rfl))
      clear S6 hX hB
      go_wp2_with fail
      refine (zsign_is (g) S7.out.n.zb.zx (HG.out)).mono ?_
      rintro e w13 ⟨rfl, hB⟩
      have S8 := Lib.hid ((S7.out.step hB))
      clear S7 hB
      obtain ⟨c_b9_0, c_b9_1⟩ := S8.out.b.c2
      obtain ⟨c_b8_0, c_b8_1, c_b8_2, c_b8_3⟩ := S8.out.b.t.c4
      obtain ⟨f_b8_0, f_b8_1, f_b8_2, f_b8_3⟩ := S8.out.b.t.f4
      go_upto_region 18 with (fail)
      clear c_b9_0 c_b9_1 c_b8_0 c_b8_1 c_b8_2 c_b8_3 f_b8_0 f_b8_1 f_b8_2 f_b8_3
      have S9 : Hid (Sx w _ [⟨(w10.heap.size), [.bool r4_m, .slice r4_0 r4_n r4_c]⟩, ⟨qb8, [.bool r1_m, .slice r1_0 r1_n r1_c, .bool r4_m, .slice r4_0 r4_n r4_c]⟩, ⟨(w2.heap.size), [.bool r1_m, .slice r1_0 r1_n r1_c]⟩, ⟨(w.heap.size), [.bool false, .slice none 0 0, .bool false, .slice none 0 0]⟩] _) := Lib.hid (Sx.set [⟨(w10.heap.size), [.bool r4_m, .slice r4_0 r4_n r4_c]⟩] [⟨(w2.heap.size), [.bool r1_m, .slice r1_0 r1_n r1_c]⟩, ⟨(w.heap.size), [.bool false, .slice none 0 0, .bool false, .slice none 0 0]⟩] (Sx.set [⟨(w10.heap.size), [.bool r4_m, .slice r4_0 r4_n r4_c]⟩] [⟨(w2.heap.size), [.bool r1_m, .slice r1_0 r1_n r1_c]⟩, ⟨(w.heap.size), [.bool false, .slice none 0 0, .bool false, .slice none 0 0]⟩] S8.out 2 (.bool r4_m)) 3 (.slice r4_0 r4_n r4_c))
      clear S8
      refine wp_world (fun w14 hW => ?_)
      rw [← hW] at S9
      clear hW
      obtain ⟨c_b8_0, c_b8_1, c_b8_2, c_b8_3⟩ := S9.out.b.t.c4
      go_wp2_with fail
      clear c_b8_0 c_b8_1 c_b8_2 c_b8_3
      refine (qof_any (⟨S9.out.n.t.t.t.t.cb.cx.nx, S9.out.n.t.cb.cx.nx, HV.out, S9.out.n.t.t.t.t.cb.bd.mono (by omega), S9.out.n.t.cb.bd.mono (by omega)⟩ : Rx _ _ _ _ _ _ _ _ _ _ _ q 20000) (by omega) (by omega)).mono ?_
      rintro e w15 ⟨r6_m, r6_0, r6_n, r6_c, r6_k, r6_1, r6_l, r6_d, rfl, hX, hB⟩
      have S10 := Lib.hid (((S9.out.step hB).qx hX rfl))
      clear S9 hX hB
      go_wp2_with fail
      refine (qtext_any S10.out.n.qx (by omega) (by omega)).mono ?_
      rintro e w16 ⟨rfl, hB⟩
      rw [← HT.out]
      have S11 := Lib.hid ((S10.out.step hB))
      clear S10 hB
      obtain ⟨c_b8_0, c_b8_1, c_b8_2, c_b8_3⟩ := S11.out.b.t.c4
      obtain ⟨c_b2_0, c_b2_1, c_b2_2, c_b2_3⟩ := S11.out.b.t.t.t.c4
      obtain ⟨f_b2_0, f_b2_1, f_b2_2, f_b2_3⟩ := S11.out.b.t.t.t.f4
      go_wp2_with fail
      have S12 : Hid (Sx w _ [⟨(w10.heap.size), [.bool r4_m, .slice r4_0 r4_n r4_c]⟩, ⟨qb8, [.bool r1_m, .slice r1_0 r1_n r1_c, .bool r4_m, .slice r4_0 r4_n r4_c]⟩, ⟨(w2.heap.size), [.bool r1_m, .slice r1_0 r1_n r1_c]⟩, ⟨(w.heap.size), [.bool r1_m, .slice r1_0 r1_n r1_c, .bool r4_m, .slice r4_0 r4_n r4_c]⟩] _) := Lib.hid (Sx.set [⟨(w10.heap.size), [.bool r4_m, .slice r4_0 r4_n r4_c]⟩, ⟨qb8, [.bool r1_m, .slice r1_0 r1_n r1_c, .bool r4_m, .slice r4_0 r4_n r4_c]⟩, ⟨(w2.heap.size), [.bool r1_m, .slice r1_0 r1_n r1_c]⟩] [] (Sx.set [⟨(w10.heap.size), [.bool r4_m, .slice r4_0 r4_n r4_c]⟩, ⟨qb8, [.bool r1_m, .slice r1_0 r1_n r1_c, .bool r4_m, .slice r4_0 r4_n r4_c]⟩, ⟨(w2.heap.size), [.bool r1_m, .slice r1_0 r1_n r1_c]⟩] [] (Sx.set [⟨(w10.heap.size), [.bool r4_m, .slice r4_0 r4_n r4_c]⟩, ⟨qb8, [.bool r1_m, .slice r1_0 r1_n r1_c, .bool r4_m, .slice r4_0 r4_n r4_c]⟩, ⟨(w2.heap.size), [.bool r1_m, .slice r1_0 r1_n r1_c]⟩] [] (Sx.set [⟨(w10.heap.size), [.bool r4_m, .slice r4_0 r4_n r4_c]⟩, ⟨qb8, [.bool r1_m, .slice r1_0 r1_n r1_c, .bool r4_m, .slice r4_0 r4_n r4_c]⟩, ⟨(w2.heap.size), [.bool r1_m, .slice r1_0 r1_n r1_c]⟩] [] S11.out 0 (.bool r1_m)) 1 (.slice r1_0 r1_n r1_c)) 2 (.bool r4_m)) 3 (.slice r4_0 r4_n r4_c))
      clear S11
      refine bodyPost_ret (v := .tuple #[.agg #[.bool r1_m, .slice r1_0 r1_n r1_c, .bool r4_m, .slice r4_0 r4_n r4_c], .int .i64 0]) (by simp [results, Tryz.results36, go_sem, c_b2_0, c_b2_1, c_b2_2, c_b2_3]) rfl ?_
      exact ⟨_, _, _, _, _, _, _, _, rfl, ⟨HN.out ▸ S12.out.n.t.t.t.t.t.cb.cx, HD.out ▸ S12.out.n.t.t.cb.cx, HN.out ▸ S12.out.n.t.t.t.t.t.cb.bd.mono (by omega), HD.out ▸ S12.out.n.t.t.cb.bd.mono (by omega)⟩, S12.out.h⟩

set_option maxHeartbeats 1000000 in
set_option maxRecDepth 100000 in
theorem qp_e0 {s : ByteArray} {A : List UInt8} {w : World} (hs : s.size ≤ 20000) (hno : ∀ k, k < s.size → ∀ h : k < s.size, ((s[k].toNat : Int) == 47) = false) (la : s.data.toList = A) (sa : s.size ≤ 20000) (na : numB A = false) :
    Calls Tryz.prog 36 #[.string s] w (RetB (.tuple #[.agg #[.bool false, .slice none 0 0, .bool false, .slice none 0 0], .int .i64 4]) w) := by
  have HSA := Lib.hid sa
  have LA := Lib.hid la
  have NA := Lib.hid na
  clear sa la na
  go_enter Tryz.func36, Tryz.ntmps36
  have S0 := Lib.hid (Sx.start (w := w) (N := []) trivial)
  have S1 := Lib.hid (S0.out.var (w.heap.size) [.bool false, .slice none 0 0, .bool false, .slice none 0 0] 26 (by simp))
  clear S0
  go_upto_region 1 with (fail)
  refine wp_world (fun w1 hW => ?_)
  rw [← hW] at S1
  clear hW
  go_wp2_with fail
  go_loop [4, 5] (fun a i => ∃ k : Nat, k ≤ s.size ∧ i = .int .i64 (k : Int) ∧ a = .int .i64 (s.size : Int)) (fun a i => s.size - (intOf i).toNat)
  case atStart => exact ⟨0, Nat.zero_le _, rfl, rfl⟩
  case round =>
    obtain ⟨k, hk, rfl, rfl⟩ := hrel
    by_cases hlt : k < s.size
    · have hks : k < s.size := by omega
      have h47 : ((s[k].toNat : Int) == 47) = false := hno k hlt hks
      go_wp2_with fail
      go_round
      case rel => exact ⟨k + 1, by omega, by go_num, rfl⟩
      case measure => simp [intOf]; omega
    · obtain rfl : k = s.size := by omega
      clear hlt hk
      go_wp2_with fail
      refine (rparse_as_bad _ (HSA.out) (NA.out) (LA.out)).mono ?_
      rintro e w2 ⟨rfl, hB⟩
      have S2 := Lib.hid ((S1.out.step hB))
      clear S1 hB
      go_upto_region 10 with (fail)
      have S3 := Lib.hid (S2.out.var (w2.heap.size) [.bool false, .slice none 0 0] 24 (by simp))
      clear S2
      refine wp_world (fun w3 hW => ?_)
      rw [← hW] at S3
      clear hW
      obtain ⟨c_b2_0, c_b2_1, c_b2_2, c_b2_3⟩ := S3.out.b.t.c4
      obtain ⟨f_b2_0, f_b2_1, f_b2_2, f_b2_3⟩ := S3.out.b.t.f4
      go_wp2_with fail
      have S4 : Hid (Sx w _ [⟨(w2.heap.size), [.bool false, .slice none 0 0]⟩, ⟨(w.heap.size), [.bool false, .slice none 0 0, .bool false, .slice none 0 0]⟩] _) := Lib.hid (Sx.set [⟨(w2.heap.size), [.bool false, .slice none 0 0]⟩] [] (Sx.set [⟨(w2.heap.size), [.bool false, .slice none 0 0]⟩] [] (Sx.set [⟨(w2.heap.size), [.bool false, .slice none 0 0]⟩] [] (Sx.set [⟨(w2.heap.size), [.bool false, .slice none 0 0]⟩] [] S3.out 0 (.bool false)) 1 (.slice none 0 0)) 2 (.bool false)) 3 (.slice none 0 0))
      clear S3
      refine bodyPost_ret (v := .tuple #[.agg #[.bool false, .slice none 0 0, .bool false, .slice none 0 0], .int .i64 4]) (by simp [results, Tryz.results36, go_sem, c_b2_0, c_b2_1, c_b2_2, c_b2_3]) rfl ?_
      exact ⟨rfl, S4.out.h⟩

set_option maxHeartbeats 1000000 in
set_option maxRecDepth 100000 in
theorem qp_o0 {s : ByteArray} {A : List UInt8} {w : World} (hs : s.size ≤ 20000) (hno : ∀ k, k < s.size → ∀ h : k < s.size, ((s[k].toNat : Int) == 47) = false) (la : s.data.toList = A) (sa : s.size ≤ 20000) (BA : Hid (A.length ≤ 20000)) (na : numB A = true) {q : Rat} (hv : qv (numZ A) (1) = q) (he : ((ratS q).toList == s.toList) = true) (hn : numZ A = q.num) (hd : (1 : Int) = (q.den : Int)) :
    Calls Tryz.prog 36 #[.string s] w (NewRE w q 20000 0) := by
  have HSA := Lib.hid sa
  have LA := Lib.hid la
  have NA := Lib.hid na
  clear sa la na
  obtain ⟨t, ht⟩ : ∃ t : ByteArray, t = ratS q := ⟨_, rfl⟩
  have e2 : (t.toList == s.toList) = true := by rw [ht]; exact he
  have HT := Lib.hid ht
  have HV := Lib.hid hv
  clear ht he hv
  have HN := Lib.hid hn
  have HD := Lib.hid hd
  clear hn hd
  go_enter Tryz.func36, Tryz.ntmps36
  have S0 := Lib.hid (Sx.start (w := w) (N := []) trivial)
  have S1 := Lib.hid (S0.out.var (w.heap.size) [.bool false, .slice none 0 0, .bool false, .slice none 0 0] 26 (by simp))
  clear S0
  go_upto_region 1 with (fail)
  refine wp_world (fun w1 hW => ?_)
  rw [← hW] at S1
  clear hW
  go_wp2_with fail
  go_loop [4, 5] (fun a i => ∃ k : Nat, k ≤ s.size ∧ i = .int .i64 (k : Int) ∧ a = .int .i64 (s.size : Int)) (fun a i => s.size - (intOf i).toNat)
  case atStart => exact ⟨0, Nat.zero_le _, rfl, rfl⟩
  case round =>
    obtain ⟨k, hk, rfl, rfl⟩ := hrel
    by_cases hlt : k < s.size
    · have hks : k < s.size := by omega
      have h47 : ((s[k].toNat : Int) == 47) = false := hno k hlt hks
      go_wp2_with fail
      go_round
      case rel => exact ⟨k + 1, by omega, by go_num, rfl⟩
      case measure => simp [intOf]; omega
    · obtain rfl : k = s.size := by omega
      clear hlt hk
      go_wp2_with fail
      refine (rparse_as _ (HSA.out) (NA.out) (LA.out)).mono ?_
      rintro e w2 ⟨r1_m, r1_0, r1_n, r1_c, rfl, hX, hB⟩
      have S2 := Lib.hid (((S1.out.step hB).cb (hX.cb ((numZ_bd (NA.out)).mono (BA.out)) (by omega)) rfl))
      clear S1 hX hB
      go_upto_region 10 with (fail)
      have S3 := Lib.hid (S2.out.var (w2.heap.size) [.bool r1_m, .slice r1_0 r1_n r1_c] 24 (by simp))
      clear S2
      refine wp_world (fun w3 hW => ?_)
      rw [← hW] at S3
      clear hW
      go_wp2_with fail
      go_cut [8] from 38 to 42 (fun sl0 w9 => ∃ (qb8 : Nat) (r3_m : Bool) (r3_0 : Option Addr) (r3_n : Nat) (r3_c : Nat) (r2_m : Bool) (r2_0 : Option Addr) (r2_n : Nat) (r2_c : Nat), sl0 = .pointer (some ⟨qb8, 0, none⟩) ∧ Hid (Sx w w9 [⟨qb8, [.bool r1_m, .slice r1_0 r1_n r1_c, .bool r3_m, .slice r3_0 r3_n r3_c]⟩, ⟨(w2.heap.size), [.bool r1_m, .slice r1_0 r1_n r1_c]⟩, ⟨(w.heap.size), [.bool false, .slice none 0 0, .bool false, .slice none 0 0]⟩] [.cb r3_m r3_0 r3_n r3_c (1 : Int) 1, .zb r2_m r2_0 r2_n r2_c (1 : Int) 1, .cb r1_m r1_0 r1_n r1_c (numZ A) 20000]))
      case first =>
        have S4 := Lib.hid (S3.out.drew)
        clear S3
        refine wp_region_held_drew (S := fun w' => (w'.cell? ⟨(w2.heap.size), 0, none⟩ = some (.bool r1_m) ∧ w'.cell? ⟨(w2.heap.size), 1, none⟩ = some (.slice r1_0 r1_n r1_c))) (by kernel_rfl) ((S4.out.b.c2)) (fun hH => ?_)
        refine anyH_world (fun w4 hW => ?_)
        rw [← hW] at S4 hH
        clear hW
        refine step_on 0 rfl (by kernel_rfl) (fun _ _ _ h => h) (by rfl) hH (by intro w hS; go_simp <;> with_reducible rfl) ?_
        try simp only [nrm]
        refine wpAnyH_ready (rs := [1, 4]) (by kernel_rfl) (by simp) (ready_cons rfl (fun K hK => ?_) (ready_cons rfl (fun K hK => ?_) (AllReadyH.nil)))
        · go_simp
          refine (zsmall_any (1) _ ⟨by omega, by omega⟩).mono ?_
          rintro e w5 ⟨r2_m, r2_0, r2_n, r2_c, rfl, hX, hB⟩
          have S5 := Lib.hid (((S4.out.step hB).zb (hX.zb (show Bd (1 : Int) 1 by unfold Bd; decide) (by omega)) rfl))
          clear S4 hX hB
          go_wp2_with fail
          refine hK.out _ _ (S5.out.b.c2) (fun h2 => ?_)
          clear hK K hH
          have hH := h2
          clear h2
          try simp only [nrm]
          refine wpAnyH_ready (rs := [2, 4]) (by kernel_rfl) (by simp) (ready_cons rfl (fun K hK => ?_) (ready_cons rfl (fun K hK => ?_) (AllReadyH.nil)))
          · go_simp
            refine (zint_any S5.out.n.zb.zx).mono ?_
            rintro e w6 ⟨r3_m, r3_0, r3_n, r3_c, rfl, hX, hB⟩
            have S6 := Lib.hid (((S5.out.step hB).cb (hX.cb (S5.out.n.zb.bd) (by omega)) rfl))
            clear S5 hX hB
            go_wp2_with fail
            refine hK.out _ _ (S6.out.b.c2) (fun h2 => ?_)
            clear hK K hH
            have hH := h2
            clear h2
            try simp only [nrm]
            refine step_on 3 rfl (by kernel_rfl) (fun _ _ _ h => h) (by rfl) hH (by intro w hS; go_simp <;> with_reducible rfl) ?_
            try simp only [nrm]
            refine step_one 4 rfl (by kernel_rfl) (fun K hK => ?_)
            go_simp
            have S7 := Lib.hid (S6.out.var (w6.heap.size) [.bool false, .slice none 0 0, .bool false, .slice none 0 0] 26 (by simp))
            clear S6
            refine hK.out _ _ (S7.out.b.t.c2) (fun h2 => ?_)
            clear hK K hH
            have hH := h2
            clear h2
            try simp only [nrm]
            refine anyH_world (fun w7 hW => ?_)
            rw [← hW] at S7 hH
            clear hW
            refine step_one 5 rfl (by kernel_rfl) (fun K hK => ?_)
            obtain ⟨c_b8_0, c_b8_1, c_b8_2, c_b8_3⟩ := S7.out.b.c4
            obtain ⟨f_b8_0, f_b8_1, f_b8_2, f_b8_3⟩ := S7.out.b.f4
            go_simp
            clear c_b8_0 c_b8_1 c_b8_2 c_b8_3 f_b8_0 f_b8_1 f_b8_2 f_b8_3
            have S8 : Hid (Sx w _ [⟨(w6.heap.size), [.bool r1_m, .slice r1_0 r1_n r1_c, .bool r3_m, .slice r3_0 r3_n r3_c]⟩, ⟨(w2.heap.size), [.bool r1_m, .slice r1_0 r1_n r1_c]⟩, ⟨(w.heap.size), [.bool false, .slice none 0 0, .bool false, .slice none 0 0]⟩] _) := Lib.hid (Sx.set [] [⟨(w2.heap.size), [.bool r1_m, .slice r1_0 r1_n r1_c]⟩, ⟨(w.heap.size), [.bool false, .slice none 0 0, .bool false, .slice none 0 0]⟩] (Sx.set [] [⟨(w2.heap.size), [.bool r1_m, .slice r1_0 r1_n r1_c]⟩, ⟨(w.heap.size), [.bool false, .slice none 0 0, .bool false, .slice none 0 0]⟩] (Sx.set [] [⟨(w2.heap.size), [.bool r1_m, .slice r1_0 r1_n r1_c]⟩, ⟨(w.heap.size), [.bool false, .slice none 0 0, .bool false, .slice none 0 0]⟩] (Sx.set [] [⟨(w2.heap.size), [.bool r1_m, .slice r1_0 r1_n r1_c]⟩, ⟨(w.heap.size), [.bool false, .slice none 0 0, .bool false, .slice none 0 0]⟩] S7.out 0 (.bool r1_m)) 1 (.slice r1_0 r1_n r1_c)) 2 (.bool r3_m)) 3 (.slice r3_0 r3_n r3_c))
            clear S7
            refine hK.out _ _ (S8.out.b.t.c2) (fun h2 => ?_)
            clear hK K hH
            have hH := h2
            clear h2
            try simp only [nrm]
            refine anyH_world (fun w8 hW => ?_)
            rw [← hW] at S8 hH
            clear hW
            refine wpAnyH_done (by kernel_rfl) ?_ _
            clear hH
            go_wp2_with fail
            go_meet
            case rel => exact ⟨_, _, _, _, _, _, _, _, _, rfl, S8.out⟩
          · go_simp
            have S6 := Lib.hid (S5.out.var (w5.heap.size) [.bool false, .slice none 0 0, .bool false, .slice none 0 0] 26 (by simp))
            clear S5
            refine hK.out _ _ (S6.out.b.t.c2) (fun h2 => ?_)
            clear hK K hH
            have hH := h2
            clear h2
            try simp only [nrm]
            refine anyH_world (fun w6 hW => ?_)
            rw [← hW] at S6 hH
            clear hW
            refine step_one 2 rfl (by kernel_rfl) (fun K hK => ?_)
            go_simp
            refine (zint_any S6.out.n.zb.zx).mono ?_
            rintro e w7 ⟨r3_m, r3_0, r3_n, r3_c, rfl, hX, hB⟩
            have S7 := Lib.hid (((S6.out.step hB).cb (hX.cb (S6.out.n.zb.bd) (by omega)) rfl))
            clear S6 hX hB
            go_wp2_with fail
            refine hK.out _ _ (S7.out.b.t.c2) (fun h2 => ?_)
            clear hK K hH
            have hH := h2
            clear h2
            try simp only [nrm]
            refine step_on 3 rfl (by kernel_rfl) (fun _ _ _ h => h) (by rfl) hH (by intro w hS; go_simp <;> with_reducible rfl) ?_
            try simp only [nrm]
            refine step_one 5 rfl (by kernel_rfl) (fun K hK => ?_)
            obtain ⟨c_b8_0, c_b8_1, c_b8_2, c_b8_3⟩ := S7.out.b.c4
            obtain ⟨f_b8_0, f_b8_1, f_b8_2, f_b8_3⟩ := S7.out.b.f4
            go_simp
            clear c_b8_0 c_b8_1 c_b8_2 c_b8_3 f_b8_0 f_b8_1 f_b8_2 f_b8_3
            have S8 : Hid (Sx w _ [⟨(w5.heap.size), [.bool r1_m, .slice r1_0 r1_n r1_c, .bool r3_m, .slice r3_0 r3_n r3_c]⟩, ⟨(w2.heap.size), [.bool r1_m, .slice r1_0 r1_n r1_c]⟩, ⟨(w.heap.size), [.bool false, .slice none 0 0, .bool false, .slice none 0 0]⟩] _) := Lib.hid (Sx.set [] [⟨(w2.heap.size), [.bool r1_m, .slice r1_0 r1_n r1_c]⟩, ⟨(w.heap.size), [.bool false, .slice none 0 0, .bool false, .slice none 0 0]⟩] (Sx.set [] [⟨(w2.heap.size), [.bool r1_m, .slice r1_0 r1_n r1_c]⟩, ⟨(w.heap.size), [.bool false, .slice none 0 0, .bool false, .slice none 0 0]⟩] (Sx.set [] [⟨(w2.heap.size), [.bool r1_m, .slice r1_0 r1_n r1_c]⟩, ⟨(w.heap.size), [.bool false, .slice none 0 0, .bool false, .slice none 0 0]⟩] (Sx.set [] [⟨(w2.heap.size), [.bool r1_m, .slice r1_0 r1_n r1_c]⟩, ⟨(w.heap.size), [.bool false, .slice none 0 0, .bool false, .slice none 0 0]⟩] S7.out 0 (.bool r1_m)) 1 (.slice r1_0 r1_n r1_c)) 2 (.bool r3_m)) 3 (.slice r3_0 r3_n r3_c))
            clear S7
            refine hK.out _ _ (S8.out.b.t.c2) (fun h2 => ?_)
            clear hK K hH
            have hH := h2
            clear h2
            try simp only [nrm]
            refine anyH_world (fun w8 hW => ?_)
            rw [← hW] at S8 hH
            clear hW
            refine wpAnyH_done (by kernel_rfl) ?_ _
            clear hH
            go_wp2_with fail
            go_meet
            case rel => exact ⟨_, _, _, _, _, _, _, _, _, rfl, S8.out⟩
        · go_simp
          have S5 := Lib.hid (S4.out.var (w4.heap.size) [.bool false, .slice none 0 0, .bool false, .slice none 0 0] 26 (by simp))
          clear S4
          refine hK.out _ _ (S5.out.b.t.c2) (fun h2 => ?_)
          clear hK K hH
          have hH := h2
          clear h2
          try simp only [nrm]
          refine anyH_world (fun w5 hW => ?_)
          rw [← hW] at S5 hH
          clear hW
          refine step_one 1 rfl (by kernel_rfl) (fun K hK => ?_)
          go_simp
          refine (zsmall_any (1) _ ⟨by omega, by omega⟩).mono ?_
          rintro e w6 ⟨r2_m, r2_0, r2_n, r2_c, rfl, hX, hB⟩
          have S6 := Lib.hid (((S5.out.step hB).zb (hX.zb (show Bd (1 : Int) 1 by unfold Bd; decide) (by omega)) rfl))
          clear S5 hX hB
          go_wp2_with fail
          refine hK.out _ _ (S6.out.b.t.c2) (fun h2 => ?_)
          clear hK K hH
          have hH := h2
          clear h2
          try simp only [nrm]
          refine step_one 2 rfl (by kernel_rfl) (fun K hK => ?_)
          go_simp
          refine (zint_any S6.out.n.zb.zx).mono ?_
          rintro e w7 ⟨r3_m, r3_0, r3_n, r3_c, rfl, hX, hB⟩
          have S7 := Lib.hid (((S6.out.step hB).cb (hX.cb (S6.out.n.zb.bd) (by omega)) rfl))
          clear S6 hX hB
          go_wp2_with fail
          refine hK.out _ _ (S7.out.b.t.c2) (fun h2 => ?_)
          clear hK K hH
          have hH := h2
          clear h2
          try simp only [nrm]
          refine step_on 3 rfl (by kernel_rfl) (fun _ _ _ h => h) (by rfl) hH (by intro w hS; go_simp <;> with_reducible rfl) ?_
          try simp only [nrm]
          refine step_one 5 rfl (by kernel_rfl) (fun K hK => ?_)
          obtain ⟨c_b8_0, c_b8_1, c_b8_2, c_b8_3⟩ := S7.out.b.c4
          obtain ⟨f_b8_0, f_b8_1, f_b8_2, f_b8_3⟩ := S7.out.b.f4
          go_simp
          clear c_b8_0 c_b8_1 c_b8_2 c_b8_3 f_b8_0 f_b8_1 f_b8_2 f_b8_3
          have S8 : Hid (Sx w _ [⟨(w4.heap.size), [.bool r1_m, .slice r1_0 r1_n r1_c, .bool r3_m, .slice r3_0 r3_n r3_c]⟩, ⟨(w2.heap.size), [.bool r1_m, .slice r1_0 r1_n r1_c]⟩, ⟨(w.heap.size), [.bool false, .slice none 0 0, .bool false, .slice none 0 0]⟩] _) := Lib.hid (Sx.set [] [⟨(w2.heap.size), [.bool r1_m, .slice r1_0 r1_n r1_c]⟩, ⟨(w.heap.size), [.bool false, .slice none 0 0, .bool false, .slice none 0 0]⟩] (Sx.set [] [⟨(w2.heap.size), [.bool r1_m, .slice r1_0 r1_n r1_c]⟩, ⟨(w.heap.size), [.bool false, .slice none 0 0, .bool false, .slice none 0 0]⟩] (Sx.set [] [⟨(w2.heap.size), [.bool r1_m, .slice r1_0 r1_n r1_c]⟩, ⟨(w.heap.size), [.bool false, .slice none 0 0, .bool false, .slice none 0 0]⟩] (Sx.set [] [⟨(w2.heap.size), [.bool r1_m, .slice r1_0 r1_n r1_c]⟩, ⟨(w.heap.size), [.bool false, .slice none 0 0, .bool false, .slice none 0 0]⟩] S7.out 0 (.bool r1_m)) 1 (.slice r1_0 r1_n r1_c)) 2 (.bool r3_m)) 3 (.slice r3_0 r3_n r3_c))
          clear S7
          refine hK.out _ _ (S8.out.b.t.c2) (fun h2 => ?_)
          clear hK K hH
          have hH := h2
          clear h2
          try simp only [nrm]
          refine anyH_world (fun w8 hW => ?_)
          rw [← hW] at S8 hH
          clear hW
          refine wpAnyH_done (by kernel_rfl) ?_ _
          clear hH
          go_wp2_with fail
          go_meet
          case rel => exact ⟨_, _, _, _, _, _, _, _, _, rfl, S8.out⟩
      case rest =>
      clear S3
      obtain ⟨qb8, r3_m, r3_0, r3_n, r3_c, r2_m, r2_0, r2_n, r2_c, rfl, S4⟩ := hcut
      obtain ⟨w9, hW⟩ : ∃ w9, w9 = wc := ⟨_, rfl⟩
      rw [← hW] at S4 ⊢
      clear hW
      obtain ⟨c_b8_0, c_b8_1, c_b8_2, c_b8_3⟩ := S4.out.b.c4
      go_wp2_with fail
      clear c_b8_0 c_b8_1 c_b8_2 c_b8_3
      refine (qof_any (⟨S4.out.n.t.t.cb.cx.nx, S4.out.n.cb.cx.nx, HV.out, S4.out.n.t.t.cb.bd.mono (by omega), S4.out.n.cb.bd.mono (by omega)⟩ : Rx _ _ _ _ _ _ _ _ _ _ _ q 20000) (by omega) (by omega)).mono ?_
      rintro e w10 ⟨r4_m, r4_0, r4_n, r4_c, r4_k, r4_1, r4_l, r4_d, rfl, hX, hB⟩
      have S5 := Lib.hid (((S4.out.step hB).qx hX rfl))
      clear S4 hX hB
      go_wp2_with fail
      refine (qtext_any S5.out.n.qx (by omega) (by omega)).mono ?_
      rintro e w11 ⟨rfl, hB⟩
      rw [← HT.out]
      have S6 := Lib.hid ((S5.out.step hB))
      clear S5 hB
      obtain ⟨c_b8_0, c_b8_1, c_b8_2, c_b8_3⟩ := S6.out.b.c4
      obtain ⟨c_b2_0, c_b2_1, c_b2_2, c_b2_3⟩ := S6.out.b.t.t.c4
      obtain ⟨f_b2_0, f_b2_1, f_b2_2, f_b2_3⟩ := S6.out.b.t.t.f4
      go_wp2_with fail
      have S7 : Hid (Sx w _ [⟨qb8, [.bool r1_m, .slice r1_0 r1_n r1_c, .bool r3_m, .slice r3_0 r3_n r3_c]⟩, ⟨(w2.heap.size), [.bool r1_m, .slice r1_0 r1_n r1_c]⟩, ⟨(w.heap.size), [.bool r1_m, .slice r1_0 r1_n r1_c, .bool r3_m, .slice r3_0 r3_n r3_c]⟩] _) := Lib.hid (Sx.set [⟨qb8, [.bool r1_m, .slice r1_0 r1_n r1_c, .bool r3_m, .slice r3_0 r3_n r3_c]⟩, ⟨(w2.heap.size), [.bool r1_m, .slice r1_0 r1_n r1_c]⟩] [] (Sx.set [⟨qb8, [.bool r1_m, .slice r1_0 r1_n r1_c, .bool r3_m, .slice r3_0 r3_n r3_c]⟩, ⟨(w2.heap.size), [.bool r1_m, .slice r1_0 r1_n r1_c]⟩] [] (Sx.set [⟨qb8, [.bool r1_m, .slice r1_0 r1_n r1_c, .bool r3_m, .slice r3_0 r3_n r3_c]⟩, ⟨(w2.heap.size), [.bool r1_m, .slice r1_0 r1_n r1_c]⟩] [] (Sx.set [⟨qb8, [.bool r1_m, .slice r1_0 r1_n r1_c, .bool r3_m, .slice r3_0 r3_n r3_c]⟩, ⟨(w2.heap.size), [.bool r1_m, .slice r1_0 r1_n r1_c]⟩] [] S6.out 0 (.bool r1_m)) 1 (.slice r1_0 r1_n r1_c)) 2 (.bool r3_m)) 3 (.slice r3_0 r3_n r3_c))
      clear S6
      refine bodyPost_ret (v := .tuple #[.agg #[.bool r1_m, .slice r1_0 r1_n r1_c, .bool r3_m, .slice r3_0 r3_n r3_c], .int .i64 0]) (by simp [results, Tryz.results36, go_sem, c_b2_0, c_b2_1, c_b2_2, c_b2_3]) rfl ?_
      exact ⟨_, _, _, _, _, _, _, _, rfl, ⟨HN.out ▸ S7.out.n.t.t.t.cb.cx, HD.out ▸ S7.out.n.t.cb.cx, HN.out ▸ S7.out.n.t.t.t.cb.bd.mono (by omega), HD.out ▸ S7.out.n.t.cb.bd.mono (by omega)⟩, S7.out.h⟩

set_option maxHeartbeats 1000000 in
set_option maxRecDepth 100000 in
theorem qparse_long (s : ByteArray) (w : World) (hs : 20000 < s.size) :
    Calls Tryz.prog 36 #[.string s] w (RetB (.tuple #[.agg #[.bool false, .slice none 0 0, .bool false, .slice none 0 0], .int .i64 3]) w) := by
  have d1 : decide (20000 < s.size) = true := by simpa using hs
  go_enter Tryz.func36, Tryz.ntmps36
  go_wp2_with fail
  refine bodyPost_ret (v := .tuple #[.agg #[.bool false, .slice none 0 0, .bool false, .slice none 0 0], .int .i64 3]) (by simp [results, Tryz.results36, go_sem]) rfl ?_
  exact ⟨rfl, below_alloc _ _⟩

end Go.Proofs.YteceomlbnajihaaGreatDoor

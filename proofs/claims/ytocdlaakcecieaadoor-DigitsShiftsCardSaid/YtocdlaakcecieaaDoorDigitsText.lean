/-
  The walk of the law DigitsText.
-/
import Derived.Test.YtocdlaakcecieaaDoorTxtKnown
import Derived.Test.YtocdlaakcecieaaDoorTxtParse
import Derived.Test.YtocdlaakcecieaaDoorTxtRef
import Derived.Test.YtocdlaakcecieaaDoorTxtDup
import Derived.Test.YtocdlaakcecieaaDoorGWZ
import Derived.Deep.Cut
set_option maxRecDepth 8192
namespace Go.Proofs.YtocdlaakcecieaaDoor
open Go.RowKit

theorem itoa_size {z : Int} {k : Nat} (h : Bd z k) (u : ByteArray) (hu : u = ⟨(Lib.itoa z).toArray⟩) : u.size ≤ 10 * k + 2 := by
  have := itoa_len h
  subst hu
  simpa [Lib.size_eq] using this

theorem parse_itoa {z : Int} {k : Nat} (h : Bd z k) (hk : k ≤ 1990) (u : ByteArray) (hu : u = ⟨(Lib.itoa z).toArray⟩) (w : World) :
    Calls Tryd.prog 9 #[.string u] w (NewPE w z 0) := by
  have h1 := itoa_size h u hu
  have h2 : u.data.toList = Lib.itoa z := by subst hu; simp
  have h3 := parse_ok u w (by omega) (by rw [h2]; exact numB_itoa z)
  rw [h2, numZ_itoa] at h3
  exact h3

set_option maxHeartbeats 1000000 in
theorem dtext_long {m : Bool} {ao : Option Addr} {n cap : Nat} {w : World} (ht : Tab w) (h : 40 < n) :
    Calls Tryd.prog 3 #[.agg #[.bool m, .slice ao n cap]] w (RetB (.bool true) w) := by
  have HT := Lib.hid ht
  have hq : decide (40 < n) = true := by simpa using h
  clear ht
  go_enter Tryd.func3, Tryd.ntmps3
  go_wp2_with fail
  refine (tknown5 _ (HT.out.below (below_alloc _ _))).mono ?_
  rintro e w9 ⟨rfl, hB9⟩
  have HB9 := Lib.hid (Below.steps (below_alloc _ _) hB9)
  clear hB9
  go_wp2_with fail
  go_ret
  exact ⟨rfl, HB9.out⟩

set_option maxHeartbeats 40000000 in
set_option maxRecDepth 100000 in
theorem dtext_short {m : Bool} {ao : Option Addr} {n cap : Nat} {xs : List Nat} {z : Int} {w : World} (hs : Sl w ao n cap xs) (hz : zOf m (val xs) = z) (ht : Tab w) (h : n ≤ 40) :
    Calls Tryd.prog 3 #[.agg #[.bool m, .slice ao n cap]] w (RetB (.bool true) w) := by
  obtain ⟨i0, hi, hz0, hz1, hz2⟩ := info_parts Tryd.info_u32
  have HT := Lib.hid ht
  have HZ := Lib.hid hz
  have hq : decide (40 < n) = false := by simp; omega
  have hnx : Nx w m ao n cap z := ⟨⟨xs, hs, hz⟩, by omega⟩
  have bd_x : Bd z 40 := hnx.inn.bd h
  go_enter Tryd.func3, Tryd.ntmps3
  go_upto_region 1 with (fail)
  refine wp_world (fun W hW => ?_)
  have HB0 : Hid (Below w.heap.size w W) := by rw [hW]; exact below_alloc _ _
  have S0 : Hid (St w W _ _) := Lib.hid (St.mk (Live.add_box (show Box W (w.heap.size) m ao n cap from by rw [hW]; exact Box.new _ _ _ _ _ _ _ (by simp)) (Live.nil W)) (Live.add_num (hnx.below HB0.out) (Live.add_sl (hs.below HB0.out) (Live.nil W))) HB0.out)
  clear hW HB0
  obtain ⟨bx_0, bx_1⟩ := S0.out.b.c
  clear hz ht hs hnx
  go_wp2_with fail
  go_upto_region 3 with (fail)
  go_cut [3] from 12 to 18 (fun s3 w9 => ∃ (b : Nat) (t0 : Option Addr) (tc : Nat), s3 = .pointer (some ⟨b, 0, none⟩) ∧ Hid (St w w9 [.box b m t0 n tc, .box (w.heap.size) m ao n cap] [.sl t0 n tc xs, .num m t0 n tc z, .num m ao n cap z, .sl ao n cap xs]))
  case first =>
    clear bx_0 bx_1
    have S1 := Lib.hid S0.out.drew
    clear S0
    refine wp_region_held_drew (S := fun w' => (w'.cell? ⟨(w.heap.size), 0, none⟩ = some (.bool m) ∧ w'.cell? ⟨(w.heap.size), 1, none⟩ = some (.slice ao n cap))) (by kernel_rfl) (S1.out.b.c) (fun hH => ?_)
    refine anyH_world (fun w1 hW => ?_)
    rw [← hW] at S1 hH
    clear hW
    refine step_on 0 rfl (by kernel_rfl) (fun _ _ _ h => h) (by rfl) hH (by intro w hS; go_simp <;> with_reducible rfl) ?_
    try simp only [nrm]
    refine step_on 1 rfl (by kernel_rfl) (fun _ _ _ h => h) (by rfl) hH (by intro w hS; go_simp <;> with_reducible rfl) ?_
    try simp only [nrm]
    refine step_on 3 rfl (by kernel_rfl) (fun _ _ _ h => h) (by rfl) hH (by intro w hS; go_simp <;> with_reducible rfl) ?_
    try simp only [nrm]
    refine step_on 4 rfl (by kernel_rfl) (fun _ _ _ h => h) (by rfl) hH (by intro w hS; go_simp <;> with_reducible rfl) ?_
    try simp only [nrm]
    refine wpAnyH_ready (rs := [2, 7]) (by kernel_rfl) (by simp) (ready_cons rfl (fun K hK => ?_) (ready_cons rfl (fun K hK => ?_) (AllReadyH.nil)))
    · go_simp
      have S4 := Lib.hid (S1.out.step (below_alloc w1 (.cells #[] 39)))
      have LO := Lib.hid (lit_owns w1)
      have BB := Lib.hid (below_alloc w1 (.cells #[] 39))
      refine hK.out _ _ S4.out.b.c (fun h2 => ?_)
      clear hK K hH
      have hH := h2
      clear h2
      try simp only [nrm]
      refine anyH_world (fun w4 hW => ?_)
      rw [← hW] at S4 LO BB hH
      clear hW
      refine wpAnyH_ready (rs := [5, 7]) (by kernel_rfl) (by simp) (ready_cons rfl (fun K hK => ?_) (ready_cons rfl (fun K hK => ?_) (AllReadyH.nil)))
      · refine step_dup2 rfl (.tmp 14) (.tmp 16) 22 rfl i0 (.int .u32 0) Tryd.underlying22 hi hz0 hz1 hz2 rfl _ rfl LO.out w1 BB.out (BB.out).size ao n cap xs rfl S4.out.n.t.sl ?_
        intro t0 tc w5 hT hB hg
        have S7 := Lib.hid (((S1.out.step hB).num (show Nx _ m t0 n tc z from ⟨⟨xs, hT.sl, HZ.out⟩, by omega⟩)).sl hT.sl)
        refine hK.out _ _ S7.out.b.c (fun h2 => ?_)
        clear hK K hH
        have hH := h2
        clear h2
        try simp only [nrm]
        clear hT hB hg S4 LO BB
        refine step_on 6 rfl (by kernel_rfl) (fun _ _ _ h => h) (by rfl) hH (by intro w hS; go_simp <;> with_reducible rfl) ?_
        try simp only [nrm]
        refine step_one 7 rfl (by kernel_rfl) (fun K hK => ?_)
        go_simp
        have U7 := under_of S7.out.b
        have z7 := S7.out.h.size
        have S8 := Lib.hid (S7.out.step (below_alloc w5 (.cells #[.bool false, .slice none 0 0] 24)))
        have V8 := Lib.hid (Box.new w5 w5.heap.size false none 0 0 24 rfl)
        clear S7
        refine hK.out _ _ S8.out.b.c (fun h2 => ?_)
        clear hK K hH
        have hH := h2
        clear h2
        try simp only [nrm]
        refine anyH_world (fun w6 hW => ?_)
        rw [← hW] at S8 V8 hH
        clear hW
        have sb0 := V8.out.c0
        have sb1 := V8.out.c1
        have sb2 := V8.out.f0
        have sb3 := V8.out.f1
        refine step_one 8 rfl (by kernel_rfl) (fun K hK => ?_)
        go_simp
        have S9 := Lib.hid (S8.out.put V8.out (.bool m) (.slice t0 n tc) z7 (under_apart U7) (nums_apart rfl))
        have V9 := Lib.hid (V8.out.set m t0 n tc)
        clear sb0 sb1 sb2 sb3
        refine hK.out _ _ S9.out.b.c (fun h2 => ?_)
        clear hK K hH
        have hH := h2
        clear h2
        try simp only [nrm]
        refine wpAnyH_done (by kernel_rfl) ?_ _
        go_wp2_with fail
        go_meet
        case rel => exact ⟨_, _, _, rfl, St.mk (Live.add_box V9.out S9.out.b) S9.out.n S9.out.h⟩
      · go_simp
        have U7 := under_of S4.out.b
        have z7 := S4.out.h.size
        have S5 := Lib.hid (S4.out.step (below_alloc w4 (.cells #[.bool false, .slice none 0 0] 24)))
        have V5 := Lib.hid (Box.new w4 w4.heap.size false none 0 0 24 rfl)
        have LP := Lib.hid (LO.out.alloc (.cells #[.bool false, .slice none 0 0] 24))
        have BC := Lib.hid (BB.out.alloc BB.out.size (.cells #[.bool false, .slice none 0 0] 24))
        have ne := LO.out.lt w1.heap.size rfl
        clear LO
        refine hK.out _ _ S5.out.b.c (fun h2 => ?_)
        clear hK K hH
        have hH := h2
        clear h2
        try simp only [nrm]
        refine anyH_world (fun w5 hW => ?_)
        rw [← hW] at S5 V5 LP BC hH
        clear hW
        refine step_one 5 rfl (by kernel_rfl) (fun K hK => ?_)
        refine step_dup2 rfl (.tmp 14) (.tmp 16) 22 rfl i0 (.int .u32 0) Tryd.underlying22 hi hz0 hz1 hz2 rfl _ rfl LP.out w1 BC.out (BC.out).size ao n cap xs rfl S5.out.n.t.sl ?_
        intro t0 tc w6 hT hB hg
        have S8 := Lib.hid (((S1.out.step hB).num (show Nx _ m t0 n tc z from ⟨⟨xs, hT.sl, HZ.out⟩, by omega⟩)).sl hT.sl)
        have V8 := Lib.hid (V5.out.grown hg (by intro e; have e2 := Option.some.inj e; have := ne.2; omega))
        refine hK.out _ _ S8.out.b.c (fun h2 => ?_)
        clear hK K hH
        have hH := h2
        clear h2
        try simp only [nrm]
        clear hT hB hg S4 S5 V5 LP BC BB
        refine step_on 6 rfl (by kernel_rfl) (fun _ _ _ h => h) (by rfl) hH (by intro w hS; go_simp <;> with_reducible rfl) ?_
        try simp only [nrm]
        have sb0 := V8.out.c0
        have sb1 := V8.out.c1
        have sb2 := V8.out.f0
        have sb3 := V8.out.f1
        refine step_one 8 rfl (by kernel_rfl) (fun K hK => ?_)
        go_simp
        have S9 := Lib.hid (S8.out.put V8.out (.bool m) (.slice t0 n tc) z7 (under_apart U7) (nums_apart rfl))
        have V9 := Lib.hid (V8.out.set m t0 n tc)
        clear sb0 sb1 sb2 sb3
        refine hK.out _ _ S9.out.b.c (fun h2 => ?_)
        clear hK K hH
        have hH := h2
        clear h2
        try simp only [nrm]
        refine wpAnyH_done (by kernel_rfl) ?_ _
        go_wp2_with fail
        go_meet
        case rel => exact ⟨_, _, _, rfl, St.mk (Live.add_box V9.out S9.out.b) S9.out.n S9.out.h⟩
    · go_simp
      have U7 := under_of S1.out.b
      have z7 := S1.out.h.size
      have S4 := Lib.hid (S1.out.step (below_alloc w1 (.cells #[.bool false, .slice none 0 0] 24)))
      have V4 := Lib.hid (Box.new w1 w1.heap.size false none 0 0 24 rfl)
      refine hK.out _ _ S4.out.b.c (fun h2 => ?_)
      clear hK K hH
      have hH := h2
      clear h2
      try simp only [nrm]
      refine anyH_world (fun w4 hW => ?_)
      rw [← hW] at S4 V4 hH
      clear hW
      refine step_one 2 rfl (by kernel_rfl) (fun K hK => ?_)
      go_simp
      have S5 := Lib.hid (S4.out.step (below_alloc w4 (.cells #[] 39)))
      have LO := Lib.hid (lit_owns w4)
      have BB := Lib.hid (below_alloc w4 (.cells #[] 39))
      refine hK.out _ _ S5.out.b.c (fun h2 => ?_)
      clear hK K hH
      have hH := h2
      clear h2
      try simp only [nrm]
      refine anyH_world (fun w5 hW => ?_)
      rw [← hW] at S5 LO BB hH
      clear hW
      refine step_one 5 rfl (by kernel_rfl) (fun K hK => ?_)
      refine step_dup2 rfl (.tmp 14) (.tmp 16) 22 rfl i0 (.int .u32 0) Tryd.underlying22 hi hz0 hz1 hz2 rfl _ rfl LO.out w4 BB.out (BB.out).size ao n cap xs rfl S5.out.n.t.sl ?_
      intro t0 tc w6 hT hB hg
      have S8 := Lib.hid (((S4.out.step hB).num (show Nx _ m t0 n tc z from ⟨⟨xs, hT.sl, HZ.out⟩, by omega⟩)).sl hT.sl)
      have V8 := Lib.hid (V4.out.below hB)
      refine hK.out _ _ S8.out.b.c (fun h2 => ?_)
      clear hK K hH
      have hH := h2
      clear h2
      try simp only [nrm]
      clear hT hB hg S4 S5 V4 LO BB
      refine step_on 6 rfl (by kernel_rfl) (fun _ _ _ h => h) (by rfl) hH (by intro w hS; go_simp <;> with_reducible rfl) ?_
      try simp only [nrm]
      have sb0 := V8.out.c0
      have sb1 := V8.out.c1
      have sb2 := V8.out.f0
      have sb3 := V8.out.f1
      refine step_one 8 rfl (by kernel_rfl) (fun K hK => ?_)
      go_simp
      have S9 := Lib.hid (S8.out.put V8.out (.bool m) (.slice t0 n tc) z7 (under_apart U7) (nums_apart rfl))
      have V9 := Lib.hid (V8.out.set m t0 n tc)
      clear sb0 sb1 sb2 sb3
      refine hK.out _ _ S9.out.b.c (fun h2 => ?_)
      clear hK K hH
      have hH := h2
      clear h2
      try simp only [nrm]
      refine wpAnyH_done (by kernel_rfl) ?_ _
      go_wp2_with fail
      go_meet
      case rel => exact ⟨_, _, _, rfl, St.mk (Live.add_box V9.out S9.out.b) S9.out.n S9.out.h⟩
  case rest =>
  clear bx_0 bx_1
  clear S0
  obtain ⟨b_in, in_0, in_c, rfl, S1⟩ := hcut
  obtain ⟨w1, hW⟩ : ∃ w1, w1 = wc := ⟨_, rfl⟩
  rw [← hW] at S1 ⊢
  clear hW
  obtain ⟨bx_0, bx_1⟩ := S1.out.b.t.c
  obtain ⟨b_in_0, b_in_1⟩ := S1.out.b.c
  go_wp2_with fail
  refine (text_any S1.out.n.t.num (HT.out.below S1.out.h)).mono ?_
  rintro e w2 ⟨rfl, hB⟩
  have S2 := Lib.hid (S1.out.step hB)
  clear bx_0 bx_1 b_in_0 b_in_1
  clear S1 hB
  obtain ⟨bx_0, bx_1⟩ := S2.out.b.t.c
  obtain ⟨b_in_0, b_in_1⟩ := S2.out.b.c
  obtain ⟨u, hu⟩ : ∃ u : ByteArray, u = ⟨(Lib.itoa z).toArray⟩ := ⟨_, rfl⟩
  rw [← hu]
  have HU := Lib.hid hu
  clear hu
  go_wp2_with fail
  have bd_y : Bd (z) 40 := bd_x
  refine (parse_itoa bd_x (by omega) u HU.out _).mono ?_
  rintro e w3 ⟨y_m, y_0, y_n, y_c, rfl, hX, hB⟩
  have S3 := Lib.hid ((S2.out.step hB).can (hX.cx bd_y (by omega)))
  clear bx_0 bx_1 b_in_0 b_in_1
  clear S2 hX hB
  obtain ⟨bx_0, bx_1⟩ := S3.out.b.t.c
  obtain ⟨b_in_0, b_in_1⟩ := S3.out.b.c
  go_upto_region 6 with (fail)
  refine wp_world (fun w4 hW => ?_)
  clear bx_0 bx_1 b_in_0 b_in_1
  have S4 := Lib.hid (S3.out.alloc (w3.heap.size) y_m y_0 y_n y_c 24 (by simp))
  rw [← hW] at S4
  clear hW S3
  obtain ⟨bx_0, bx_1⟩ := S4.out.b.t.t.c
  obtain ⟨b_in_0, b_in_1⟩ := S4.out.b.t.c
  obtain ⟨b_y_0, b_y_1⟩ := S4.out.b.c
  have bd_zx : Bd (z) 40 := bd_x
  have bd_xx : Bd (z) 40 := bd_zx
  clear bx_0 bx_1 b_in_0 b_in_1 b_y_0 b_y_1
  have S5 := Lib.hid S4.out.drew
  clear S4
  refine wp_region_held_drew (S := fun w' => (w'.cell? ⟨(w.heap.size), 0, none⟩ = some (.bool m) ∧ w'.cell? ⟨(w.heap.size), 1, none⟩ = some (.slice ao n cap)) ∧ (w'.cell? ⟨b_in, 0, none⟩ = some (.bool m) ∧ w'.cell? ⟨b_in, 1, none⟩ = some (.slice in_0 n in_c)) ∧ (w'.cell? ⟨(w3.heap.size), 0, none⟩ = some (.bool y_m) ∧ w'.cell? ⟨(w3.heap.size), 1, none⟩ = some (.slice y_0 y_n y_c))) (by kernel_rfl) (⟨S5.out.b.t.t.c, S5.out.b.t.c, S5.out.b.c⟩) (fun hH => ?_)
  refine anyH_world (fun w5 hW => ?_)
  rw [← hW] at S5 hH
  clear hW
  refine step_on 0 rfl (by kernel_rfl) (fun _ _ _ h => h) (by rfl) hH (by intro w hS; go_simp <;> with_reducible rfl) ?_
  try simp only [nrm]
  refine step_on 1 rfl (by kernel_rfl) (fun _ _ _ h => h) (by rfl) hH (by intro w hS; go_simp <;> with_reducible rfl) ?_
  try simp only [nrm]
  refine step_one 2 rfl (by kernel_rfl) (fun K hK => ?_)
  go_simp
  refine (rtext_any S5.out.n.t.t.t.num (by omega)).mono ?_
  rintro e w6 ⟨rfl, hB⟩
  rw [← HU.out]
  have S6 := Lib.hid (S5.out.step hB)
  clear S5 hB
  go_wp2_with fail
  refine hK.out _ _ ⟨S6.out.b.t.t.c, S6.out.b.t.c, S6.out.b.c⟩ (fun h2 => ?_)
  clear hK K hH
  have hH := h2
  clear h2
  try simp only [nrm]
  refine step_on 3 rfl (by kernel_rfl) (fun _ _ _ h => h) (by rfl) hH (by intro w hS; go_simp <;> with_reducible rfl) ?_
  try simp only [nrm]
  refine step_on 4 rfl (by kernel_rfl) (fun _ _ _ h => h) (by rfl) hH (by intro w hS; go_simp <;> with_reducible rfl) ?_
  try simp only [nrm]
  refine step_on 5 rfl (by kernel_rfl) (fun _ _ _ h => h) (by rfl) hH (by intro w hS; go_simp <;> with_reducible rfl) ?_
  try simp only [nrm]
  refine step_on 6 rfl (by kernel_rfl) (fun _ _ _ h => h) (by rfl) hH (by intro w hS; go_simp <;> with_reducible rfl) ?_
  try simp only [nrm]
  refine step_one 7 rfl (by kernel_rfl) (fun K hK => ?_)
  go_simp
  refine (zsame_self S6.out.n.t.sl S6.out.n.t.t.t.t.sl).mono ?_
  rintro e w7 ⟨rfl, hB⟩
  have S7 := Lib.hid (S6.out.step hB)
  clear S6 hB
  go_wp2_with fail
  refine hK.out _ _ ⟨S7.out.b.t.t.c, S7.out.b.t.c, S7.out.b.c⟩ (fun h2 => ?_)
  clear hK K hH
  have hH := h2
  clear h2
  try simp only [nrm]
  refine step_on 8 rfl (by kernel_rfl) (fun _ _ _ h => h) (by rfl) hH (by intro w hS; go_simp <;> with_reducible rfl) ?_
  try simp only [nrm]
  refine step_on 9 rfl (by kernel_rfl) (fun _ _ _ h => h) (by rfl) hH (by intro w hS; go_simp <;> with_reducible rfl) ?_
  try simp only [nrm]
  refine step_on 10 rfl (by kernel_rfl) (fun _ _ _ h => h) (by rfl) hH (by intro w hS; go_simp <;> with_reducible rfl) ?_
  try simp only [nrm]
  refine step_on 11 rfl (by kernel_rfl) (fun _ _ _ h => h) (by rfl) hH (by intro w hS; go_simp <;> with_reducible rfl) ?_
  try simp only [nrm]
  refine step_on 12 rfl (by kernel_rfl) (fun _ _ _ h => h) (by rfl) hH (by intro w hS; go_simp <;> with_reducible rfl) ?_
  try simp only [nrm]
  refine step_on 13 rfl (by kernel_rfl) (fun _ _ _ h => h) (by rfl) hH (by intro w hS; go_simp <;> with_reducible rfl) ?_
  try simp only [nrm]
  refine step_on 14 rfl (by kernel_rfl) (fun _ _ _ h => h) (by rfl) hH (by intro w hS; go_simp <;> with_reducible rfl) ?_
  try simp only [nrm]
  refine step_on 15 rfl (by kernel_rfl) (fun _ _ _ h => h) (by rfl) hH (by intro w hS; go_simp <;> with_reducible rfl) ?_
  try simp only [nrm]
  refine step_one 16 rfl (by kernel_rfl) (fun K hK => ?_)
  go_simp
  refine (zof_any S7.out.n.t.t.t.num).mono ?_
  rintro e w8 ⟨zx_m, zx_0, zx_n, zx_c, rfl, hX, hB⟩
  have S8 := Lib.hid ((S7.out.step hB).zed (hX.zx bd_zx (by omega)))
  clear S7 hX hB
  go_wp2_with fail
  refine hK.out _ _ ⟨S8.out.b.t.t.c, S8.out.b.t.c, S8.out.b.c⟩ (fun h2 => ?_)
  clear hK K hH
  have hH := h2
  clear h2
  try simp only [nrm]
  refine step_one 17 rfl (by kernel_rfl) (fun K hK => ?_)
  go_simp
  refine (zint_any S8.out.n.zed).mono ?_
  rintro e w9 ⟨xx_m, xx_0, xx_n, xx_c, rfl, hX, hB⟩
  have S9 := Lib.hid ((S8.out.step hB).can (hX.cx bd_xx (by omega)))
  clear S8 hX hB
  go_wp2_with fail
  refine hK.out _ _ ⟨S9.out.b.t.t.c, S9.out.b.t.c, S9.out.b.c⟩ (fun h2 => ?_)
  clear hK K hH
  have hH := h2
  clear h2
  try simp only [nrm]
  refine step_one 18 rfl (by kernel_rfl) (fun K hK => ?_)
  go_simp
  refine (zsame S9.out.n.t.t.can S9.out.n.can rfl).mono ?_
  rintro e w10 ⟨rfl, hB⟩
  have S10 := Lib.hid (S9.out.step hB)
  clear S9 hB
  go_wp2_with fail
  refine hK.out _ _ ⟨S10.out.b.t.t.c, S10.out.b.t.c, S10.out.b.c⟩ (fun h2 => ?_)
  clear hK K hH
  have hH := h2
  clear h2
  try simp only [nrm]
  refine step_on 19 rfl (by kernel_rfl) (fun _ _ _ h => h) (by rfl) hH (by intro w hS; go_simp <;> with_reducible rfl) ?_
  try simp only [nrm]
  refine step_on 20 rfl (by kernel_rfl) (fun _ _ _ h => h) (by rfl) hH (by intro w hS; go_simp <;> with_reducible rfl) ?_
  try simp only [nrm]
  refine step_one 21 rfl (by kernel_rfl) (fun K hK => ?_)
  go_simp
  refine (tknown5 _ (HT.out.below S10.out.h)).mono ?_
  rintro e w11 ⟨rfl, hB⟩
  have S11 := Lib.hid (S10.out.step hB)
  clear S10 hB
  go_wp2_with fail
  refine hK.out _ _ ⟨S11.out.b.t.t.c, S11.out.b.t.c, S11.out.b.c⟩ (fun h2 => ?_)
  clear hK K hH
  have hH := h2
  clear h2
  try simp only [nrm]
  refine step_on 22 rfl (by kernel_rfl) (fun _ _ _ h => h) (by rfl) hH (by intro w hS; go_simp <;> with_reducible rfl) ?_
  try simp only [nrm]
  refine step_on 23 rfl (by kernel_rfl) (fun _ _ _ h => h) (by rfl) hH (by intro w hS; go_simp <;> with_reducible rfl) ?_
  try simp only [nrm]
  refine wpAnyH_done (by kernel_rfl) ?_ _
  clear hH
  obtain ⟨bx_0, bx_1⟩ := S11.out.b.t.t.c
  obtain ⟨b_in_0, b_in_1⟩ := S11.out.b.t.c
  obtain ⟨b_y_0, b_y_1⟩ := S11.out.b.c
  go_wp2_with fail
  go_ret
  exact ⟨rfl, S11.out.h⟩

theorem digitsText_row {m : Bool} {ao : Option Addr} {n cap : Nat} {xs : List Nat} {w : World} (hs : Sl w ao n cap xs) (ht : Tab w) :
    Calls Tryd.prog 3 #[.agg #[.bool m, .slice ao n cap]] w (RetB (.bool true) w) := by
  by_cases h : 40 < n
  · exact dtext_long ht h
  · exact dtext_short hs rfl ht (by omega)

end Go.Proofs.YtocdlaakcecieaaDoor

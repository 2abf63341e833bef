/-
  In one: VRefA, VRef.
-/
import Derived.Test.YtmaanhmdgmjhdaaGreatGV
import Derived.Test.YtmaanhmdgmjhdaaGreatGP1
import Derived.Test.YtmaanhmdgmjhdaaGreatGP8
import Derived.Test.YtmaanhmdgmjhdaaGreatGM3
set_option maxRecDepth 8192
namespace Go.Proofs.YtmaanhmdgmjhdaaGreat
open Lib (hid)
open Go.RowKit
theorem Pz.at {K : Nat} {w : World} {ao : Option Addr} {n cap : Nat} {p : List Term} (h : Pz K w ao n cap p) {k : Nat} (hk : k < n) :
    ∃ b off xm xa xn xc xp xq xr, ao = some ⟨b, off, none⟩ ∧ b < w.heap.size ∧ Cell3 w b (off + k * 3) (.bool xm) (.slice xa xn xc) (.slice xp xq xr) ∧ Zd w xm xa xn xc (p.getD k (0, [])).1 ∧ Bd (p.getD k (0, [])).1 K ∧ Ml w xp xq xr (p.getD k (0, [])).2 := by
  have hl := h.len
  obtain ⟨vss, hG, hT⟩ := h.ex
  obtain ⟨b, off, rfl, hb⟩ := hG.some_of (by omega)
  obtain ⟨xm, xa, xn, xc, xp, xq, xr, hv, h1, h2, h3⟩ := Tms.get (0, []) hT k (by omega)
  exact ⟨b, off, xm, xa, xn, xc, xp, xq, xr, rfl, hb, hG.cell3 hk hv, h1, h2, h3⟩
theorem Cell3.keep {w V : World} {b o : Nat} {u0 u1 u2 : Value} (h : Cell3 w b o u0 u1 u2) (hV : Below w.heap.size w V) : Cell3 V b o u0 u1 u2 := fun W hW => h W (Below.steps hV hW)
def clsQ (p : List Term) : Int := p.foldl (fun a t => if clsM t.2 > a then clsM t.2 else a) 0
theorem clsQ_next {p : List Term} (k : Nat) (hk : k < p.length) : clsQ (p.take (k + 1)) = if clsM (p[k]).2 > clsQ (p.take k) then clsM (p[k]).2 else clsQ (p.take k) := by
  unfold clsQ
  rw [List.take_succ_eq_append_getElem hk, List.foldl_append]
  rfl
theorem foldQ (c : Int) : ∀ (p : List Term) (a : Int), a ≤ c → (∀ t ∈ p, clsM t.2 ≤ c) → (a = c ∨ ∃ t ∈ p, clsM t.2 = c) → p.foldl (fun a t => if clsM t.2 > a then clsM t.2 else a) a = c
  | [], a, _, _, h => by
    rcases h with h | ⟨t, ht, _⟩
    · exact h
    · cases ht
  | s :: r, a, h1, h2, h3 => by
    have hs := h2 s (by simp)
    simp only [List.foldl_cons]
    refine foldQ c r _ (by split <;> omega) (fun t ht => h2 t (by simp [ht])) ?_
    rcases h3 with h3 | ⟨t, ht, h3⟩
    · left; split <;> omega
    · rcases List.mem_cons.1 ht with rfl | ht
      · left; split <;> omega
      · exact .inr ⟨t, ht, h3⟩
theorem clsQ_fall {p : List Term} (h : fall p) : clsQ p = clsP p := by
  unfold clsQ
  refine foldQ _ p 0 (clsP_bd h).1 (fun t ht => clsP_ge h ht) ?_
  cases p with
  | nil => exact .inl rfl
  | cons t r => exact .inr ⟨t, by simp, rfl⟩
theorem degP_next2 {p : List Term} (v : Int) (k : Nat) (hk : k < p.length) : degP (p.take (k + 1)) v = if expo (p[k]).2 v > degP (p.take k) v then expo (p[k]).2 v else degP (p.take k) v := by
  rw [degP_next v k hk]
  split <;> omega
set_option maxHeartbeats 4000000 in
set_option maxRecDepth 100000 in
theorem rcls_any (z : Int) {K : Nat} {ao : Option Addr} {n cap : Nat} {p : List Term} {w : World} (hp : Pz K w ao n cap p) (hf : fall p) (hz : clsP p = z) :
    Calls Tryz.prog 54 #[.slice ao n cap] w (RetB (.int .i64 z) w) := by
  have hle := hp.le
  have hmb : n ≤ 4398046511104 := by obtain ⟨_, hG, _⟩ := hp.ex; exact hG.big
  have HX := hid hp
  have HF := hid hf
  have HZ : Hid (clsQ p = z) := by rw [Hid, clsQ_fall hf]; exact hz
  clear hp hf hz
  go_enter Tryz.func54, Tryz.ntmps54
  go_wp2
  go_loopw [3, 4] (fun s5 s6 wr => ∃ (k : Nat) (y : Int), s5 = .int .i64 y ∧ s6 = .int .i64 k ∧ k ≤ n ∧ Hid (clsQ (p.take k) = y ∧ Below w.heap.size w wr)) (fun _ s6 _ => n - (intOf s6).toNat)
  case atStart => exact ⟨0, 0, rfl, rfl, Nat.zero_le _, rfl, Below.refl _ _⟩
  case round =>
    obtain ⟨k, y, rfl, rfl, hk, HI⟩ := hrel
    by_cases hkm : k < n
    · have hkp : k < p.length := by rw [HX.out.len]; exact hkm
      obtain ⟨b, off, xm, xa, xn, xc, xp, xq, xr, hbo, hbl, hc, hCn, hBd, hMl⟩ := (HX.out.below HI.out.2).at (k := k) hkm
      subst hbo
      obtain ⟨c0, c1, c2⟩ := hc wr (Below.refl _ _)
      rw [getD_of _ hkp] at hMl
      obtain ⟨d, hd⟩ : ∃ d, clsM (p[k]).2 = d := ⟨_, rfl⟩
      have hN := clsQ_next k hkp
      rw [HI.out.1, hd] at hN
      have HT : Hid (Ml wr xp xq xr (p[k]).2 ∧ clsM (orM (p[k]).2) = d) := ⟨hMl, by rw [orM_yes (fall_may HF.out _ (List.getElem_mem hkp))]; exact hd⟩
      have HN := hid hN
      have HC := hid hc
      clear hc hCn hBd hMl hbl hN hd
      by_cases hg : d > y
      · have hdd : decide (y < d) = true := decide_eq_true hg
        have HN2 : Hid (clsQ (p.take (k + 1)) = d) := by rw [Hid, HN.out, if_pos hg]
        go_wp2_with fail
        refine (class7_any (show Ml _ xp xq xr (p[k]).2 from HT.out.1) d (by first | exact HT.out.2 | exact HT2.out.2)).mono ?_
        rintro e w2 ⟨rfl, hB⟩
        have HI2 : Hid (Below w.heap.size w w2) := Below.steps HI.out.2 hB
        have HT2 : Hid (Ml w2 xp xq xr (p[k]).2 ∧ clsM (orM (p[k]).2) = d) := ⟨HT.out.1.below hB, HT.out.2⟩
        clear c0 c1 c2
        obtain ⟨c0, c1, c2⟩ := HC.out w2 hB
        clear hB HI HT HN
        go_wp2_with fail
        refine (class7_any (show Ml _ xp xq xr (p[k]).2 from HT2.out.1) d (by first | exact HT.out.2 | exact HT2.out.2)).mono ?_
        rintro e w3 ⟨rfl, hB⟩
        have HI3 : Hid (clsQ (p.take (k + 1)) = d ∧ Below w.heap.size w w3) := ⟨HN2.out, Below.steps HI2.out hB⟩
        clear hB HI2 HT2 c0 c1 c2
        go_wp2
        go_roundw
        case rel => exact ⟨k + 1, d, rfl, by go_num, by omega, HI3.out⟩
        case measure => simp [intOf]; omega
      · have hdd : decide (y < d) = false := decide_eq_false hg
        have HN2 : Hid (clsQ (p.take (k + 1)) = y) := by rw [Hid, HN.out, if_neg hg]
        go_wp2_with fail
        refine (class7_any (show Ml _ xp xq xr (p[k]).2 from HT.out.1) d (by first | exact HT.out.2 | exact HT2.out.2)).mono ?_
        rintro e w2 ⟨rfl, hB⟩
        have HI3 : Hid (clsQ (p.take (k + 1)) = y ∧ Below w.heap.size w w2) := ⟨HN2.out, Below.steps HI.out.2 hB⟩
        clear hB HI HT HN c0 c1 c2
        go_wp2
        go_roundw
        case rel => exact ⟨k + 1, y, rfl, by go_num, by omega, HI3.out⟩
        case measure => simp [intOf]; omega
    · obtain rfl : n = k := by omega
      have h := HI.out
      rw [List.take_of_length_le (by rw [HX.out.len]; exact Nat.le_refl _)] at h
      obtain rfl : y = z := by rw [← h.1]; exact HZ.out
      have HH := hid h.2
      clear h HI HX
      go_wp2
      go_ret
      exact ⟨rfl, HH.out⟩
set_option maxHeartbeats 4000000 in
set_option maxRecDepth 100000 in
theorem rdeg_any (v : Int) (z : Int) {K : Nat} {ao : Option Addr} {n cap : Nat} {p : List Term} {w : World} (hp : Pz K w ao n cap p) (hf : fall p) (hz : degP p v = z) :
    Calls Tryz.prog 52 #[.slice ao n cap, .int .i64 v] w (RetB (.int .i64 z) w) := by
  have hle := hp.le
  have hmb : n ≤ 4398046511104 := by obtain ⟨_, hG, _⟩ := hp.ex; exact hG.big
  have HX := hid hp
  have HF := hid hf
  have HZ : Hid (degP p v = z) := hz
  clear hp hf hz
  go_enter Tryz.func52, Tryz.ntmps52
  go_wp2
  go_loopw [5, 6] (fun s5 s6 wr => ∃ (k : Nat) (y : Int), s5 = .int .i64 y ∧ s6 = .int .i64 k ∧ k ≤ n ∧ Hid (degP (p.take k) v = y ∧ Below w.heap.size w wr)) (fun _ s6 _ => n - (intOf s6).toNat)
  case atStart => exact ⟨0, 0, rfl, rfl, Nat.zero_le _, rfl, Below.refl _ _⟩
  case round =>
    obtain ⟨k, y, rfl, rfl, hk, HI⟩ := hrel
    by_cases hkm : k < n
    · have hkp : k < p.length := by rw [HX.out.len]; exact hkm
      obtain ⟨b, off, xm, xa, xn, xc, xp, xq, xr, hbo, hbl, hc, hCn, hBd, hMl⟩ := (HX.out.below HI.out.2).at (k := k) hkm
      subst hbo
      obtain ⟨c0, c1, c2⟩ := hc wr (Below.refl _ _)
      rw [getD_of _ hkp] at hMl
      obtain ⟨d, hd⟩ : ∃ d, expo (p[k]).2 v = d := ⟨_, rfl⟩
      have hN := degP_next2 v k hkp
      rw [HI.out.1, hd] at hN
      have HT : Hid (Ml wr xp xq xr (p[k]).2 ∧ exE (p[k]).2 v = d) := ⟨hMl, by rw [exE_yes (fall_may HF.out _ (List.getElem_mem hkp))]; exact hd⟩
      have HN := hid hN
      have HC := hid hc
      clear hc hCn hBd hMl hbl hN hd
      by_cases hg : d > y
      · have hdd : decide (y < d) = true := decide_eq_true hg
        have HN2 : Hid (degP (p.take (k + 1)) v = d) := by rw [Hid, HN.out, if_pos hg]
        go_wp2_with fail
        refine (degree7_any (show Ml _ xp xq xr (p[k]).2 from HT.out.1) v d (by first | exact HT.out.2 | exact HT2.out.2)).mono ?_
        rintro e w2 ⟨rfl, hB⟩
        have HI2 : Hid (Below w.heap.size w w2) := Below.steps HI.out.2 hB
        have HT2 : Hid (Ml w2 xp xq xr (p[k]).2 ∧ exE (p[k]).2 v = d) := ⟨HT.out.1.below hB, HT.out.2⟩
        clear c0 c1 c2
        obtain ⟨c0, c1, c2⟩ := HC.out w2 hB
        clear hB HI HT HN
        go_wp2_with fail
        refine (degree7_any (show Ml _ xp xq xr (p[k]).2 from HT2.out.1) v d (by first | exact HT.out.2 | exact HT2.out.2)).mono ?_
        rintro e w3 ⟨rfl, hB⟩
        have HI3 : Hid (degP (p.take (k + 1)) v = d ∧ Below w.heap.size w w3) := ⟨HN2.out, Below.steps HI2.out hB⟩
        clear hB HI2 HT2 c0 c1 c2
        go_wp2
        go_roundw
        case rel => exact ⟨k + 1, d, rfl, by go_num, by omega, HI3.out⟩
        case measure => simp [intOf]; omega
      · have hdd : decide (y < d) = false := decide_eq_false hg
        have HN2 : Hid (degP (p.take (k + 1)) v = y) := by rw [Hid, HN.out, if_neg hg]
        go_wp2_with fail
        refine (degree7_any (show Ml _ xp xq xr (p[k]).2 from HT.out.1) v d (by first | exact HT.out.2 | exact HT2.out.2)).mono ?_
        rintro e w2 ⟨rfl, hB⟩
        have HI3 : Hid (degP (p.take (k + 1)) v = y ∧ Below w.heap.size w w2) := ⟨HN2.out, Below.steps HI.out.2 hB⟩
        clear hB HI HT HN c0 c1 c2
        go_wp2
        go_roundw
        case rel => exact ⟨k + 1, y, rfl, by go_num, by omega, HI3.out⟩
        case measure => simp [intOf]; omega
    · obtain rfl : n = k := by omega
      have h := HI.out
      rw [List.take_of_length_le (by rw [HX.out.len]; exact Nat.le_refl _)] at h
      obtain rfl : y = z := by rw [← h.1]; exact HZ.out
      have HH := hid h.2
      clear h HI HX
      go_wp2
      go_ret
      exact ⟨rfl, HH.out⟩
def powP (v e : Int) : List Term := [(1, powM v e)]
theorem powP_fall {v e : Int} (hv : 1 ≤ v ∧ v ≤ 200) (he : 0 ≤ e ∧ e ≤ 10000) : fall (powP v e) := ⟨(by show (1 : Int) ≠ 0; decide), pow_may hv he, (fun _ h => by cases h), trivial⟩
set_option maxHeartbeats 4000000 in
set_option maxRecDepth 100000 in
theorem rpow_any {v e : Int} (hv : in64 v) (he : in64 e) (w : World) : Calls Tryz.prog 116 #[.int .i64 v, .int .i64 e] w (NewPz 3 w (powP v e)) := by
  by_cases h0 : e = 0
  · have hd : (e == 0) = true := by simpa using h0
    have HR : Hid (powP v e = smallT 1) := by subst h0; rfl
    rw [HR.out]
    go_enter Tryz.func116, Tryz.ntmps116
    go_wp2_with fail
    refine (small_any8 1 w (by omega)).mono ?_
    rintro e w1 ⟨ao, k, cap, rfl, hX, hB⟩
    go_wp2_with fail
    go_ret
    exact ⟨_, _, _, rfl, hX, hB⟩
  · have hd : (e == 0) = false := by simpa using h0
    have HR : Hid (powP v e = [(1, [(v, e)])]) := by unfold Hid powP powM; rw [if_neg h0]
    have HV := hid (And.intro hv he)
    rw [HR.out]
    clear hv he h0
    go_enter Tryz.func116, Tryz.ntmps116
    go_wp2_with fail
    refine (zsmall_any 1 w (by omega)).mono ?_
    rintro e2 w1 ⟨m, ao, k, cap, rfl, hX, hB⟩
    have HX := hid hX
    have HB := hid hB
    clear hX hB
    go_wp2_with fail
    go_ret
    have hgl := Gl.lit 3 (w1.alloc (.cells #[.int .i64 v, .int .i64 e] 57)) [.bool m, .slice ao k cap, .slice (some ⟨w1.heap.size, 0, none⟩) 1 1] 59 rfl (by simp [Value.oneCell'])
    rw [show (w1.alloc (.cells #[.int .i64 v, .int .i64 e] 57)).heap.size = w1.heap.size + 1 from by simp] at hgl
    refine ⟨_, _, _, rfl, ⟨_, hgl, ?_⟩, ?_⟩
    · have hM := Ml.lit w1 v e 57 HV.out.1 HV.out.2
      have hZ := (HX.out.below (below_alloc w1 (.cells #[.int .i64 v, .int .i64 e] 57)))
      exact ⟨⟨_, _, _, _, _, _, _, rfl, hZ.below (below_alloc _ _), (bd_small (by omega)).mono (by omega), hM.below (below_alloc _ _)⟩, trivial⟩
    · have h := HB.out.size
      exact (HB.out.alloc h _).alloc (by simp; omega) _
open Lib (hid)
theorem fall_take {k : Nat} : ∀ {p : List Term}, fall p → fall (p.take k)
  | [], _ => by simp [fall]
  | t :: r, h => by
    cases k with
    | zero => trivial
    | succ k => exact ⟨h.1, h.2.1, fun s hs => h.2.2.1 s (List.mem_of_mem_take hs), fall_take h.2.2.2⟩
theorem coef_next {p : List Term} (v e : Int) (k : Nat) (hk : k < p.length) : coefP (p.take (k + 1)) v e = coefP (p.take k) v e ++ if expo (p[k]).2 v = e then [((p[k]).1, outM v (p[k]).2)] else [] := by
  unfold coefP
  rw [List.take_succ_eq_append_getElem hk, List.filter_append, List.map_append]
  congr 1
  by_cases h : expo (p[k]).2 v = e
  · rw [if_pos h, List.filter_cons_of_pos (by simpa using h)]; rfl
  · rw [if_neg h, List.filter_cons_of_neg (by simpa using h)]; rfl
theorem coef_len (v e : Int) (p : List Term) : (coefP p v e).length ≤ p.length := by
  unfold coefP
  rw [List.length_map]
  exact List.length_filter_le _ _
theorem der_next {p : List Term} (v : Int) (k : Nat) (hk : k < p.length) : derP (p.take (k + 1)) v = derP (p.take k) v ++ if 0 < expo (p[k]).2 v then [derT v p[k]] else [] := by
  unfold derP
  rw [List.take_succ_eq_append_getElem hk, List.filter_append, List.map_append]
  congr 1
  by_cases h : 0 < expo (p[k]).2 v
  · rw [if_pos h, List.filter_cons_of_pos (by simpa using h)]; rfl
  · rw [if_neg h, List.filter_cons_of_neg (by simpa using h)]; rfl
theorem der_len (v : Int) (p : List Term) : (derP p v).length ≤ p.length := by
  unfold derP
  rw [List.length_map]
  exact List.length_filter_le _ _
theorem add_one_end {a b : List Term} {t : Term} (ha : fall a) (h : b = a ++ [t]) (hb : fall b) : addT a [t] = b := by
  have ht : mays [t] := fun s hs => by
    simp at hs
    subst hs
    exact fall_may hb s (by rw [h]; simp)
  have h1 := addT_spec ha ht
  exact fall_ext h1.1 hb fun ρ => by rw [h1.2, h, ev_append]
theorem coef_add {a b : List Term} {t : Term} (ha : fall a) (h : b = a ++ [t]) (hb : fall b) : addT a [t] = b := add_one_end ha h hb
theorem der_mul {t : Term} {v d : Int} (hm : mayM 0 t.2 = true) (hv : 1 ≤ v ∧ v ≤ 200) (hd : expo t.2 v = d) (h0 : 0 < d) (hn : t.1 ≠ 0) : (tryT [(t.1 * d, outM v t.2)] (powP v (d - 1))).1 = [derT v t] := by
  have hs := sub_out hm hv (by rw [hd]; exact h0)
  rw [hd] at hs
  have hsm := (subM_may hm hv).2 (by rw [hd]; exact h0)
  have hf : fitT [(t.1 * d, outM v t.2)] (powP v (d - 1)) := by
    intro a ha b hb
    simp [powP] at ha hb
    subst ha
    subst hb
    show mayM 0 (mulM (outM v t.2) (powM v (d - 1))) = true
    rw [hs]; exact hsm
  rw [tryT_yes hf]
  show timesT _ _ = _
  unfold timesT mulL mulT powP
  simp only [List.map_cons, List.map_nil, mulL, List.append_nil]
  rw [hs, Int.mul_one]
  unfold derT
  rw [hd]
  exact ofT_fall ⟨Int.mul_ne_zero hn (by omega), hsm, (fun _ h => by cases h), trivial⟩
section
variable {K : Nat} {ao : Option Addr} {n cap : Nat} {p : List Term} {w : World}
set_option maxHeartbeats 16000000 in
set_option maxRecDepth 100000 in
theorem rcoef_any (v e0 : Int) (hp : Pz K w ao n cap p) (hf : fall p) (hn : n ≤ 1000) (hK : K ≤ 1000) :
    Calls Tryz.prog 50 #[.slice ao n cap, .int .i64 v, .int .i64 e0] w (NewPz (K + n) w (coefP p v e0)) := by
  have hle := hp.le
  have hmb : n ≤ 4398046511104 := by obtain ⟨_, hG, _⟩ := hp.ex; exact hG.big
  have HX := hid hp
  have HF := hid hf
  clear hp hf
  go_enter Tryz.func50, Tryz.ntmps50
  go_wp2
  go_loopw [7, 8] (fun s7 s8 wr => ∃ (k : Nat) (oo : Option Addr) (on oc : Nat), s7 = .slice oo on oc ∧ s8 = .int .i64 k ∧ k ≤ n ∧ Hid (Pz (K + k) wr oo on oc (coefP (p.take k) v e0) ∧ Below w.heap.size w wr)) (fun _ s8 _ => n - (intOf s8).toNat)
  case atStart => exact ⟨0, none, 0, 0, rfl, rfl, Nat.zero_le _, Pz.zero _ _, Below.refl _ _⟩
  case round =>
    obtain ⟨k, oo, on, oc, rfl, rfl, hk, HI⟩ := hrel
    by_cases hkm : k < n
    · have hkp : k < p.length := by rw [HX.out.len]; exact hkm
      obtain ⟨b, off, xm, xa, xn, xc, xp, xq, xr, hbo, hbl, hc, hCn, hBd, hMl⟩ := (HX.out.below HI.out.2).at (k := k) hkm
      subst hbo
      obtain ⟨c0, c1, c2⟩ := hc wr (Below.refl _ _)
      rw [getD_of _ hkp] at hCn hBd hMl
      obtain ⟨d, hd⟩ : ∃ d, expo (p[k]).2 v = d := ⟨_, rfl⟩
      have hmay := fall_may HF.out _ (List.getElem_mem hkp)
      have HT : Hid (Ml wr xp xq xr (p[k]).2 ∧ exE (p[k]).2 v = d ∧ mayM 0 (p[k]).2 = true ∧ Zd wr xm xa xn xc (p[k]).1) := ⟨hMl, by rw [exE_yes hmay]; exact hd, hmay, hCn⟩
      have HD := hid hBd
      have HC := hid hc
      have hln := HI.out.1.len
      have hN := coef_next v e0 k hkp
      rw [hd] at hN
      have hln2 := coef_len v e0 (p.take k)
      rw [List.length_take] at hln2
      have HN := hid hN
      clear hc hCn hBd hMl hbl hd hmay hN
      by_cases hg : d = e0
      · have hdd : (d == e0) = true := by simpa using hg
        have HN2 : Hid (coefP (p.take (k + 1)) v e0 = coefP (p.take k) v e0 ++ [((p[k]).1, outM v (p[k]).2)]) := by rw [Hid, HN.out, if_pos hg]
        have HFK := hid (And.intro (coef_fall (fall_take (k := k) HF.out) v e0) (coef_fall (fall_take (k := k + 1) HF.out) v e0))
        go_wp2_with fail
        refine (degree7_any HT.out.1 v d HT.out.2.1).mono ?_
        rintro e w2 ⟨rfl, hB⟩
        have HI2 : Hid (Pz (K + k) w2 oo on oc (coefP (p.take k) v e0) ∧ Below w.heap.size w w2) := ⟨HI.out.1.below hB, Below.steps HI.out.2 hB⟩
        have HT2 := hid (And.intro (HT.out.1.below hB) (HT.out.2.2.2.below hB))
        have HC2 := hid (HC.out.keep hB)
        have HMY := hid HT.out.2.2.1
        clear hB HI HT HN HC c0 c1 c2
        go_upto_region 6 with (fail)
        refine wp_region_held_drew (S := fun w' => w'.cell? ⟨b, off + k * 3, none⟩ = some (.bool xm) ∧ w'.cell? ⟨b, off + k * 3 + 1, none⟩ = some (.slice xa xn xc) ∧ w'.cell? ⟨b, off + k * 3 + 2, none⟩ = some (.slice xp xq xr)) (by kernel_rfl) (HC2.out _ (Below.refl _ _).drew) (fun hH => ?_)
        refine anyH_world (fun w4 hW => ?_)
        have HI4 : Hid (Pz (K + k) w4 oo on oc (coefP (p.take k) v e0) ∧ Below w.heap.size w w4) := by rw [hW]; exact ⟨HI2.out.1.below (Below.refl _ _).drew, HI2.out.2.drew⟩
        have HT4 : Hid (Ml w4 xp xq xr (p[k]).2 ∧ Zd w4 xm xa xn xc (p[k]).1) := by rw [hW]; exact ⟨HT2.out.1.below (Below.refl _ _).drew, HT2.out.2.below (Below.refl _ _).drew⟩
        have HC4 : Hid (Cell3 w4 b (off + k * 3) (.bool xm) (.slice xa xn xc) (.slice xp xq xr)) := by rw [hW]; exact HC2.out.keep (Below.refl _ _).drew
        rw [← hW] at hH
        clear HI2 HT2 HC2
        clear hW
        refine son 0 hH ?_; try simp only [nrm]
        refine son 1 hH ?_; try simp only [nrm]
        refine son 2 hH ?_; try simp only [nrm]
        refine son 3 hH ?_; try simp only [nrm]
        refine son 4 hH ?_; try simp only [nrm]
        refine son 5 hH ?_; try simp only [nrm]
        refine son 6 hH ?_; try simp only [nrm]
        refine son 7 hH ?_; try simp only [nrm]
        refine son 8 hH ?_; try simp only [nrm]
        refine son 9 hH ?_; try simp only [nrm]
        refine son 10 hH ?_; try simp only [nrm]
        refine son 11 hH ?_; try simp only [nrm]
        refine step_one 12 rfl (by kernel_rfl) (fun KK hK => ?_)
        go_simp
        refine (without7_any HT4.out.1 v).mono ?_
        rintro e w5 ⟨ro, rn, rc, rfl, hR, hB⟩
        rw [orM_yes HMY.out] at hR
        have HI5 : Hid (Pz (K + k) w5 oo on oc (coefP (p.take k) v e0) ∧ Below w.heap.size w w5) := ⟨HI4.out.1.below hB, Below.steps HI4.out.2 hB⟩
        have HZ5 := hid (And.intro (HT4.out.2.below hB) hR)
        have HC5 := hid (HC4.out.keep hB)
        clear HI4 HT4 HC4 hB hR
        go_wp2_with fail
        refine hK.out _ _ (HC5.out _ (Below.refl _ _)) (fun h2 => ?_)
        clear hK KK hH
        have hH := h2
        clear h2
        try simp only [nrm]
        refine son 13 hH ?_; try simp only [nrm]
        refine step_one 14 rfl (by kernel_rfl) (fun KK hK => ?_)
        go_simp
        refine hK.out _ _ (HC5.out _ (below_alloc w5 _)) (fun h2 => ?_)
        clear hK KK hH
        have hH := h2
        clear h2
        try simp only [nrm]
        refine anyH_world (fun w6 hW => ?_)
        have HL6 : Hid (Pz (K + k) w6 (some ⟨w5.heap.size, 0, none⟩) 1 1 [((p[k]).1, outM v (p[k]).2)]) := by rw [hW]; exact ⟨_, Gl.lit 3 w5 [.bool xm, .slice xa xn xc, .slice ro rn rc] _ rfl (by simp [Value.oneCell']), ⟨_, _, _, _, _, _, _, rfl, HZ5.out.1.below (below_alloc w5 _), HD.out.mono (by omega), HZ5.out.2.below (below_alloc w5 _)⟩, trivial⟩
        have HI6 : Hid (Pz (K + k) w6 oo on oc (coefP (p.take k) v e0) ∧ Below w.heap.size w w6) := by rw [hW]; exact ⟨HI5.out.1.below (below_alloc w5 _), Below.steps HI5.out.2 (below_alloc w5 _)⟩
        have HC6 : Hid (Cell3 w6 b (off + k * 3) (.bool xm) (.slice xa xn xc) (.slice xp xq xr)) := by rw [hW]; exact HC5.out.keep (below_alloc w5 _)
        rw [← hW] at hH
        clear HI5 HZ5 HC5
        clear hW
        refine step_one 15 rfl (by kernel_rfl) (fun KK hK => ?_)
        go_simp
        refine (add_any8 HI6.out.1 HL6.out HFK.out.1 (by intro t ht; simp at ht; subst ht; exact out_may HMY.out v) (by omega) (by omega)).mono ?_
        rintro e w7 ⟨so, sn, sc, rfl, hR, hB⟩
        rw [coef_add HFK.out.1 HN2.out HFK.out.2] at hR
        have HI7 : Hid (Pz (K + k + 1) w7 so sn sc (coefP (p.take (k + 1)) v e0) ∧ Below w.heap.size w w7) := ⟨hR, Below.steps HI6.out.2 hB⟩
        have HC7 := hid (HC6.out.keep hB)
        clear HI6 HL6 HC6 hB hR
        go_wp2_with fail
        refine hK.out _ _ (HC7.out _ (Below.refl _ _)) (fun h2 => ?_)
        clear hK KK hH
        have hH := h2
        clear h2
        try simp only [nrm]
        refine son 16 hH ?_; try simp only [nrm]
        refine wpAnyH_done (by kernel_rfl) ?_ _
        go_wp2_with fail
        go_roundw
        case rel => exact ⟨k + 1, so, sn, sc, rfl, by go_num, by omega, HI7.out⟩
        case measure => simp [intOf]; omega
      · have hdd : (d == e0) = false := by simpa using hg
        have HN2 : Hid (coefP (p.take (k + 1)) v e0 = coefP (p.take k) v e0) := by rw [Hid, HN.out, if_neg hg, List.append_nil]
        go_wp2_with fail
        refine (degree7_any HT.out.1 v d HT.out.2.1).mono ?_
        rintro e w2 ⟨rfl, hB⟩
        have HI2 : Hid (Pz (K + (k + 1)) w2 oo on oc (coefP (p.take (k + 1)) v e0) ∧ Below w.heap.size w w2) := by rw [Hid, HN2.out]; exact ⟨(HI.out.1.below hB).mono (by omega), Below.steps HI.out.2 hB⟩
        clear hB HI HT HN HC c0 c1 c2
        go_wp2
        go_roundw
        case rel => exact ⟨k + 1, oo, on, oc, rfl, by go_num, by omega, HI2.out⟩
        case measure => simp [intOf]; omega
    · obtain rfl : n = k := by omega
      have h := HI.out
      rw [List.take_of_length_le (by rw [HX.out.len]; exact Nat.le_refl _)] at h
      have HH := hid h
      clear h HI
      go_wp2
      go_ret
      exact ⟨_, _, _, rfl, HH.out.1, HH.out.2⟩
set_option maxHeartbeats 16000000 in
set_option maxRecDepth 100000 in
theorem rder_any (v : Int) (hp : Pz K w ao n cap p) (hf : fall p) (hn : n ≤ 1000) (hK : K ≤ 1000) :
    Calls Tryz.prog 51 #[.slice ao n cap, .int .i64 v] w (NewPz (K + 5 + n) w (derP p v)) := by
  have hle := hp.le
  have hmb : n ≤ 4398046511104 := by obtain ⟨_, hG, _⟩ := hp.ex; exact hG.big
  have HX := hid hp
  have HF := hid hf
  clear hp hf
  go_enter Tryz.func51, Tryz.ntmps51
  go_wp2
  go_loopw [5, 6] (fun s5 s6 wr => ∃ (k : Nat) (oo : Option Addr) (on oc : Nat), s5 = .slice oo on oc ∧ s6 = .int .i64 k ∧ k ≤ n ∧ Hid (Pz (K + 5 + k) wr oo on oc (derP (p.take k) v) ∧ Below w.heap.size w wr)) (fun _ s6 _ => n - (intOf s6).toNat)
  case atStart => exact ⟨0, none, 0, 0, rfl, rfl, Nat.zero_le _, Pz.zero _ _, Below.refl _ _⟩
  case round =>
    obtain ⟨k, oo, on, oc, rfl, rfl, hk, HI⟩ := hrel
    by_cases hkm : k < n
    · have hkp : k < p.length := by rw [HX.out.len]; exact hkm
      obtain ⟨b, off, xm, xa, xn, xc, xp, xq, xr, hbo, hbl, hc, hCn, hBd, hMl⟩ := (HX.out.below HI.out.2).at (k := k) hkm
      subst hbo
      obtain ⟨c0, c1, c2⟩ := hc wr (Below.refl _ _)
      rw [getD_of _ hkp] at hCn hBd hMl
      obtain ⟨d, hd⟩ : ∃ d, expo (p[k]).2 v = d := ⟨_, rfl⟩
      have hmay := fall_may HF.out _ (List.getElem_mem hkp)
      have HT : Hid (Ml wr xp xq xr (p[k]).2 ∧ exE (p[k]).2 v = d ∧ mayM 0 (p[k]).2 = true ∧ Zd wr xm xa xn xc (p[k]).1) := ⟨hMl, by rw [exE_yes hmay]; exact hd, hmay, hCn⟩
      have HD := hid hBd
      have HC := hid hc
      have hln := HI.out.1.len
      have hN := der_next v k hkp
      rw [hd] at hN
      have hln2 := der_len v (p.take k)
      rw [List.length_take] at hln2
      have hdb := may_bd hmay v
      rw [hd] at hdb
      have HN := hid hN
      have HDE := hid hd
      clear hc hCn hBd hMl hbl hd hmay hN
      by_cases hg : 0 < d
      · have hdd : decide (0 < d) = true := decide_eq_true hg
        have HN2 : Hid (derP (p.take (k + 1)) v = derP (p.take k) v ++ [derT v p[k]]) := by rw [Hid, HN.out, if_pos hg]
        have HFK := hid (And.intro (der_fall (fall_take (k := k) HF.out) v) (der_fall (fall_take (k := k + 1) HF.out) v))
        have HV := hid (var_of HT.out.2.2.1 (by rw [HDE.out]; exact hg))
        go_wp2_with fail
        refine (degree7_any HT.out.1 v d HT.out.2.1).mono ?_
        rintro e w2 ⟨rfl, hB⟩
        have HI2 : Hid (Pz (K + 5 + k) w2 oo on oc (derP (p.take k) v) ∧ Below w.heap.size w w2) := ⟨HI.out.1.below hB, Below.steps HI.out.2 hB⟩
        have HT2 := hid (And.intro (HT.out.1.below hB) (HT.out.2.2.2.below hB))
        have HC2 := hid (HC.out.keep hB)
        have HMY := hid HT.out.2.2.1
        clear hB HI HT HN HC c0 c1 c2
        go_upto_region 7 with (fail)
        refine wp_region_held_drew (S := fun w' => w'.cell? ⟨b, off + k * 3, none⟩ = some (.bool xm) ∧ w'.cell? ⟨b, off + k * 3 + 1, none⟩ = some (.slice xa xn xc) ∧ w'.cell? ⟨b, off + k * 3 + 2, none⟩ = some (.slice xp xq xr)) (by kernel_rfl) (HC2.out _ (Below.refl _ _).drew) (fun hH => ?_)
        refine anyH_world (fun w4 hW => ?_)
        have HI4 : Hid (Pz (K + 5 + k) w4 oo on oc (derP (p.take k) v) ∧ Below w.heap.size w w4) := by rw [hW]; exact ⟨HI2.out.1.below (Below.refl _ _).drew, HI2.out.2.drew⟩
        have HT4 : Hid (Ml w4 xp xq xr (p[k]).2 ∧ Zd w4 xm xa xn xc (p[k]).1) := by rw [hW]; exact ⟨HT2.out.1.below (Below.refl _ _).drew, HT2.out.2.below (Below.refl _ _).drew⟩
        have HC4 : Hid (Cell3 w4 b (off + k * 3) (.bool xm) (.slice xa xn xc) (.slice xp xq xr)) := by rw [hW]; exact HC2.out.keep (Below.refl _ _).drew
        rw [← hW] at hH
        clear HI2 HT2 HC2
        clear hW
        refine son 0 hH ?_; try simp only [nrm]
        refine son 1 hH ?_; try simp only [nrm]
        refine son 2 hH ?_; try simp only [nrm]
        refine son 3 hH ?_; try simp only [nrm]
        refine son 4 hH ?_; try simp only [nrm]
        refine son 5 hH ?_; try simp only [nrm]
        refine son 8 hH ?_; try simp only [nrm]
        refine son 9 hH ?_; try simp only [nrm]
        refine son 10 hH ?_; try simp only [nrm]
        refine son 11 hH ?_; try simp only [nrm]
        refine son 12 hH ?_; try simp only [nrm]
        refine son 13 hH ?_; try simp only [nrm]
        refine step_one 6 rfl (by kernel_rfl) (fun KK hK => ?_)
        go_simp
        refine (zsmall_any d _ (by omega)).mono ?_
        rintro e w5 ⟨om, ob, oi, od, rfl, hX, hB⟩
        have HI5 : Hid (Pz (K + 5 + k) w5 oo on oc (derP (p.take k) v) ∧ Below w.heap.size w w5) := ⟨HI4.out.1.below hB, Below.steps HI4.out.2 hB⟩
        have HT5 := hid (And.intro (HT4.out.1.below hB) (HT4.out.2.below hB))
        have HC5 := hid (HC4.out.keep hB)
        have HO5 := hid hX
        have HOB : Hid (Bd d 1) := by unfold Hid Bd; omega
        clear HI4 HT4 HC4 hB hX
        go_wp2_with fail
        refine hK.out _ _ (HC5.out _ (Below.refl _ _)) (fun h2 => ?_)
        clear hK KK hH
        have hH := h2
        clear h2
        try simp only [nrm]
        refine step_one 7 rfl (by kernel_rfl) (fun KK hK => ?_)
        go_simp
        refine (zmul_any (HT5.out.2.zx HD.out (by omega)) (HO5.out.zx HOB.out (by omega))).mono ?_
        rintro e w6 ⟨pm, pa, pn, pc, rfl, hX, hB⟩
        have HI6 : Hid (Pz (K + 5 + k) w6 oo on oc (derP (p.take k) v) ∧ Below w.heap.size w w6) := ⟨HI5.out.1.below hB, Below.steps HI5.out.2 hB⟩
        have HT6 := hid (HT5.out.1.below hB)
        have HC6 := hid (HC5.out.keep hB)
        have HP6 := hid (And.intro hX (HD.out.mul HOB.out))
        clear HI5 HT5 HC5 HO5 HOB hB hX
        go_wp2_with fail
        refine hK.out _ _ (HC6.out _ (Below.refl _ _)) (fun h2 => ?_)
        clear hK KK hH
        have hH := h2
        clear h2
        try simp only [nrm]
        refine step_one 14 rfl (by kernel_rfl) (fun KK hK => ?_)
        go_simp
        refine (without7_any HT6.out v).mono ?_
        rintro e w7 ⟨ro, rn, rc, rfl, hR, hB⟩
        rw [orM_yes HMY.out] at hR
        have HI7 : Hid (Pz (K + 5 + k) w7 oo on oc (derP (p.take k) v) ∧ Below w.heap.size w w7) := ⟨HI6.out.1.below hB, Below.steps HI6.out.2 hB⟩
        have HZ7 := hid (And.intro (And.intro (HP6.out.1.below hB) HP6.out.2) hR)
        have HC7 := hid (HC6.out.keep hB)
        clear HI6 HT6 HC6 HP6 hB hR
        go_wp2_with fail
        refine hK.out _ _ (HC7.out _ (Below.refl _ _)) (fun h2 => ?_)
        clear hK KK hH
        have hH := h2
        clear h2
        try simp only [nrm]
        refine son 15 hH ?_; try simp only [nrm]
        refine step_one 16 rfl (by kernel_rfl) (fun KK hK => ?_)
        go_simp
        refine hK.out _ _ (HC7.out _ (below_alloc w7 _)) (fun h2 => ?_)
        clear hK KK hH
        have hH := h2
        clear h2
        try simp only [nrm]
        refine anyH_world (fun w8 hW => ?_)
        obtain ⟨g, hgg⟩ : ∃ g, g = w7.heap.size := ⟨_, rfl⟩
        have HL8 : Hid (Pz (K + 1) w8 (some ⟨g, 0, none⟩) 1 1 [((p[k]).1 * d, outM v (p[k]).2)]) := by rw [hW, hgg]; exact ⟨_, Gl.lit 3 w7 [.bool pm, .slice pa pn pc, .slice ro rn rc] _ rfl (by simp [Value.oneCell']), ⟨_, _, _, _, _, _, _, rfl, HZ7.out.1.1.below (below_alloc w7 _), HZ7.out.1.2, HZ7.out.2.below (below_alloc w7 _)⟩, trivial⟩
        have HI8 : Hid (Pz (K + 5 + k) w8 oo on oc (derP (p.take k) v) ∧ Below w.heap.size w w8) := by rw [hW]; exact ⟨HI7.out.1.below (below_alloc w7 _), Below.steps HI7.out.2 (below_alloc w7 _)⟩
        rw [← hW] at hH
        rw [← hgg]
        clear HI7 HZ7 HC7 hgg
        clear hW
        refine son 17 hH ?_; try simp only [nrm]
        clear hH
        refine wpAnyH_done (by kernel_rfl) ?_ _
        have hw1 : IntKind.i64.wrap (d - 1) = d - 1 := IntWalk.i64_in _ ⟨by omega, by omega⟩
        go_wp2_with fail
        refine (rpow_any (v := v) (e := d - 1) (by have := HV.out; unfold in64; omega) (by unfold in64; omega) w8).mono ?_
        rintro e w9 ⟨qo, qn, qc, rfl, hR, hB⟩
        obtain rfl : qn = 1 := hR.len.symm
        have HI9 : Hid (Pz (K + 5 + k) w9 oo on oc (derP (p.take k) v) ∧ Below w.heap.size w w9) := ⟨HI8.out.1.below hB, Below.steps HI8.out.2 hB⟩
        have HL9 := hid (And.intro (HL8.out.below hB) hR)
        clear HI8 HL8 hB hR hw1
        go_wp2_with fail
        refine (mul_any8 HL9.out.1 HL9.out.2 (by intro t ht; simp at ht; subst ht; exact out_may HMY.out v) (fall_mays (powP_fall HV.out (by omega))) (by omega)).mono ?_
        rintro e wa ⟨mo, mn, mc, rfl, hR, hB⟩
        rw [der_mul HMY.out HV.out HDE.out hg (fall_nz HF.out _ (List.getElem_mem hkp))] at hR
        have HIa : Hid (Pz (K + 5 + k) wa oo on oc (derP (p.take k) v) ∧ Below w.heap.size w wa) := ⟨HI9.out.1.below hB, Below.steps HI9.out.2 hB⟩
        have HLa : Hid (Pz (K + 5 + k) wa mo mn mc [derT v p[k]]) := hR.mono (by omega)
        obtain rfl : mn = 1 := HLa.out.len.symm
        clear HI9 HL9 hB hR
        go_wp2_with fail
        refine (add_any8 HIa.out.1 HLa.out HFK.out.1 (by intro t ht; simp at ht; subst ht; exact (subM_may HMY.out HV.out).2 (by rw [HDE.out]; exact hg)) (by omega) (by omega)).mono ?_
        rintro e wb ⟨so, sn, sc, rfl, hR, hB⟩
        rw [add_one_end HFK.out.1 HN2.out HFK.out.2] at hR
        have HIb : Hid (Pz (K + 5 + k + 1) wb so sn sc (derP (p.take (k + 1)) v) ∧ Below w.heap.size w wb) := ⟨hR, Below.steps HIa.out.2 hB⟩
        clear HIa HLa hB hR
        go_wp2_with fail
        go_roundw
        case rel => exact ⟨k + 1, so, sn, sc, rfl, by go_num, by omega, HIb.out⟩
        case measure => simp [intOf]; omega
      · have hdd : decide (0 < d) = false := decide_eq_false hg
        have HN2 : Hid (derP (p.take (k + 1)) v = derP (p.take k) v) := by rw [Hid, HN.out, if_neg hg, List.append_nil]
        go_wp2_with fail
        refine (degree7_any HT.out.1 v d HT.out.2.1).mono ?_
        rintro e w2 ⟨rfl, hB⟩
        have HI2 : Hid (Pz (K + 5 + (k + 1)) w2 oo on oc (derP (p.take (k + 1)) v) ∧ Below w.heap.size w w2) := by rw [Hid, HN2.out]; exact ⟨(HI.out.1.below hB).mono (by omega), Below.steps HI.out.2 hB⟩
        clear hB HI HT HN HC c0 c1 c2
        go_wp2
        go_roundw
        case rel => exact ⟨k + 1, oo, on, oc, rfl, by go_num, by omega, HI2.out⟩
        case measure => simp [intOf]; omega
    · obtain rfl : n = k := by omega
      have h := HI.out
      rw [List.take_of_length_le (by rw [HX.out.len]; exact Nat.le_refl _)] at h
      have HH := hid h
      clear h HI
      go_wp2
      go_ret
      exact ⟨_, _, _, rfl, HH.out.1, HH.out.2⟩
set_option maxHeartbeats 4000000 in
theorem rinit_any (hp : Pz K w ao n cap p) (hf : fall p) (hn : n ≤ 1000) (hK : K ≤ 1000) :
    Calls Tryz.prog 57 #[.slice ao n cap] w (NewPz (K + n) w (initP p)) := by
  obtain ⟨c, hc⟩ : ∃ c, clsP p = c := ⟨_, rfl⟩
  by_cases h0 : c = 0
  · have hd : (c == 0) = true := by simpa using h0
    have HR : Hid (initP p = p) := init_cls0 hf (by rw [hc]; exact h0)
    rw [HR.out]
    go_enter Tryz.func57, Tryz.ntmps57
    go_wp2_with fail
    refine (rcls_any c hp hf hc).mono ?_
    rintro e w1 ⟨rfl, hB⟩
    go_wp2_with fail
    go_ret
    exact ⟨_, _, _, rfl, (hp.below hB).mono (by omega), hB⟩
  · have hd : (c == 0) = false := by simpa using h0
    obtain ⟨d, hdd⟩ : ∃ d, degP p c = d := ⟨_, rfl⟩
    have HR : Hid (initP p = coefP p c d) := by unfold Hid initP; rw [hc, hdd]
    rw [HR.out]
    go_enter Tryz.func57, Tryz.ntmps57
    go_wp2_with fail
    refine (rcls_any c hp hf hc).mono ?_
    rintro e w1 ⟨rfl, hB⟩
    have HX := hid (hp.below hB)
    have HF := hid hf
    clear hp hf
    go_wp2_with fail
    refine (rdeg_any c d HX.out HF.out hdd).mono ?_
    rintro e w2 ⟨rfl, hB2⟩
    go_wp2_with fail
    refine (rcoef_any c d (HX.out.below hB2) HF.out hn hK).mono ?_
    rintro e w3 ⟨ro, rn, rc, rfl, hR, hB3⟩
    go_wp2_with fail
    go_ret
    exact ⟨_, _, _, rfl, hR, Below.steps (Below.steps hB hB2) hB3⟩
theorem init_len (p : List Term) : (initP p).length ≤ p.length := coef_len _ _ p
theorem init_fit {p : List Term} (hf : fall p) (hc : 0 < clsP p) : fitT (initP p) (powP (clsP p) (degP p (clsP p))) := by
  have hb := clsP_bd hf
  intro a ha b hb2
  simp [powP] at hb2
  subst hb2
  unfold initP coefP at ha
  obtain ⟨t, ht, rfl⟩ := List.mem_map.1 ha
  have ht2 := List.mem_filter.1 ht
  have he : expo t.2 (clsP p) = degP p (clsP p) := by simpa using ht2.2
  show mayM 0 (mulM (outM (clsP p) t.2) (powM (clsP p) (degP p (clsP p)))) = true
  rw [← he, out_back (fall_may hf t ht2.1) (by omega)]
  exact fall_may hf t ht2.1
theorem tail_split {c d : Int} (hv : 1 ≤ c ∧ c ≤ 200) (ρ : Nat → Int) : ∀ {p : List Term}, mays p →
    lin (fun m => evM m ρ) p - lin (fun m => if (expo m c == d) = true then evM (outM c m) ρ else 0) p * evM (powM c d) ρ = lin (fun m => if (!(expo m c == d)) = true then evM m ρ else 0) p
  | [], _ => by simp [lin]
  | t :: r, hm => by
    have ih := tail_split (d := d) hv ρ (p := r) (fun s hs => hm s (by simp [hs]))
    simp only [lin]
    by_cases h : expo t.2 c = d
    · have h5 := evM_out (hm t (by simp)) hv ρ
      rw [h] at h5
      simp only [h, beq_self_eq_true, if_true, Bool.not_true, Bool.false_eq_true, if_false]
      rw [h5]
      grind
    · have h6 : (expo t.2 c == d) = false := by simpa using h
      simp only [h6, Bool.not_false, if_true, Bool.false_eq_true, if_false]
      grind
theorem tail_sub {p : List Term} (hf : fall p) (hc : 0 < clsP p) : subT p (tryT (initP p) (powP (clsP p) (degP p (clsP p)))).1 = tailP p := by
  have hb := clsP_bd hf
  have hft := init_fit hf hc
  have hv : 1 ≤ clsP p ∧ clsP p ≤ 200 := by omega
  have hpw := fall_mays (powP_fall hv ⟨degP_zero p (clsP p), degP_le (fall_mays hf) (clsP p)⟩)
  rw [tryT_yes hft]
  have h1 := timesT_spec (fall_mays (init_fall hf)) hpw hft
  have h2 := subT_spec hf (fall_mays h1.1)
  refine fall_ext h2.1 (tail_fall hf) fun ρ => ?_
  rw [h2.2, h1.2]
  obtain ⟨c, hcc⟩ : ∃ c, clsP p = c := ⟨_, rfl⟩
  obtain ⟨d, hdd⟩ : ∃ d, degP p c = d := ⟨_, rfl⟩
  unfold initP tailP
  rw [hcc, hdd]
  rw [← lin_ev (coefP p c d), lin_coef, ← lin_ev (p.filter _), lin_filter (fun m => evM m ρ) (fun m => !(expo m c == d)) p, ← lin_ev p]
  show _ - _ * ev [(1, powM c d)] ρ = _
  have e1 : ev [(1, powM c d)] ρ = evM (powM c d) ρ := by simp [ev]
  rw [e1]
  rw [hcc] at hv
  exact tail_split hv ρ (fall_mays hf)
set_option maxHeartbeats 4000000 in
theorem rtail_any (hp : Pz K w ao n cap p) (hf : fall p) (hn : n ≤ 1000) (hK : K ≤ 1000) :
    Calls Tryz.prog 59 #[.slice ao n cap] w (NewPz (K + n + 3 + n + n) w (tailP p)) := by
  obtain ⟨c, hc⟩ : ∃ c, clsP p = c := ⟨_, rfl⟩
  by_cases h0 : c = 0
  · have hd : (c == 0) = true := by simpa using h0
    have HR : Hid (tailP p = []) := tail_cls0 hf (by rw [hc]; exact h0)
    rw [HR.out]
    go_enter Tryz.func59, Tryz.ntmps59
    go_wp2_with fail
    refine (rcls_any c hp hf hc).mono ?_
    rintro e w1 ⟨rfl, hB⟩
    go_wp2_with fail
    go_ret
    exact ⟨_, _, _, rfl, Pz.zero _ _, hB⟩
  · have hd : (c == 0) = false := by simpa using h0
    have hcb := clsP_bd hf
    rw [hc] at hcb
    obtain ⟨d, hdd⟩ : ∃ d, degP p c = d := ⟨_, rfl⟩
    have hdb := degP_le (fall_mays hf) c
    have hd0 := degP_zero p c
    rw [hdd] at hdb hd0
    have HR : Hid (subT p (tryT (initP p) (powP c d)).1 = tailP p) := by have h := tail_sub hf (by omega); rw [hc, hdd] at h; exact h
    rw [← HR.out]
    have hil := init_len p
    have hpl := hp.len
    have HI := hid (init_fall hf)
    go_enter Tryz.func59, Tryz.ntmps59
    go_wp2_with fail
    refine (rcls_any c hp hf hc).mono ?_
    rintro e w1 ⟨rfl, hB⟩
    have HX := hid (hp.below hB)
    have HF := hid hf
    have HB := hid hB
    clear hp hf hB
    go_wp2_with fail
    refine (rinit_any HX.out HF.out hn hK).mono ?_
    rintro e w2 ⟨ro, rn, rc, rfl, hR, hB⟩
    have hrl := hR.len
    have HX2 := hid (HX.out.below hB)
    have HI2 := hid hR
    have HB2 := hid (Below.steps HB.out hB)
    clear hR hB HX HB
    go_wp2_with fail
    refine (rdeg_any c d HX2.out HF.out hdd).mono ?_
    rintro e w3 ⟨rfl, hB⟩
    have HX3 := hid (HX2.out.below hB)
    have HI3 := hid (HI2.out.below hB)
    have HB3 := hid (Below.steps HB2.out hB)
    clear hB HX2 HB2 HI2
    go_wp2_with fail
    refine (rpow_any (v := c) (e := d) (by unfold in64; omega) (by unfold in64; omega) w3).mono ?_
    rintro e w4 ⟨qo, qn, qc, rfl, hR, hB⟩
    obtain rfl : qn = 1 := hR.len.symm
    have HX4 := hid (HX3.out.below hB)
    have HI4 := hid (And.intro (HI3.out.below hB) hR)
    have HB4 := hid (Below.steps HB3.out hB)
    clear hB HX3 HB3 HI3 hR
    go_wp2_with fail
    refine (mul_any8 HI4.out.1 HI4.out.2 (fall_mays HI.out) (fall_mays (powP_fall (v := c) (e := d) (by omega) (by omega))) (by omega)).mono ?_
    rintro e w5 ⟨mo, mn, mc, rfl, hR, hB⟩
    have hml := hR.len
    have hml2 := tryT_length (initP p) (powP c d)
    have hml3 : (powP c d).length = 1 := rfl
    rw [hml3, Nat.mul_one] at hml2
    have hfm := tryT_fall (fall_mays HI.out) (fall_mays (powP_fall (v := c) (e := d) (by omega) (by omega)))
    have HX5 := hid (HX4.out.below hB)
    have HM5 := hid (hR.mono (show K + n + 3 + rn * 1 ≤ K + n + 3 + n by omega))
    have HB5 := hid (Below.steps HB4.out hB)
    have HFM := hid hfm
    clear hB HX4 HB4 HI4 hR hfm
    go_wp2_with fail
    refine (sub_any8 (HX5.out.mono (show K ≤ K + n + 3 + n by omega)) HM5.out HF.out (fall_mays HFM.out) (by omega) (by omega)).mono ?_
    rintro e w6 ⟨so, sn, sc, rfl, hR, hB⟩
    go_wp2_with fail
    go_ret
    exact ⟨_, _, _, rfl, hR.mono (by omega), Below.steps HB5.out hB⟩
end
end Go.Proofs.YtmaanhmdgmjhdaaGreat

/- VRefA, VRef -/
import Derived.Test.YtmmgipcacceakaaGreatGV
set_option maxHeartbeats 40000000
set_option maxRecDepth 100000
namespace Go.Proofs.YtmmgipcacceakaaGreat
open Lib (hid)
open Go.RowKit
theorem Pz.at [Ol] {K : Nat} {w : World} {ao : Option Addr} {n cap : Nat} {p : List Term} (h : Pz K w ao n cap p) {k : Nat} (hk : k < n) :
  ∃ b off xm xa xn xc xp xq xr, ao = some ⟨b, off, none⟩ ∧ b < w.heap.size ∧ Cell3 w b (off + k * 3) (.bool xm) (.slice xa xn xc) (.slice xp xq xr) ∧ Zd w xm xa xn xc (p.getD k (0, [])).1 ∧ Bd (p.getD k (0, [])).1 K ∧ Ml w xp xq xr (p.getD k (0, [])).2 := by
 have hl := h.len; obtain ⟨vss, hG, hT⟩ := h.ex
 obtain ⟨b, off, rfl, hb⟩ := hG.some_of (by omega)
 obtain ⟨xm, xa, xn, xc, xp, xq, xr, hv, h1, h2, h3⟩ := Tms.get (0, []) hT k (by omega)
 exact ⟨b, off, xm, xa, xn, xc, xp, xq, xr, rfl, hb, hG.cell3 hk hv, h1, h2, h3⟩
theorem Cell3.keep {w V : World} {b o : Nat} {u0 u1 u2 : Value} (h : Cell3 w b o u0 u1 u2) (hV : Below w.heap.size w V) : Cell3 V b o u0 u1 u2 := fun W hW => h W (Below.steps hV hW)
def clsQ (p : List Term) : Int := p.foldl (fun a t => if clsM t.2 > a then clsM t.2 else a) 0
theorem clsQ_next {p : List Term} (k : Nat) (hk : k < p.length) : clsQ (p.take (k + 1)) = if clsM (p[k]).2 > clsQ (p.take k) then clsM (p[k]).2 else clsQ (p.take k) := by
 unfold clsQ
 rw [List.take_succ_eq_append_getElem hk, List.foldl_append]
 rfl
theorem foldQ (c : Int) : ∀ (p : List Term) (a : Int), a ≤ c → (∀ t ∈ p, clsM t.2 ≤ c) → (a = c ∨ ∃ t ∈ p, clsM t.2 = c) → p.foldl (fun a t => if clsM t.2 > a then clsM t.2 else a) a = c
 | [], a, _, _, h => by
  rcases h with h | ⟨t, ht, _⟩
  ·exact h
  ·cases ht
 | s :: r, a, h1, h2, h3 => by
  have hs := h2 s (by simp)
  simp only [List.foldl_cons]
  refine foldQ c r _ (by split <;> omega) (fun t ht => h2 t (by simp [ht])) ?_
  rcases h3 with h3 | ⟨t, ht, h3⟩
  ·left; split <;> omega
  ·rcases List.mem_cons.1 ht with rfl | ht
   ·left; split <;> omega
   ·exact .inr ⟨t, ht, h3⟩
theorem clsQ_fall {p : List Term} (h : fall p) : clsQ p = clsP p := by
 unfold clsQ
 refine foldQ _ p 0 (clsP_bd h).1 (fun t ht => clsP_ge h ht) ?_
 cases p with
 | nil => exact .inl rfl
 | cons t r => exact .inr ⟨t, by simp, rfl⟩
theorem degP_next2 {p : List Term} (v : Int) (k : Nat) (hk : k < p.length) : degP (p.take (k + 1)) v = if expo (p[k]).2 v > degP (p.take k) v then expo (p[k]).2 v else degP (p.take k) v := by
 rw [degP_next v k hk]
 split <;> omega
theorem rcls_any [Ol] (z : Int) {K : Nat} {ao : Option Addr} {n cap : Nat} {p : List Term} {w : World} (hp : Pz K w ao n cap p) (hf : fall p) (hz : clsP p = z) :
  Calls Tryz.prog 66 #[.slice ao n cap] w (RetB (.int .i64 z) w) := by
 have hle := hp.le
 have hmb : n ≤ 4398046511104 := by obtain ⟨_, hG, _⟩ := hp.ex; exact hG.big
 have HX := hid hp; have HF := hid hf
 have HZ : Hid (clsQ p = z) := by rw [Hid, clsQ_fall hf]; exact hz
 clear hp hf hz
 go_enter Tryz.func66, Tryz.ntmps66
 go_wp2
 go_loopw [3, 4] (fun s5 s6 wr => ∃ (k : Nat) (y : Int), s5 = .int .i64 y ∧ s6 = .int .i64 k ∧ k ≤ n ∧ Hid (clsQ (p.take k) = y ∧ Below w.heap.size w wr)) (fun _ s6 _ => n - (intOf s6).toNat)
 case atStart => exact ⟨0, 0, rfl, rfl, Nat.zero_le _, rfl, Below.refl _ _⟩
 case round =>
  obtain ⟨k, y, rfl, rfl, hk, HI⟩ := hrel
  by_cases hkm : k < n
  ·have hkp : k < p.length := by rw [HX.out.len]; exact hkm
   obtain ⟨b, off, xm, xa, xn, xc, xp, xq, xr, hbo, hbl, hc, hCn, hBd, hMl⟩ := (HX.out.below HI.out.2).at (k := k) hkm; subst hbo; obtain ⟨c0, c1, c2⟩ := hc wr (Below.refl _ _); rw [getD_of _ hkp] at hMl; obtain ⟨d, hd⟩ : ∃ d, clsM (p[k]).2 = d := ⟨_, rfl⟩; have hN := clsQ_next k hkp; rw [HI.out.1, hd] at hN
   have HT : Hid (Ml wr xp xq xr (p[k]).2 ∧ clsM (orM (p[k]).2) = d) := ⟨hMl, by rw [orM_yes (fall_may HF.out _ (List.getElem_mem hkp))]; exact hd⟩
   have HN := hid hN; have HC := hid hc; clear hc hCn hBd hMl hbl hN hd
   by_cases hg : d > y
   ·have hdd : decide (y < d) = true := decide_eq_true hg
    have HN2 : Hid (clsQ (p.take (k + 1)) = d) := by rw [Hid, HN.out, if_pos hg]
    go_wp2_with fail
    refine (class7_any (show Ml _ xp xq xr (p[k]).2 from HT.out.1) d (by first | exact HT.out.2 | exact HT2.out.2)).mono ?_
    rintro e w2 ⟨rfl, hB⟩
    have HI2 : Hid (Below w.heap.size w w2) := Below.steps HI.out.2 hB
    have HT2 : Hid (Ml w2 xp xq xr (p[k]).2 ∧ clsM (orM (p[k]).2) = d) := ⟨HT.out.1.below hB, HT.out.2⟩
    clear c0 c1 c2; obtain ⟨c0, c1, c2⟩ := HC.out w2 hB; clear hB HI HT HN; go_wp2_with fail
    refine (class7_any (show Ml _ xp xq xr (p[k]).2 from HT2.out.1) d (by first | exact HT.out.2 | exact HT2.out.2)).mono ?_
    rintro e w3 ⟨rfl, hB⟩
    have HI3 : Hid (clsQ (p.take (k + 1)) = d ∧ Below w.heap.size w w3) := ⟨HN2.out, Below.steps HI2.out hB⟩
    clear hB HI2 HT2 c0 c1 c2
    go_wp2
    go_roundw
    case rel => exact ⟨k + 1, d, rfl, by go_num, by omega, HI3.out⟩
    case measure => simp [intOf]; omega
   ·have hdd : decide (y < d) = false := decide_eq_false hg
    have HN2 : Hid (clsQ (p.take (k + 1)) = y) := by rw [Hid, HN.out, if_neg hg]
    go_wp2_with fail
    refine (class7_any (show Ml _ xp xq xr (p[k]).2 from HT.out.1) d (by first | exact HT.out.2 | exact HT2.out.2)).mono ?_
    rintro e w2 ⟨rfl, hB⟩
    have HI3 : Hid (clsQ (p.take (k + 1)) = y ∧ Below w.heap.size w w2) := ⟨HN2.out, Below.steps HI.out.2 hB⟩
    clear hB HI HT HN c0 c1 c2
    go_wp2
    go_roundw
    case rel => exact ⟨k + 1, y, rfl, by go_num, by omega, HI3.out⟩
    case measure => simp [intOf]; omega
  ·obtain rfl : n = k := by omega
   have h := HI.out
   rw [List.take_of_length_le (by rw [HX.out.len]; exact Nat.le_refl _)] at h
   obtain rfl : y = z := by rw [← h.1]; exact HZ.out
   have HH := hid h.2; clear h HI HX
   go_wp2
   go_ret
   exact ⟨rfl, HH.out⟩
theorem rdeg_any [Ol] (v : Int) (z : Int) {K : Nat} {ao : Option Addr} {n cap : Nat} {p : List Term} {w : World} (hp : Pz K w ao n cap p) (hf : fall p) (hz : degP p v = z) :
  Calls Tryz.prog 67 #[.slice ao n cap, .int .i64 v] w (RetB (.int .i64 z) w) := by
 have hle := hp.le
 have hmb : n ≤ 4398046511104 := by obtain ⟨_, hG, _⟩ := hp.ex; exact hG.big
 have HX := hid hp; have HF := hid hf
 have HZ : Hid (degP p v = z) := hz
 clear hp hf hz
 go_enter Tryz.func67, Tryz.ntmps67
 go_wp2
 go_loopw [5, 6] (fun s5 s6 wr => ∃ (k : Nat) (y : Int), s5 = .int .i64 y ∧ s6 = .int .i64 k ∧ k ≤ n ∧ Hid (degP (p.take k) v = y ∧ Below w.heap.size w wr)) (fun _ s6 _ => n - (intOf s6).toNat)
 case atStart => exact ⟨0, 0, rfl, rfl, Nat.zero_le _, rfl, Below.refl _ _⟩
 case round =>
  obtain ⟨k, y, rfl, rfl, hk, HI⟩ := hrel
  by_cases hkm : k < n
  ·have hkp : k < p.length := by rw [HX.out.len]; exact hkm
   obtain ⟨b, off, xm, xa, xn, xc, xp, xq, xr, hbo, hbl, hc, hCn, hBd, hMl⟩ := (HX.out.below HI.out.2).at (k := k) hkm; subst hbo; obtain ⟨c0, c1, c2⟩ := hc wr (Below.refl _ _); rw [getD_of _ hkp] at hMl; obtain ⟨d, hd⟩ : ∃ d, expo (p[k]).2 v = d := ⟨_, rfl⟩; have hN := degP_next2 v k hkp; rw [HI.out.1, hd] at hN
   have HT : Hid (Ml wr xp xq xr (p[k]).2 ∧ exE (p[k]).2 v = d) := ⟨hMl, by rw [exE_yes (fall_may HF.out _ (List.getElem_mem hkp))]; exact hd⟩
   have HN := hid hN; have HC := hid hc; clear hc hCn hBd hMl hbl hN hd
   by_cases hg : d > y
   ·have hdd : decide (y < d) = true := decide_eq_true hg
    have HN2 : Hid (degP (p.take (k + 1)) v = d) := by rw [Hid, HN.out, if_pos hg]
    go_wp2_with fail
    refine (degree7_any (show Ml _ xp xq xr (p[k]).2 from HT.out.1) v d (by first | exact HT.out.2 | exact HT2.out.2)).mono ?_
    rintro e w2 ⟨rfl, hB⟩
    have HI2 : Hid (Below w.heap.size w w2) := Below.steps HI.out.2 hB
    have HT2 : Hid (Ml w2 xp xq xr (p[k]).2 ∧ exE (p[k]).2 v = d) := ⟨HT.out.1.below hB, HT.out.2⟩
    clear c0 c1 c2; obtain ⟨c0, c1, c2⟩ := HC.out w2 hB; clear hB HI HT HN; go_wp2_with fail
    refine (degree7_any (show Ml _ xp xq xr (p[k]).2 from HT2.out.1) v d (by first | exact HT.out.2 | exact HT2.out.2)).mono ?_
    rintro e w3 ⟨rfl, hB⟩
    have HI3 : Hid (degP (p.take (k + 1)) v = d ∧ Below w.heap.size w w3) := ⟨HN2.out, Below.steps HI2.out hB⟩
    clear hB HI2 HT2 c0 c1 c2
    go_wp2
    go_roundw
    case rel => exact ⟨k + 1, d, rfl, by go_num, by omega, HI3.out⟩
    case measure => simp [intOf]; omega
   ·have hdd : decide (y < d) = false := decide_eq_false hg
    have HN2 : Hid (degP (p.take (k + 1)) v = y) := by rw [Hid, HN.out, if_neg hg]
    go_wp2_with fail
    refine (degree7_any (show Ml _ xp xq xr (p[k]).2 from HT.out.1) v d (by first | exact HT.out.2 | exact HT2.out.2)).mono ?_
    rintro e w2 ⟨rfl, hB⟩
    have HI3 : Hid (degP (p.take (k + 1)) v = y ∧ Below w.heap.size w w2) := ⟨HN2.out, Below.steps HI.out.2 hB⟩
    clear hB HI HT HN c0 c1 c2
    go_wp2
    go_roundw
    case rel => exact ⟨k + 1, y, rfl, by go_num, by omega, HI3.out⟩
    case measure => simp [intOf]; omega
  ·obtain rfl : n = k := by omega
   have h := HI.out
   rw [List.take_of_length_le (by rw [HX.out.len]; exact Nat.le_refl _)] at h
   obtain rfl : y = z := by rw [← h.1]; exact HZ.out
   have HH := hid h.2; clear h HI HX
   go_wp2
   go_ret
   exact ⟨rfl, HH.out⟩
section
variable {K : Nat} {ao : Option Addr} {n cap : Nat} {p : List Term} {w : World}
end
end Go.Proofs.YtmmgipcacceakaaGreat

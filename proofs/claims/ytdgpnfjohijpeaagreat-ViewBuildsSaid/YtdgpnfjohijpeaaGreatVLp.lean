/-
  Lists of polynomials in memory, as they stand; the contract of view.mayBuild.
-/
import Derived.Test.YtdgpnfjohijpeaaGreatGV
set_option maxHeartbeats 40000000
set_option maxRecDepth 100000
namespace Go.Proofs.YtdgpnfjohijpeaaGreat
open Lib (hid)
open Go.RowKit
def PlR (w : World) (vs : List Value) (ps : List Raw) : Prop := ∃ po pn pc, vs = [.slice po pn pc] ∧ Pr w po pn pc ps
structure Plr (w : World) (ao : Option Addr) (n cap : Nat) (ls : List (List Raw)) : Prop where
 ex : ∃ X, Gl 1 w ao n cap X ∧ Tms (PlR w) X ls
theorem PlR.below {w w' : World} {vs : List Value} {ps : List Raw} (h : PlR w vs ps) (hb : Below w.heap.size w w') : PlR w' vs ps := by
 obtain ⟨po, pn, pc, h1, h2⟩ := h
 exact ⟨po, pn, pc, h1, h2.below hb⟩
theorem Plr.below {w w' : World} {ao : Option Addr} {n cap : Nat} {ls : List (List Raw)} (h : Plr w ao n cap ls) (hb : Below w.heap.size w w') : Plr w' ao n cap ls := by
 obtain ⟨X, h1, h2⟩ := h.ex
 exact ⟨X, h1.below hb, h2.imp fun _ _ h => h.below hb⟩
theorem Plr.len {w : World} {ao : Option Addr} {n cap : Nat} {ls : List (List Raw)} (h : Plr w ao n cap ls) : ls.length = n := by
 obtain ⟨X, h1, h2⟩ := h.ex; rw [← h1.len, Tms.len h2]
theorem Plr.at {w : World} {ao : Option Addr} {n cap : Nat} {ls : List (List Raw)} (h : Plr w ao n cap ls) {k : Nat} (hk : k < n) :
  ∃ b off po pn pc, ao = some ⟨b, off, none⟩ ∧ b < w.heap.size ∧ (∀ V : World, Below w.heap.size w V → V.cell? ⟨b, off + k, none⟩ = some (.slice po pn pc)) ∧ Pr w po pn pc (ls.getD k []) := by
 have hl := h.len; obtain ⟨X, hG, hT⟩ := h.ex
 obtain ⟨b, off, rfl, hb⟩ := hG.some_of (by omega)
 obtain ⟨po, pn, pc, hv, hp⟩ := Tms.get [] hT k (by omega)
 refine ⟨b, off, po, pn, pc, rfl, hb, fun V hV => ?_, hp⟩
 have hc := (hG.below hV).cells _ rfl k hk 0 (by omega)
 rw [hv, Addr.add_lit, Nat.mul_one, Nat.add_zero] at hc
 exact hc
theorem Plr.big {w : World} {ao : Option Addr} {n cap : Nat} {ls : List (List Raw)} (h : Plr w ao n cap ls) : n ≤ cap ∧ n ≤ 4398046511104 := by
 obtain ⟨X, hG, _⟩ := h.ex
 exact ⟨hG.le, hG.big⟩
def allR (ls : List (List Raw)) : Bool := ls.all mayR
theorem allR_next {ls : List (List Raw)} {k : Nat} (h : k < ls.length) : allR (ls.take (k + 1)) = (allR (ls.take k) && mayR (ls.getD k [])) := by
 unfold allR
 rw [List.take_succ_eq_append_getElem h, List.all_append, getD_of _ h]
 simp
section
variable {ao : Option Addr} {n cap : Nat} {ls : List (List Raw)} {w : World}
theorem mayBuild_no (v : Int) (hv : (decide (1 ≤ v) && decide (v ≤ 200)) = false) : Calls Tryz.prog 35 #[.slice ao n cap, .int .i64 v] w (RetB (.bool false) w) := by
 go_enter Tryz.func35, Tryz.ntmps35
 go_wp2_with fail; refine (isVar_any false v _ hv).mono ?_
 rintro e w1 ⟨rfl, hB⟩; go_wp2_with fail
 go_ret
 exact ⟨rfl, hB⟩
theorem mayBuild_any (r : Bool) (v : Int) (hv : (decide (1 ≤ v) && decide (v ≤ 200)) = true) (h : Plr w ao n cap ls) (hl : ∀ ps ∈ ls, ∀ t ∈ ps, t.1.2.length ≤ 1000) (hn : n ≤ 10001) (hr : allR ls = r) :
  Calls Tryz.prog 35 #[.slice ao n cap, .int .i64 v] w (RetB (.bool r) w) := by
 have HP := hid h; have HPL := hid h.len; have HL := hid hl; have HR := hid hr
 have hd : decide ((10001 : Int) < (n : Int)) = false := decide_eq_false (by omega)
 clear h hl hr
 go_enter Tryz.func35, Tryz.ntmps35
 go_wp2_with fail; refine (isVar_any true v _ hv).mono ?_
 rintro e w1 ⟨rfl, hB⟩; have HB1 := hid hB; clear hB
 go_wp2
 go_loopw [17] (fun i wr => ∃ k : Nat, i = .int .i64 k ∧ k ≤ n ∧ Hid (Below w.heap.size w wr ∧ allR (ls.take k) = true)) (fun i _ => n - (intOf i).toNat)
 case atStart => exact ⟨0, rfl, Nat.zero_le _, HB1.out, by rw [List.take_zero]; rfl⟩
 case round =>
  clear HB1; obtain ⟨k, rfl, hk, HS⟩ := hrel
  by_cases hkn : k < n
  ·obtain ⟨b, off, po, pn, pc, hao, hb, hc, hp⟩ := (HP.out.below HS.out.1).at hkn
   subst hao; have c0 := hc wr (Below.refl _ _)
   have hki : (k : Int) < (n : Int) := by omega
   have hkl : k < ls.length := by rw [HPL.out]; exact hkn
   obtain ⟨q, hq⟩ : ∃ q, mayR (ls.getD k []) = q := ⟨_, rfl⟩; have hnx := allR_next hkl; rw [HS.out.2, Bool.true_and, hq] at hnx; have HN := hid hnx; have HT := hid (And.intro hp (And.intro (HL.out _ (getD_in [] hkl)) hq)); clear hc hp hq hnx; go_wp2_with fail; refine (pmay_any q HT.out.1 HT.out.2.1 HT.out.2.2).mono ?_; rintro e w2 ⟨rfl, hB⟩; have HB2 := hid (Below.steps HS.out.1 hB); clear hB HT c0
   cases q with
   | true =>
    go_wp2
    go_roundw
    case rel => exact ⟨k + 1, by go_num, by omega, HB2.out, HN.out⟩
    case measure => simp [intOf]; omega
   | false =>
    have hr : r = false := by
     rw [← HR.out]; have h := HN.out
     unfold allR at h ⊢
     rw [List.all_eq_false] at h ⊢; obtain ⟨x, hx, h2⟩ := h
     exact ⟨x, List.mem_of_mem_take hx, h2⟩
    subst hr
    go_wp2
    go_ret
    exact ⟨rfl, HB2.out⟩
  ·obtain rfl : k = n := by omega
   have h := HS.out
   rw [List.take_of_length_le (by rw [HPL.out]; exact Nat.le_refl _), HR.out] at h
   obtain ⟨h1, rfl⟩ := h; have HB2 := hid h1; clear HS h1
   go_wp2
   go_ret
   exact ⟨rfl, HB2.out⟩
end
end Go.Proofs.YtdgpnfjohijpeaaGreat

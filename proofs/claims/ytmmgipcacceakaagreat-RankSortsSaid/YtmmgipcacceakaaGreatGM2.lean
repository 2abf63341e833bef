/- MSide, MMayP, MJoin, MOne, MOps, MCmp, MDel -/
import Derived.Test.YtmmgipcacceakaaGreatGM1
import Derived.Shelf.Abstract
import Derived.Deep.DeepMust
import Derived.Lib.SliceRun
import Derived.Laws.IdiomCopy
set_option maxHeartbeats 40000000
set_option maxRecDepth 100000
namespace Go.Proofs.YtmmgipcacceakaaGreat
open Lib (hid)
open Go.RowKit
theorem Ml.h0 [Ol] {w : World} {b off n cap : Nat} {p1 p2 : Int} {r : List (Int × Int)} (h : Ml w (some ⟨b, off, none⟩) (n + 1) cap ((p1, p2) :: r)) : w.cell? ⟨b, off, none⟩ = some (.int .i64 p1) := by
 have := (h.cells _ rfl 0 (by omega)).1
 rw [Addr.add_lit] at this
 simpa using this
theorem Ml.h1 [Ol] {w : World} {b off n cap : Nat} {p1 p2 : Int} {r : List (Int × Int)} (h : Ml w (some ⟨b, off, none⟩) (n + 1) cap ((p1, p2) :: r)) : w.cell? ⟨b, off + 1, none⟩ = some (.int .i64 p2) := by
 have := (h.cells _ rfl 0 (by omega)).2
 rw [Addr.add_lit] at this
 simpa using this
theorem Ml.cons [Ol] {w : World} {ao : Option Addr} {n cap : Nat} {ps : List (Int × Int)} (h : Ml w ao (n + 1) cap ps) : ∃ b off p1 p2 r, ao = some ⟨b, off, none⟩ ∧ ps = (p1, p2) :: r := by
 obtain ⟨b, off, rfl, _⟩ := h.at (by omega)
 have hl := h.len
 match ps, hl with
 | (p1, p2) :: r, _ => exact ⟨b, off, p1, p2, r, rfl, rfl⟩
def lenV : Value → Nat
 | .slice _ n _ => n
 | _ => 0
def restA (b off cap : Nat) : Option Addr := if cap = 1 then some ⟨b, off, none⟩ else some ⟨b, off + 2, none⟩
theorem Ml.rest [Ol] {w : World} {b off n cap : Nat} {p : Int × Int} {r : List (Int × Int)} (h : Ml w (some ⟨b, off, none⟩) (n + 1) cap (p :: r)) : Ml w (restA b off cap) n (cap - 1) r := by
 unfold restA
 by_cases hc : cap = 1
 ·obtain ⟨h1, h2⟩ := ml_tail0 h hc
  rw [if_pos hc, h2, hc]; exact h1
 ·rw [if_neg hc]; exact ml_tail h
def SideInv [Ol] (w : World) (Inv : List (Int × Int × Int) → World → Prop) (a b : Value) (wr : World) (ts : List (Int × Int × Int)) : Prop :=
 ∃ (ao : Option Addr) (n cap : Nat) (bo : Option Addr) (m cb : Nat) (xs' ys' : List (Int × Int)) (done : List (Int × Int × Int)), a = .slice ao n cap ∧ b = .slice bo m cb ∧
  Hid (Ml w ao n cap xs' ∧ Ml w bo m cb ys') ∧ Hid (ts = done ++ tri xs' ys') ∧ Hid (Inv done wr)
theorem side_any [Ol] {G : Nat} {lb : Array Value} (eg : ∀ args w, (callFunc G args).run Tryz.prog w = .ok (.enter G args) w) (Inv : List (Int × Int × Int) → World → Prop)
  {a0 b0 : Option Addr} {la ca lc cc : Nat} {xs ys : List (Int × Int)} {w0 w : World} (ha : Ml w0 a0 la ca xs) (hb : Ml w0 b0 lc cc ys)
  (hS : ∀ done W W', Inv done W → Below W.heap.size W W' → Inv done W')
  (hB : ∀ done W, Inv done W → Below w0.heap.size w0 W)
  (hF : ∀ done t rest W, tri xs ys = done ++ t :: rest → Inv done W → Calls Tryz.prog G (#[.int .i64 t.1, .int .i64 t.2.1, .int .i64 t.2.2] ++ lb) W (fun e w' => e = .returned (.tuple #[]) ∧ Inv (done ++ [t]) w'))
  (h0 : Inv [] w) :
  Calls Tryz.prog 113 #[.slice a0 la ca, .slice b0 lc cc, .func (.func G) #[] lb] w (fun e w' => e = .returned (.tuple #[]) ∧ Inv (tri xs ys) w') := by
 have HF := hid hF; have HSt := hid hS; have HBw := hid hB; obtain ⟨ts, hts⟩ : ∃ ts, ts = tri xs ys := ⟨_, rfl⟩; rw [← hts] at HF ⊢; have HI0 := hid h0
 have HS0 : Hid (SideInv w0 Inv (.slice a0 la ca) (.slice b0 lc cc) w ts) := ⟨_, _, _, _, _, _, _, _, [], rfl, rfl, ⟨ha, hb⟩, hts, h0⟩
 clear hF hS hB h0 ha hb hts
 go_enter Tryz.func113, Tryz.ntmps113
 go_wp2
 go_loopw [0, 1] (fun a b wr => SideInv w0 Inv a b wr ts) (fun a b _ => lenV a + lenV b)
 case atStart => exact HS0.out
 case round =>
  clear HS0; obtain ⟨ao, n, cap, bo, m, cb, xs', ys', done, rfl, rfl, HM, HT, HI⟩ := hrel; have hn1 := HM.out.1.le; have hn2 := HM.out.1.big; have hm1 := HM.out.2.le; have hm2 := HM.out.2.big
  by_cases hn : n ≤ 0
  ·have fn : decide (0 < n) = false := decide_eq_false (by omega)
   have fn2 : decide ((0 : Int) < (n : Int)) = false := decide_eq_false (by omega)
   have HT := hid (HT.out.trans (by rw [tri_end (.inl (HM.out.1.empty (by omega)))]))
   go_wp2
   go_loopw [68] (fun i wr => ∃ (k : Nat) (done : List (Int × Int × Int)), k ≤ n ∧ i = .int .i64 k ∧ Hid (ts = done ++ ((xs'.drop k).map (fun p => (p.1, p.2, (0 : Int))) ++ ys'.map (fun q => (q.1, (0 : Int), q.2)))) ∧ Hid (Inv done wr)) (fun i _ => n - (intOf i).toNat)
   case atStart => exact ⟨0, done, Nat.zero_le _, rfl, HT.out, HI.out⟩
   case round =>
    clear HT HI; obtain ⟨k, done, hk, rfl, HT, HI⟩ := hrel
    by_cases hkn : k < n
    ·exfalso; omega
    ·obtain rfl : k = n := by omega
     have HT2 : Hid (ts = done ++ ys'.map (fun q => (q.1, (0 : Int), q.2))) := HT.out.trans (by rw [List.drop_eq_nil_of_le (by rw [HM.out.1.len]; exact Nat.le_refl _)]; rfl)
     clear HT
     go_wp2
     go_loopw [81] (fun i wr => ∃ (k : Nat) (done : List (Int × Int × Int)), k ≤ m ∧ i = .int .i64 k ∧ Hid (ts = done ++ (ys'.drop k).map (fun q => (q.1, (0 : Int), q.2))) ∧ Hid (Inv done wr)) (fun i _ => m - (intOf i).toNat)
     case atStart => exact ⟨0, done, Nat.zero_le _, rfl, HT2.out, HI.out⟩
     case round =>
      clear HT2 HI; obtain ⟨j, done, hj, rfl, HT, HI⟩ := hrel
      by_cases hjm : j < m
      ·have HX := hid (HM.out.2.below (HBw.out _ _ HI.out))
       obtain ⟨b, off, rfl, hb, hc⟩ := HX.out.at (by omega)
       obtain ⟨c1, c2⟩ := hc j hjm
       have HT2 := hid (HT.out.trans (by rw [map_drop _ (by rw [HX.out.len]; exact hjm)]))
       clear hc HT; obtain ⟨p, hp⟩ : ∃ p, p = ys'.getD j (0, 0) := ⟨_, rfl⟩; rw [← hp] at c1 c2 HT2; clear hp HX; obtain ⟨v, e⟩ := p
       go_wp2_with (go_at_fn G; refine (HF.out done (v, 0, e) _ _ HT2.out (HSt.out _ _ _ HI.out (below_alloc _ _))).mono ?_; rintro e w2 ⟨rfl, hI2⟩; have HI2 := hid hI2; clear hI2)
       go_roundw
       case rel => exact ⟨j + 1, done ++ [(v, 0, e)], by omega, by go_num, by rw [Hid, HT2.out]; simp, HI2.out⟩
       case measure => simp [intOf]; omega
      ·obtain rfl : j = m := by omega
       go_wp2
       go_end0
       refine ⟨rfl, ?_⟩
       have e2 := HT.out
       rw [List.drop_eq_nil_of_le (by rw [HM.out.2.len]; exact Nat.le_refl _)] at e2
       rw [e2]
       simpa using HI.out
  ·by_cases hm : m ≤ 0
   ·have hn0 : 0 < n := by omega
    have fn : decide (0 < m) = false := decide_eq_false (by omega)
    have fn2 : decide ((0 : Int) < (m : Int)) = false := decide_eq_false (by omega)
    have HT := hid (HT.out.trans (by rw [tri_end (.inr (HM.out.2.empty (by omega)))]))
    go_wp2
    go_loopw [68] (fun i wr => ∃ (k : Nat) (done : List (Int × Int × Int)), k ≤ n ∧ i = .int .i64 k ∧ Hid (ts = done ++ ((xs'.drop k).map (fun p => (p.1, p.2, (0 : Int))) ++ ys'.map (fun q => (q.1, (0 : Int), q.2)))) ∧ Hid (Inv done wr)) (fun i _ => n - (intOf i).toNat)
    case atStart => exact ⟨0, done, Nat.zero_le _, rfl, HT.out, HI.out⟩
    case round =>
     clear HT HI; obtain ⟨k, done, hk, rfl, HT, HI⟩ := hrel
     by_cases hkn : k < n
     ·have HX := hid (HM.out.1.below (HBw.out _ _ HI.out))
      obtain ⟨b, off, rfl, hb, hc⟩ := HX.out.at (by omega)
      obtain ⟨c1, c2⟩ := hc k hkn
      have HT2 := hid (HT.out.trans (by rw [map_drop _ (by rw [HX.out.len]; exact hkn)]))
      clear hc HT; obtain ⟨p, hp⟩ : ∃ p, p = xs'.getD k (0, 0) := ⟨_, rfl⟩; rw [← hp] at c1 c2 HT2; clear hp HX; obtain ⟨v, e⟩ := p
      go_wp2_with (go_at_fn G; refine (HF.out done (v, e, 0) _ _ HT2.out (HSt.out _ _ _ HI.out (below_alloc _ _))).mono ?_; rintro e w2 ⟨rfl, hI2⟩; have HI2 := hid hI2; clear hI2)
      go_roundw
      case rel => exact ⟨k + 1, done ++ [(v, e, 0)], by omega, by go_num, by rw [Hid, HT2.out]; simp, HI2.out⟩
      case measure => simp [intOf]; omega
     ·obtain rfl : k = n := by omega
      have HT2 : Hid (ts = done ++ ys'.map (fun q => (q.1, (0 : Int), q.2))) := HT.out.trans (by rw [List.drop_eq_nil_of_le (by rw [HM.out.1.len]; exact Nat.le_refl _)]; rfl)
      clear HT
      go_wp2
      go_loopw [81] (fun i wr => ∃ (k : Nat) (done : List (Int × Int × Int)), k ≤ m ∧ i = .int .i64 k ∧ Hid (ts = done ++ (ys'.drop k).map (fun q => (q.1, (0 : Int), q.2))) ∧ Hid (Inv done wr)) (fun i _ => m - (intOf i).toNat)
      case atStart => exact ⟨0, done, Nat.zero_le _, rfl, HT2.out, HI.out⟩
      case round =>
       clear HT2 HI; obtain ⟨j, done, hj, rfl, HT, HI⟩ := hrel
       by_cases hjm : j < m
       ·exfalso; omega
       ·obtain rfl : j = m := by omega
        go_wp2
        go_end0
        refine ⟨rfl, ?_⟩
        have e2 := HT.out
        rw [List.drop_eq_nil_of_le (by rw [HM.out.2.len]; exact Nat.le_refl _)] at e2
        rw [e2]
        simpa using HI.out
   ·obtain ⟨n, rfl⟩ : ∃ k, n = k + 1 := ⟨n - 1, by omega⟩
    obtain ⟨m, rfl⟩ : ∃ k, m = k + 1 := ⟨m - 1, by omega⟩
    clear hn hm; obtain ⟨b, off, p1, p2, r, rfl, rfl⟩ := HM.out.1.cons; obtain ⟨b2, off2, q1, q2, s, rfl, rfl⟩ := HM.out.2.cons; have HS := HM
    go_upto_region 1 with (fail)
    have S0 := hid (Sx.start (w := wr) (N := [.ml (some ⟨b, off, none⟩) (n + 1) cap ((p1, p2) :: r), .ml (some ⟨b2, off2, none⟩) (m + 1) cb ((q1, q2) :: s)]) ⟨HS.out.1.below (HBw.out _ _ HI.out), HS.out.2.below (HBw.out _ _ HI.out), trivial⟩)
    go_cut [6, 7] from 20 to 26 (fun sl0 sl1 w9 => ∃ (qb6 : Nat) (qb7 : Nat), sl0 = .pointer (some ⟨qb6, 0, none⟩) ∧ sl1 = .pointer (some ⟨qb7, 0, none⟩) ∧ Hid (Sx wr w9 [⟨qb7, [.int .i64 q1, .int .i64 q2]⟩, ⟨qb6, [.int .i64 p1, .int .i64 p2]⟩] [.ml (some ⟨b, off, none⟩) (n + 1) cap ((p1, p2) :: r), .ml (some ⟨b2, off2, none⟩) (m + 1) cb ((q1, q2) :: s)]))
    case first =>
     have S1 := hid (S0.out.drew); clear S0
     refine wp_region_held_drew (S := fun w' => w'.cell? ⟨b, off, none⟩ = some (.int .i64 p1) ∧ w'.cell? ⟨b, off + 1, none⟩ = some (.int .i64 p2) ∧ w'.cell? ⟨b2, off2, none⟩ = some (.int .i64 q1) ∧ w'.cell? ⟨b2, off2 + 1, none⟩ = some (.int .i64 q2)) (by kernel_rfl) (⟨S1.out.n.ml.h0, S1.out.n.ml.h1, S1.out.n.t.ml.h0, S1.out.n.t.ml.h1⟩) (fun hH => ?_)
     refine anyH_world (fun w1 hW => ?_)
     rw [← hW] at S1 hH; clear hW
     refine son 0 hH ?_; try simp only [nrm]
     refine son 1 hH ?_; try simp only [nrm]
     refine son 2 hH ?_; try simp only [nrm]
     refine son 3 hH ?_; try simp only [nrm]
     refine son 4 hH ?_; try simp only [nrm]
     refine son 5 hH ?_; try simp only [nrm]
     refine wpAnyH_ready (rs := [6, 7]) (by kernel_rfl) (by simp) (ready_cons rfl (fun K hK => ?_) (ready_cons rfl (fun K hK => ?_) (AllReadyH.nil)))
     ·go_simp
      have S2 := hid (S1.out.var (w1.heap.size) [.int .i64 0, .int .i64 0] 87 (by simp))
      clear S1
      refine hK.out _ _ ⟨S2.out.n.ml.h0, S2.out.n.ml.h1, S2.out.n.t.ml.h0, S2.out.n.t.ml.h1⟩ (fun h2 => ?_)
      clear hK K hH; have hH := h2; clear h2
      try simp only [nrm]
      refine anyH_world (fun w2 hW => ?_)
      rw [← hW] at S2 hH; clear hW
      refine step_one 7 rfl (by kernel_rfl) (fun K hK => ?_)
      go_simp
      have S3 := hid (S2.out.var (w2.heap.size) [.int .i64 0, .int .i64 0] 87 (by simp))
      clear S2
      refine hK.out _ _ ⟨S3.out.n.ml.h0, S3.out.n.ml.h1, S3.out.n.t.ml.h0, S3.out.n.t.ml.h1⟩ (fun h2 => ?_)
      clear hK K hH; have hH := h2; clear h2
      try simp only [nrm]
      refine anyH_world (fun w3 hW => ?_)
      rw [← hW] at S3 hH; clear hW
      refine step_one 8 rfl (by kernel_rfl) (fun K hK => ?_)
      obtain ⟨c_b6_0, c_b6_1⟩ := S3.out.b.t.c2; obtain ⟨f_b6_0, f_b6_1⟩ := S3.out.b.t.f2; go_simp; clear c_b6_0 c_b6_1 f_b6_0 f_b6_1
      have S4 : Hid (Sx wr _ [⟨(w2.heap.size), [.int .i64 0, .int .i64 0]⟩, ⟨(w1.heap.size), [.int .i64 p1, .int .i64 p2]⟩] _) := hid (Sx.set [⟨(w2.heap.size), [.int .i64 0, .int .i64 0]⟩] [] (Sx.set [⟨(w2.heap.size), [.int .i64 0, .int .i64 0]⟩] [] S3.out 0 (.int .i64 p1)) 1 (.int .i64 p2))
      clear S3
      refine hK.out _ _ ⟨S4.out.n.ml.h0, S4.out.n.ml.h1, S4.out.n.t.ml.h0, S4.out.n.t.ml.h1⟩ (fun h2 => ?_)
      clear hK K hH; have hH := h2; clear h2
      try simp only [nrm]
      refine anyH_world (fun w4 hW => ?_)
      rw [← hW] at S4 hH; clear hW
      refine step_one 9 rfl (by kernel_rfl) (fun K hK => ?_)
      obtain ⟨c_b7_0, c_b7_1⟩ := S4.out.b.c2; obtain ⟨f_b7_0, f_b7_1⟩ := S4.out.b.f2; go_simp; clear c_b7_0 c_b7_1 f_b7_0 f_b7_1
      have S5 : Hid (Sx wr _ [⟨(w2.heap.size), [.int .i64 q1, .int .i64 q2]⟩, ⟨(w1.heap.size), [.int .i64 p1, .int .i64 p2]⟩] _) := hid (Sx.set [] [⟨(w1.heap.size), [.int .i64 p1, .int .i64 p2]⟩] (Sx.set [] [⟨(w1.heap.size), [.int .i64 p1, .int .i64 p2]⟩] S4.out 0 (.int .i64 q1)) 1 (.int .i64 q2))
      clear S4
      refine hK.out _ _ ⟨S5.out.n.ml.h0, S5.out.n.ml.h1, S5.out.n.t.ml.h0, S5.out.n.t.ml.h1⟩ (fun h2 => ?_)
      clear hK K hH; have hH := h2; clear h2
      try simp only [nrm]
      refine anyH_world (fun w5 hW => ?_)
      rw [← hW] at S5 hH; clear hW
      refine wpAnyH_done (by kernel_rfl) ?_ _
      clear hH; go_wp2_with fail
      go_meet
      case rel => exact ⟨_, _, rfl, rfl, S5.out⟩
     ·go_simp
      have S2 := hid (S1.out.var (w1.heap.size) [.int .i64 0, .int .i64 0] 87 (by simp))
      clear S1
      refine hK.out _ _ ⟨S2.out.n.ml.h0, S2.out.n.ml.h1, S2.out.n.t.ml.h0, S2.out.n.t.ml.h1⟩ (fun h2 => ?_)
      clear hK K hH; have hH := h2; clear h2
      try simp only [nrm]
      refine anyH_world (fun w2 hW => ?_)
      rw [← hW] at S2 hH; clear hW
      refine step_one 6 rfl (by kernel_rfl) (fun K hK => ?_)
      go_simp
      have S3 := hid (S2.out.var (w2.heap.size) [.int .i64 0, .int .i64 0] 87 (by simp))
      clear S2
      refine hK.out _ _ ⟨S3.out.n.ml.h0, S3.out.n.ml.h1, S3.out.n.t.ml.h0, S3.out.n.t.ml.h1⟩ (fun h2 => ?_)
      clear hK K hH; have hH := h2; clear h2
      try simp only [nrm]
      refine anyH_world (fun w3 hW => ?_)
      rw [← hW] at S3 hH; clear hW
      refine step_one 8 rfl (by kernel_rfl) (fun K hK => ?_)
      obtain ⟨c_b6_0, c_b6_1⟩ := S3.out.b.c2; obtain ⟨f_b6_0, f_b6_1⟩ := S3.out.b.f2; go_simp; clear c_b6_0 c_b6_1 f_b6_0 f_b6_1
      have S4 : Hid (Sx wr _ [⟨(w2.heap.size), [.int .i64 p1, .int .i64 p2]⟩, ⟨(w1.heap.size), [.int .i64 0, .int .i64 0]⟩] _) := hid (Sx.set [] [⟨(w1.heap.size), [.int .i64 0, .int .i64 0]⟩] (Sx.set [] [⟨(w1.heap.size), [.int .i64 0, .int .i64 0]⟩] S3.out 0 (.int .i64 p1)) 1 (.int .i64 p2))
      clear S3
      refine hK.out _ _ ⟨S4.out.n.ml.h0, S4.out.n.ml.h1, S4.out.n.t.ml.h0, S4.out.n.t.ml.h1⟩ (fun h2 => ?_)
      clear hK K hH; have hH := h2; clear h2
      try simp only [nrm]
      refine anyH_world (fun w4 hW => ?_)
      rw [← hW] at S4 hH; clear hW
      refine step_one 9 rfl (by kernel_rfl) (fun K hK => ?_)
      obtain ⟨c_b7_0, c_b7_1⟩ := S4.out.b.t.c2; obtain ⟨f_b7_0, f_b7_1⟩ := S4.out.b.t.f2; go_simp; clear c_b7_0 c_b7_1 f_b7_0 f_b7_1
      have S5 : Hid (Sx wr _ [⟨(w2.heap.size), [.int .i64 p1, .int .i64 p2]⟩, ⟨(w1.heap.size), [.int .i64 q1, .int .i64 q2]⟩] _) := hid (Sx.set [⟨(w2.heap.size), [.int .i64 p1, .int .i64 p2]⟩] [] (Sx.set [⟨(w2.heap.size), [.int .i64 p1, .int .i64 p2]⟩] [] S4.out 0 (.int .i64 q1)) 1 (.int .i64 q2))
      clear S4
      refine hK.out _ _ ⟨S5.out.n.ml.h0, S5.out.n.ml.h1, S5.out.n.t.ml.h0, S5.out.n.t.ml.h1⟩ (fun h2 => ?_)
      clear hK K hH; have hH := h2; clear h2
      try simp only [nrm]
      refine anyH_world (fun w5 hW => ?_)
      rw [← hW] at S5 hH; clear hW
      refine wpAnyH_done (by kernel_rfl) ?_ _
      clear hH; go_wp2_with fail
      go_meet
      case rel => exact ⟨_, _, rfl, rfl, S5.out.swap⟩
    case rest =>
    clear S0; obtain ⟨qb6, qb7, rfl, rfl, S1⟩ := hcut; obtain ⟨w6, hW⟩ : ∃ w6, w6 = wc := ⟨_, rfl⟩; rw [← hW] at S1 ⊢; clear hW; obtain ⟨x6_0, x6_1⟩ := S1.out.b.t.c2; obtain ⟨x7_0, x7_1⟩ := S1.out.b.c2
    rcases Int.lt_trichotomy p1 q1 with g | g | g
    ·have HT2 := hid (HT.out.trans (by rw [tri_lt _ _ g]))
     have f1 : decide (p1 < q1) = true := decide_eq_true g
     go_wp2_with (go_at_fn G; (refine (HF.out done (p1, p2, 0) _ _ HT2.out (HSt.out _ _ _ HI.out S1.out.h)).mono ?_); rintro e w2 ⟨rfl, hI2⟩; have HI2 := hid hI2; clear hI2)
     go_roundw
     case rel => exact ⟨_, n, cap - 1, _, m + 1, cb, r, (q1, q2) :: s, done ++ [(p1, p2, 0)], rfl, rfl, ⟨HM.out.1.rest, HM.out.2⟩, by rw [Hid, HT2.out]; simp, HI2.out⟩
     case measure => simp [lenV]; try omega
    ·have HT2 := hid (HT.out.trans (by rw [tri_eq _ _ g]))
     subst g
     go_wp2_with (go_at_fn G; (refine (HF.out done (p1, p2, q2) _ _ HT2.out (HSt.out _ _ _ HI.out S1.out.h)).mono ?_); rintro e w2 ⟨rfl, hI2⟩; have HI2 := hid hI2; clear hI2)
     go_quiet (fail)
     go_wp2
     go_roundw
     case rel => exact ⟨_, n, cap - 1, _, m, cb - 1, r, s, done ++ [(p1, p2, q2)], rfl, rfl, ⟨HM.out.1.rest, HM.out.2.rest⟩, by rw [Hid, HT2.out]; simp, HSt.out _ _ _ HI2.out (_root_.Go.below_drewN (Below.refl _ _) _)⟩
     case measure => simp [lenV]; try omega
    ·have HT2 := hid (HT.out.trans (by rw [tri_gt _ _ g]))
     have f1 : decide (p1 < q1) = false := decide_eq_false (by omega)
     have f2 : decide (q1 < p1) = true := decide_eq_true g
     go_wp2_with (go_at_fn G; (refine (HF.out done (q1, 0, q2) _ _ HT2.out (HSt.out _ _ _ HI.out S1.out.h)).mono ?_); rintro e w2 ⟨rfl, hI2⟩; have HI2 := hid hI2; clear hI2)
     go_roundw
     case rel => exact ⟨_, n + 1, cap, _, m, cb - 1, (p1, p2) :: r, s, done ++ [(q1, 0, q2)], rfl, rfl, ⟨HM.out.1, HM.out.2.rest⟩, by rw [Hid, HT2.out]; simp, HI2.out⟩
     case measure => simp [lenV]; try omega
open Lib (hid)
theorem may_any [Ol] (r : Bool) {ao : Option Addr} {n cap : Nat} {ps : List (Int × Int)} {w : World} (h : Ml w ao n cap ps) (hr : mayM 0 ps = r) :
  Calls Tryz.prog 57 #[.slice ao n cap] w (RetB (.bool r) w) := by
 have hle := h.le; have hbig := h.big; have HM := hid h; clear h
 go_enter Tryz.func57, Tryz.ntmps57
 go_wp2
 go_loopw [3, 8] (fun o i wr => ∃ k : Nat, ∃ lo : Int, k ≤ n ∧ i = .int .i64 k ∧ o = .int .i64 lo ∧ Hid (lo = loM ps k ∧ 0 ≤ lo) ∧ Hid (mayM lo (ps.drop k) = r) ∧ Hid (Ml wr ao n cap ps ∧ Below w.heap.size w wr)) (fun _ i _ => n - (intOf i).toNat)
 case atStart => exact ⟨0, 0, Nat.zero_le _, rfl, rfl, ⟨rfl, Int.le_refl 0⟩, by rw [Hid, List.drop_zero]; exact hr, HM.out, Below.refl _ _⟩
 case round =>
  clear HM; obtain ⟨k, lo, hk, rfl, rfl, HL, HR, HS⟩ := hrel; have HM := hid HS.out.1
  by_cases hkn : k < n
  ·obtain ⟨b, off, rfl, hb, hc⟩ := HM.out.at (by omega)
   obtain ⟨c1, c2⟩ := hc k hkn
   have HR2 := hid ((mayM_drop ps k lo (by rw [HM.out.len]; exact hkn)).symm.trans HR.out)
   clear HR hc; obtain ⟨v, hv⟩ : ∃ v, v = (ps.getD k (0, 0)).1 := ⟨_, rfl⟩; obtain ⟨e, he⟩ : ∃ v, v = (ps.getD k (0, 0)).2 := ⟨_, rfl⟩; rw [← hv] at c1; rw [← he] at c2; have HV := hid hv; have HE := hid he; clear hv he
   by_cases g0 : v ≤ lo
   ·have f0 : decide (v ≤ lo) = true := decide_eq_true (by omega)
    go_wp2
    go_ret
    exact ⟨ret_bool (by rw [← HR2.out]; unfold okP; rw [← HV.out, ← HE.out]; have := HL.out; simp; omega), (Below.steps HS.out.2 (below_alloc _ _))⟩
   ·have f0 : decide (v ≤ lo) = false := decide_eq_false (by omega)
    by_cases g1 : 200 < v
    ·have f1 : decide (200 < v) = true := decide_eq_true (by omega)
     go_wp2
     go_ret
     exact ⟨ret_bool (by rw [← HR2.out]; unfold okP; rw [← HV.out, ← HE.out]; have := HL.out; simp; omega), (Below.steps HS.out.2 (below_alloc _ _))⟩
    ·have f1 : decide (200 < v) = false := decide_eq_false (by omega)
     by_cases g2 : e < 1
     ·have f2 : decide (e < 1) = true := decide_eq_true (by omega)
      go_wp2
      go_ret
      exact ⟨ret_bool (by rw [← HR2.out]; unfold okP; rw [← HV.out, ← HE.out]; have := HL.out; simp; omega), (Below.steps HS.out.2 (below_alloc _ _))⟩
     ·have f2 : decide (e < 1) = false := decide_eq_false (by omega)
      by_cases g3 : 10000 < e
      ·have f3 : decide (10000 < e) = true := decide_eq_true (by omega)
       go_wp2
       go_ret
       exact ⟨ret_bool (by rw [← HR2.out]; unfold okP; rw [← HV.out, ← HE.out]; have := HL.out; simp; omega), (Below.steps HS.out.2 (below_alloc _ _))⟩
      ·have f3 : decide (10000 < e) = false := decide_eq_false (by omega)
       go_wp2
       go_roundw
       case rel => exact ⟨k + 1, v, by omega, by go_num, rfl, ⟨HV.out, by have := HL.out; omega⟩, by rw [Hid, ← HR2.out, ok_yes (show lo < _ by rw [← HV.out]; omega) (by rw [← HV.out]; omega) (by rw [← HE.out]; omega) (by rw [← HE.out]; omega), HV.out]; rfl, HM.out.below (below_alloc _ _), (Below.steps HS.out.2 (below_alloc _ _))⟩
       case measure => simp [intOf]; omega
  ·obtain rfl : k = n := by omega
   go_wp2
   go_ret
   have e2 := HR.out
   rw [List.drop_eq_nil_of_le (by rw [HM.out.len]; exact Nat.le_refl _)] at e2
   exact ⟨ret_bool (by rw [← e2]; rfl), HS.out.2⟩
theorem orOne_yes [Ol] {ao : Option Addr} {n cap : Nat} {ps : List (Int × Int)} {w : World} (h : Ml w ao n cap ps) (hr : mayM 0 ps = true) :
  Calls Tryz.prog 80 #[.slice ao n cap] w (RetB (.slice ao n cap) w) := by
 go_enter Tryz.func80, Tryz.ntmps80
 go_wp2_with fail; refine (may_any true h hr).mono ?_
 rintro e w' ⟨rfl, hB⟩; go_wp2_with fail
 go_ret
 exact ⟨rfl, hB⟩
theorem orOne_no [Ol] {ao : Option Addr} {n cap : Nat} {ps : List (Int × Int)} {w : World} (h : Ml w ao n cap ps) (hr : mayM 0 ps = false) :
  Calls Tryz.prog 80 #[.slice ao n cap] w (RetB (.slice none 0 0) w) := by
 go_enter Tryz.func80, Tryz.ntmps80
 go_wp2_with fail; refine (may_any false h hr).mono ?_
 rintro e w' ⟨rfl, hB⟩; go_wp2_with fail
 go_ret
 exact ⟨rfl, hB⟩
theorem orOne_any [Ol] {ao : Option Addr} {n cap : Nat} {ps : List (Int × Int)} {w : World} (h : Ml w ao n cap ps) :
  Calls Tryz.prog 80 #[.slice ao n cap] w (NewM w (orM ps)) := by
 cases hr : mayM 0 ps with
 | true => exact (orOne_yes h hr).mono fun e w' ⟨he, hB⟩ => ⟨ao, n, cap, he, by rw [orM_yes hr]; exact h.below hB, hB⟩
 | false => exact (orOne_no h hr).mono fun e w' ⟨he, hB⟩ => ⟨none, 0, 0, he, by rw [orM_no hr]; exact Ml.zero _, hB⟩
def At1 (w : World) (b : Nat) (v : Value) (T : TypeId) : Prop := w.heap[b]? = some (.cells #[v] T (0, 0))
theorem At1.lt {w : World} {b : Nat} {v : Value} {T : TypeId} (h : At1 w b v T) : b < w.heap.size := lt_of_block h
theorem At1.new (w : World) (v : Value) (T : TypeId) : At1 (w.alloc (.cells #[v] T)) w.heap.size v T := by
 show (w.heap.push _)[w.heap.size]? = _
 rw [Array.getElem?_push_size]
theorem At1.cell {w : World} {b : Nat} {v : Value} {T : TypeId} (h : At1 w b v T) : w.cell? ⟨b, 0, none⟩ = some v := by
 unfold At1 at h
 simp [World.cell?, h]
theorem At1.fz {w : World} {b : Nat} {v : Value} {T : TypeId} (h : At1 w b v T) : w.frozen? ⟨b, 0, none⟩ = false := by
 unfold At1 at h
 simp [World.frozen?, h]
theorem At1.keep {w w' : World} {b : Nat} {v : Value} {T : TypeId} (h : At1 w b v T) (e : w'.heap[b]? = w.heap[b]?) : At1 w' b v T := e.trans h
theorem At1.below {w w' : World} {b : Nat} {v : Value} {T : TypeId} (h : At1 w b v T) (hb : Below w.heap.size w w') : At1 w' b v T := h.keep (hb.block b h.lt)
theorem At1.set {w : World} {b : Nat} {v : Value} {T : TypeId} (h : At1 w b v T) (u : Value) : At1 (w.setCell ⟨b, 0, none⟩ u) b u T := by
 unfold At1 at h ⊢
 simp [World.setCell, Array.getElem?_modify, h]
theorem At1.far {w : World} {b c : Nat} {v : Value} {T : TypeId} (h : At1 w b v T) (hc : c ≠ b) (o : Nat) (u : Value) : At1 (w.setCell ⟨c, o, none⟩ u) b v T :=
 h.keep (Below.heap_setCell _ _ _ _ (fun e => hc e.symm))
theorem Mo.far {B : Nat} {w : World} {ao : Option Addr} {n cap : Nat} {ps : List (Int × Int)} (h : Mo B w ao n cap ps) {b : Nat} {v : Value} {T : TypeId} (hc : At1 w b v T) (hT : T ≠ 87) (o : Nat) (u : Value) : Mo B (w.setCell ⟨b, o, none⟩ u) ao n cap ps := by
 refine h.keep fun a ha => Below.heap_setCell _ _ _ _ fun e => ?_
 rcases h.parts with ⟨h1, _⟩ | ⟨g, cur, h1, _, _, _, hh⟩
 ·rw [h1] at ha; cases ha
 ·rw [h1] at ha
  cases ha
  have e' : g = b := e
  subst e'
  unfold At1 at hc
  rw [hc] at hh
  cases hh
  exact hT rfl
theorem At1.grown {B : Nat} {w w' : World} {o : Obj} {ao : Option Addr} {n cap : Nat} {ps : List (Int × Int)} {b : Nat} {v : Value} {T : TypeId} (h : At1 w b v T) (hM : Mo B w ao n cap ps) (hT : T ≠ 87) (hG : (w.alloc o).grownBy w' (Value.slice ao n cap).ownBlock) : At1 w' b v T := by
 refine (h.below (below_alloc w o)).keep (hG.block b (by have := h.lt; simp; omega) fun e => ?_)
 rcases hM.parts with ⟨rfl, _⟩ | ⟨g, cur, rfl, _, _, _, hh⟩
 ·cases e
 ·have e' : b = g := Option.some.inj e
  subst e'
  unfold At1 at h
  rw [h] at hh
  cases hh
  exact hT rfl
structure JInv (w0 : World) (c k J : Nat) (f : Int → Int → Int) (done : List (Int × Int × Int)) (w : World) : Prop where
 m : ∃ ao cap, Mo w0.heap.size w ao (keepL f done).length cap (keepL f done) ∧ At1 w c (.slice ao (keepL f done).length cap) 54
 fn : At1 w k (.func (.func J) #[] #[]) 71
 below : Below w0.heap.size w0 w
 hc : w0.heap.size ≤ c
theorem JInv.stable {w0 : World} {c k J : Nat} {f : Int → Int → Int} {done : List (Int × Int × Int)} {w w' : World} (h : JInv w0 c k J f done w) (hb : Below w.heap.size w w') : JInv w0 c k J f done w' := by
 obtain ⟨ao, cap, h1, h2⟩ := h.m
 exact ⟨⟨ao, cap, h1.below hb, h2.below hb⟩, h.fn.below hb, Below.steps h.below hb, h.hc⟩
section
variable {J : Nat} {f : Int → Int → Int} {a0 b0 : Option Addr} {la ca lc cc : Nat} {xs ys : List (Int × Int)} {w : World}
end
section
variable {a0 b0 : Option Addr} {la ca lc cc : Nat} {xs ys : List (Int × Int)} {w : World}
end
open Lib (hid)
def sgnC (x y : Int) : Int := if x < y then -1 else if y < x then 1 else 0
theorem nan_any (x : Int) (w : World) : Calls Tryz.prog 72 #[.int .i64 x] w (fun e w' => e = .returned (.bool false) ∧ w = w') := by
 go_enter Tryz.func72, Tryz.ntmps72
 go_wp2
 go_ret
 exact ⟨ret_bool (by simp), rfl⟩
theorem cmpInt_any (x y z : Int) (w : World) (hz : sgnC x y = z) : Calls Tryz.prog 38 #[.int .i64 x, .int .i64 y] w (fun e w' => e = .returned (.int .i64 z) ∧ w = w') := by
 have HZ := hid hz; clear hz
 rcases Int.lt_trichotomy x y with g | g | g
 ·have f1 : decide (x < y) = true := decide_eq_true g
  go_enter Tryz.func38, Tryz.ntmps38
  go_wp2_with ((with_reducible refine (nan_any _ _).mono ?_); rintro e w' ⟨rfl, rfl⟩)
  go_ret
  exact ⟨ret_int (by rw [← HZ.out]; unfold sgnC; rw [if_pos g]), rfl⟩
 ·subst g
  go_enter Tryz.func38, Tryz.ntmps38
  go_wp2_with ((with_reducible refine (nan_any _ _).mono ?_); rintro e w' ⟨rfl, rfl⟩)
  go_ret
  exact ⟨ret_int (by rw [← HZ.out]; unfold sgnC; simp), rfl⟩
 ·have f1 : decide (x < y) = false := decide_eq_false (by omega)
  have f2 : decide (y < x) = true := decide_eq_true g
  go_enter Tryz.func38, Tryz.ntmps38
  go_wp2_with ((with_reducible refine (nan_any _ _).mono ?_); rintro e w' ⟨rfl, rfl⟩)
  go_ret
  exact ⟨ret_int (by rw [← HZ.out]; unfold sgnC; rw [if_neg (by omega), if_pos g]), rfl⟩
structure CInv (w0 : World) (o : Nat) (done : List (Int × Int × Int)) (w : World) : Prop where
 at1 : At1 w o (.int .i64 (lastD 0 done)) 3
 below : Below w0.heap.size w0 w
 ho : w0.heap.size ≤ o
theorem CInv.stable {w0 : World} {o : Nat} {done : List (Int × Int × Int)} {w w' : World} (h : CInv w0 o done w) (hb : Below w.heap.size w w') : CInv w0 o done w' :=
 ⟨h.at1.below hb, Below.steps h.below hb, h.ho⟩
theorem cmpFn_any {w0 w : World} {o : Nat} {done : List (Int × Int × Int)} (t : Int × Int × Int) (h : CInv w0 o done w) :
  Calls Tryz.prog 114 #[.int .i64 t.1, .int .i64 t.2.1, .int .i64 t.2.2, .pointer (some ⟨o, 0, none⟩)] w (fun e w' => e = .returned (.tuple #[]) ∧ CInv w0 o (done ++ [t]) w') := by
 obtain ⟨v, x, y⟩ := t; have cc := h.at1.cell; have fc := h.at1.fz; have lc := h.at1.lt; have HI := hid h; clear h; obtain ⟨l, hl⟩ : ∃ l, l = lastD 0 done := ⟨_, rfl⟩; rw [← hl] at cc; have HL := hid hl; clear hl
 by_cases g : x = y
 ·subst g
  go_enter Tryz.func114, Tryz.ntmps114
  go_wp2
  go_end0
  refine ⟨rfl, ⟨?_, HI.out.below, HI.out.ho⟩⟩
  rw [lastD_append]
  simpa [lastD] using HI.out.at1
 ·have g1 : (x == y) = false := by simpa using g
  have g2 : (x != y) = true := by simpa using g
  have HG := hid g; clear g; obtain ⟨z, hz⟩ : ∃ z, sgnC x y = z := ⟨_, rfl⟩; have HZ := hid hz; clear hz
  go_enter Tryz.func114, Tryz.ntmps114
  go_wp2_with ((with_reducible refine (cmpInt_any x y z _ HZ.out).mono ?_); rintro e w' ⟨rfl, rfl⟩)
  go_end0
  refine ⟨rfl, ⟨?_, HI.out.below.setCell HI.out.ho _, HI.out.ho⟩⟩
  have e1 : lastD 0 (done ++ [(v, x, y)]) = z := by
   rw [lastD_append, ← HZ.out]
   unfold sgnC
   simp only [lastD]
   have := HG.out
   by_cases h1 : x < y
   ·rw [if_pos h1, if_pos h1]
   ·rw [if_neg h1, if_neg h1, if_pos (by omega), if_pos (by omega)]
  rw [e1]
  exact HI.out.at1.set _
section
variable {a0 b0 : Option Addr} {la ca lc cc : Nat} {xs ys : List (Int × Int)} {w : World}
def cmpR (xs ys : List (Int × Int)) : Int × Int := if mayM 0 xs = true ∧ mayM 0 ys = true then (cmpM xs ys, 0) else (0, 2)
theorem compare_bad1 [Ol] (ha : Ml w a0 la ca xs) (hx : mayM 0 xs = false) :
  Calls Tryz.prog 85 #[.slice a0 la ca, .slice b0 lc cc] w (RetB (.tuple #[.int .i64 0, .int .i64 2]) w) := by
 go_enter Tryz.func85, Tryz.ntmps85
 go_wp2_with fail; refine (may_any false ha hx).mono ?_
 rintro e w1 ⟨rfl, hB⟩; go_wp2_with fail
 go_ret2
 exact ⟨rfl, hB⟩
theorem compare_bad2 [Ol] (ha : Ml w a0 la ca xs) (hb : Ml w b0 lc cc ys) (hx : mayM 0 xs = true) (hy : mayM 0 ys = false) :
  Calls Tryz.prog 85 #[.slice a0 la ca, .slice b0 lc cc] w (RetB (.tuple #[.int .i64 0, .int .i64 2]) w) := by
 have HBB := hid hb; clear hb
 go_enter Tryz.func85, Tryz.ntmps85
 go_wp2_with fail; refine (may_any true ha hx).mono ?_
 rintro e w1 ⟨rfl, hB⟩; have HB := hid hB; have HY := hid (HBB.out.below hB); clear hB ha hx HBB; go_wp2_with fail; refine (may_any false HY.out hy).mono ?_; rintro e w2 ⟨rfl, hB⟩; go_wp2_with fail
 go_ret2
 exact ⟨rfl, Below.steps HB.out hB⟩
theorem compare_some [Ol] (ha : Ml w a0 la ca xs) (hb : Ml w b0 lc cc ys) (hx : mayM 0 xs = true) (hy : mayM 0 ys = true) (z : Int) (hz : cmpM xs ys = z) :
  Calls Tryz.prog 85 #[.slice a0 la ca, .slice b0 lc cc] w (RetB (.tuple #[.int .i64 z, .int .i64 0]) w) := by
 have eg : ∀ args w, (callFunc 114 args).run Tryz.prog w = .ok (.enter 114 args) w := enters_of Tryz.func114 (by kernel_rfl) rfl
 have hF : ∀ (w0 : World) (o : Nat) done t rest W, tri xs ys = done ++ t :: rest → CInv w0 o done W → Calls Tryz.prog 114 (#[.int .i64 t.1, .int .i64 t.2.1, .int .i64 t.2.2] ++ #[.pointer (some ⟨o, 0, none⟩)]) W (fun e w' => e = .returned (.tuple #[]) ∧ CInv w0 o (done ++ [t]) w') :=
  fun w0 o done t rest W _ h => by exact cmpFn_any t h
 have h0 : ∀ W : World, CInv W W.heap.size [] (W.alloc (.cells #[.int .i64 0] 3)) := fun W => ⟨At1.new _ _ _, below_alloc _ _, Nat.le_refl _⟩
 have HF := hid hF; have H0 := hid h0; have HX := hid hx; have HY := hid hy; have HA := hid ha; have HBB := hid hb; have HZ := hid hz; clear hx hy ha hb hz hF h0
 go_enter Tryz.func85, Tryz.ntmps85
 go_wp2_with fail; refine (may_any true HA.out HX.out).mono ?_
 rintro e w1 ⟨rfl, hB⟩; have HB1 := hid hB; have HA1 := hid (HA.out.below hB); have HY1 := hid (HBB.out.below hB); clear hB HBB HA; go_wp2_with fail; refine (may_any true HY1.out HY.out).mono ?_; rintro e w2 ⟨rfl, hB⟩; have HB2 := hid (Below.steps HB1.out hB); have HA2 := hid (HA1.out.below hB); have HY2 := hid (HY1.out.below hB); clear hB HA1 HY1 HB1; go_wp2_with fail
 refine (side_any eg (CInv w2 w2.heap.size) (w0 := w2) HA2.out HY2.out (fun _ _ _ h hb => h.stable hb) (fun _ _ h => h.below) (HF.out _ _) (H0.out _)).mono ?_
 rintro e w3 ⟨rfl, hI⟩; have c3 := hI.at1.cell; have HB3 := hid (Below.steps HB2.out hI.below); obtain ⟨l, hl⟩ : ∃ l, l = lastD 0 (tri xs ys) := ⟨_, rfl⟩; rw [← hl] at c3; have HL := hid hl; clear hI hl HA2 HY2 HB2; go_wp2_with fail
 go_ret2
 refine ⟨?_, HB3.out⟩
 have e1 : l = z := by rw [HL.out, lastD_zero]; exact HZ.out
 rw [e1]; rfl
theorem compare_any [Ol] (ha : Ml w a0 la ca xs) (hb : Ml w b0 lc cc ys) :
  Calls Tryz.prog 85 #[.slice a0 la ca, .slice b0 lc cc] w (RetB (.tuple #[.int .i64 (cmpR xs ys).1, .int .i64 (cmpR xs ys).2]) w) := by
 unfold cmpR
 cases hx : mayM 0 xs with
 | false =>
  rw [if_neg (by simp)]
  exact compare_bad1 ha hx
 | true =>
  cases hy : mayM 0 ys with
  | false =>
   rw [if_neg (by simp)]
   exact compare_bad2 ha hb hx hy
  | true =>
   rw [if_pos ⟨rfl, rfl⟩]
   exact compare_some ha hb hx hy _ rfl
end
theorem expo_drop (ps : List (Int × Int)) (k : Nat) (v : Int) (h : k < ps.length) : expo (ps.drop k) v = if (ps.getD k (0, 0)).1 = v then (ps.getD k (0, 0)).2 else expo (ps.drop (k + 1)) v := by
 rw [List.drop_eq_getElem_cons h]
 simp only [expo, List.getD, List.getElem?_eq_getElem h, Option.getD_some]
theorem degree_any [Ol] {ao : Option Addr} {n cap : Nat} {ps : List (Int × Int)} {w : World} (h : Ml w ao n cap ps) (v z : Int) (hz : exE ps v = z) :
  Calls Tryz.prog 48 #[.slice ao n cap, .int .i64 v] w (RetB (.int .i64 z) w) := by
 have HZ : Hid (expo (orM ps) v = z) := hz
 have HM := hid h; clear h hz
 go_enter Tryz.func48, Tryz.ntmps48
 go_wp2_with fail; refine (orOne_any HM.out).mono ?_
 rintro e w1 ⟨mo, m, cm, rfl, hM, hB⟩; have hle := hM.le; have hbig := hM.big; obtain ⟨qs, hqs⟩ : ∃ qs, qs = orM ps := ⟨_, rfl⟩; rw [← hqs] at HZ hM; have HQ := hid hM; have HB := hid hB; clear hM hB hqs HM
 go_wp2
 go_loopw [10] (fun i wr => ∃ k : Nat, k ≤ m ∧ i = .int .i64 k ∧ Hid (expo (qs.drop k) v = z) ∧ Hid (Ml wr mo m cm qs ∧ Below w.heap.size w wr)) (fun i _ => m - (intOf i).toNat)
 case atStart => exact ⟨0, Nat.zero_le _, rfl, by rw [Hid, List.drop_zero]; exact HZ.out, HQ.out, HB.out⟩
 case round =>
  clear HQ HB HZ; obtain ⟨k, hk, rfl, HZ, HS⟩ := hrel
  by_cases hkm : k < m
  ·obtain ⟨b, off, rfl, hb, hc⟩ := HS.out.1.at (by omega)
   obtain ⟨c1, c2⟩ := hc k hkm
   have HZ2 := hid ((expo_drop qs k v (by rw [HS.out.1.len]; exact hkm)).symm.trans HZ.out)
   clear hc HZ; obtain ⟨p, hp⟩ : ∃ p, p = qs.getD k (0, 0) := ⟨_, rfl⟩; rw [← hp] at c1 c2 HZ2; clear hp; obtain ⟨u, x⟩ := p
   by_cases g : u = v
   ·subst g
    go_wp2
    go_ret
    exact ⟨ret_int (by have := HZ2.out; simpa using this), Below.steps HS.out.2 (below_alloc _ _)⟩
   ·have g1 : (u == v) = false := by simpa using g
    have HG := hid g; clear g
    go_wp2
    go_roundw
    case rel => exact ⟨k + 1, by omega, by go_num, by have := HZ2.out; rw [if_neg HG.out] at this; exact this, HS.out.1.below (below_alloc _ _), Below.steps HS.out.2 (below_alloc _ _)⟩
    case measure => simp [intOf]; omega
  ·obtain rfl : k = m := by omega
   go_wp2
   go_ret
   have e2 := HZ.out
   rw [List.drop_eq_nil_of_le (by rw [HS.out.1.len]; exact Nat.le_refl _)] at e2
   exact ⟨ret_int (by simpa [expo] using e2), HS.out.2⟩
theorem cls_last : ∀ (ps : List (Int × Int)), ps ≠ [] → clsM ps = (ps.getD (ps.length - 1) (0, 0)).1
 | [], h => absurd rfl h
 | [p], _ => rfl
 | p :: q :: r, _ => by
  have ih := cls_last (q :: r) (by simp)
  simp only [clsM] at ih ⊢
  rw [if_neg (by simp)]
  rw [ih]
  simp
theorem class_any [Ol] {ao : Option Addr} {n cap : Nat} {ps : List (Int × Int)} {w : World} (h : Ml w ao n cap ps) (z : Int) (hz : clsM (orM ps) = z) :
  Calls Tryz.prog 75 #[.slice ao n cap] w (RetB (.int .i64 z) w) := by
 have HZ := hid hz; have HM := hid h; clear h hz
 go_enter Tryz.func75, Tryz.ntmps75
 go_wp2_with fail; refine (orOne_any HM.out).mono ?_
 rintro e w1 ⟨mo, m, cm, rfl, hM, hB⟩; have hle := hM.le; have hbig := hM.big; obtain ⟨qs, hqs⟩ : ∃ qs, qs = orM ps := ⟨_, rfl⟩; rw [← hqs] at HZ hM; have HQ := hid hM; have HB := hid hB; clear hM hB hqs HM
 by_cases hm : m = 0
 ·subst hm
  have hq := HQ.out.empty rfl
  have HE : Hid (z = 0) := by rw [Hid, ← HZ.out, hq]; rfl
  clear hq HZ HQ
  go_wp2
  go_ret
  exact ⟨ret_int HE.out.symm, HB.out⟩
 ·obtain ⟨m, rfl⟩ : ∃ k, m = k + 1 := ⟨m - 1, by omega⟩
  obtain ⟨b, off, rfl, hb, hc⟩ := HQ.out.at (by omega)
  obtain ⟨c1, _⟩ := hc m (by omega)
  have hl := HQ.out.len
  have HE : Hid (z = (qs.getD m (0, 0)).1) := by
   rw [Hid, ← HZ.out, cls_last qs (by intro h; rw [h] at hl; simp at hl), hl]
   simp
  obtain ⟨u, hu⟩ : ∃ u, u = (qs.getD m (0, 0)).1 := ⟨_, rfl⟩; rw [← hu] at c1 HE
  have g1 : ((m + 1 : Nat) : Int) - 1 = (m : Int) := by omega
  have g2 : (((m + 1 : Nat) : Int) == 0) = false := by simp; omega
  clear hl hu hc HZ HQ hm
  go_wp2
  go_ret
  exact ⟨ret_int HE.out.symm, HB.out⟩
theorem pcells_set : ∀ (ps : List (Int × Int)) (i : Nat) (p : Int × Int), ((pcells ps).set (i * 2) (.int .i64 p.1)).set (i * 2 + 1) (.int .i64 p.2) = pcells (ps.set i p)
 | [], _, _ => rfl
 | q :: r, 0, p => rfl
 | q :: r, i + 1, p => by
  rw [show (i + 1) * 2 = i * 2 + 1 + 1 by omega]
  simp only [pcells, List.set_cons_succ]
  rw [pcells_set r i p]
theorem Mo.set {B : Nat} {w : World} {g n cap : Nat} {ps : List (Int × Int)} (h : Mo B w (some ⟨g, 0, none⟩) n cap ps) (i : Nat) (p : Int × Int) (h1 : in64 p.1) (h2 : in64 p.2) :
  Mo B ((w.setCell ⟨g, i * 2, none⟩ (.int .i64 p.1)).setCell ⟨g, i * 2 + 1, none⟩ (.int .i64 p.2)) (some ⟨g, 0, none⟩) n cap (ps.set i p) := by
 refine ⟨?_, h.big, fun q hq => ?_⟩
 ·rw [← pcells_set]
  exact ((h.row.stored (i * 2) _).1.stored (i * 2 + 1) _).1
 ·rcases List.mem_or_eq_of_mem_set hq with hq | rfl
  ·exact h.wf q hq
  ·exact ⟨h1, h2⟩
theorem Mo.cell [Ol] {B : Nat} {w : World} {g n cap : Nat} {ps : List (Int × Int)} (h : Mo B w (some ⟨g, 0, none⟩) n cap ps) (t : Nat) (ht : t < n) :
  w.cell? ⟨g, t * 2, none⟩ = some (.int .i64 (ps.getD t (0, 0)).1) ∧ w.cell? ⟨g, t * 2 + 1, none⟩ = some (.int .i64 (ps.getD t (0, 0)).2) := by
 have := h.ml.cells _ rfl t ht
 rw [Addr.add_lit, Addr.add_lit, Nat.zero_add, Nat.zero_add] at this
 exact this
theorem Mo.fz {B : Nat} {w : World} {g n cap : Nat} {ps : List (Int × Int)} (h : Mo B w (some ⟨g, 0, none⟩) n cap ps) (j : Nat) : w.frozen? ⟨g, j, none⟩ = false := h.row.frozenAt j
theorem clone_any [Ol] {ao : Option Addr} {n cap : Nat} {ps : List (Int × Int)} {w : World} (h : Ml w ao n cap ps) :
  Calls Tryz.prog 49 #[.slice ao n cap] w (fun e w' => ∃ mo m cm, e = .returned (.slice mo m cm) ∧ Mo w.heap.size w' mo m cm ps ∧ Below w.heap.size w w') := by
 have q1 : ∀ (w : World) (a : Option Addr) (n c n' c' : Nat), (binOp .eql 54 (.slice a n c) (.slice none n' c')).run Tryz.prog w = .ok (.bool a.isNone) w := fun w a n c n' c' => Lib.run_eql_slice_nil w _ _ a n c n' c' Tryz.underlying54
 obtain ⟨i0, hi, hz0, hz1, hz2⟩ := info_parts Tryz.info_pow
 cases ao with
 | none =>
  have h1 := h.nil rfl; have h2 := h.le
  obtain rfl : n = 0 := by omega
  have hp := h.empty rfl
  have HP : Hid (ps = []) := hp
  clear h h1 h2 hp
  go_enter Tryz.func49, Tryz.ntmps49
  go_wp2
  go_ret
  exact ⟨none, 0, 0, rfl, by rw [HP.out]; exact Mo.nil _ _, Below.refl _ _⟩
 | some ad =>
  have HS := Lib.hid h; clear h
  go_enter Tryz.func49, Tryz.ntmps49
  go_wp2_with (at_builtin; refine wpList_dup2 w w rfl (.tmp 5) (.tmp 6) 54 rfl w.heap.size i0 (.agg #[.int .i64 0, .int .i64 0]) Tryz.underlying54 hi hz0 hz1 hz2 rfl rfl _ _ _ _ rfl HS.out (Below.refl _ _) (Nat.le_refl _) ?_; intro mo cm w1 hM hB _; have HM := Lib.hid hM; have HB := Lib.hid hB; clear hM hB HS hi hz0 hz1 hz2)
  go_ret
  exact ⟨_, _, _, rfl, HM.out, HB.out⟩
section
variable {G : Nat} {lb : Array Value} {v : Int}
end
end Go.Proofs.YtmmgipcacceakaaGreat

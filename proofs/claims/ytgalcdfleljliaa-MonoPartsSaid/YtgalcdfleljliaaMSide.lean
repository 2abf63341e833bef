/-
  The contract of mono.sideBySide: whatever function it is handed.
-/
import Derived.Test.YtgalcdfleljliaaMEn
import Derived.Deep.QuietTactic
import Derived.BigQuiet
import Derived.Deep.Cut
import Derived.Deep.CutRange
import Derived.Shelf.Abstract
set_option maxRecDepth 8192
namespace Go.Proofs.Ytgalcdfleljliaa
open Go.RowKit

theorem Ml.h0 {w : World} {b off n cap : Nat} {p1 p2 : Int} {r : List (Int × Int)} (h : Ml w (some ⟨b, off, none⟩) (n + 1) cap ((p1, p2) :: r)) : w.cell? ⟨b, off, none⟩ = some (.int .i64 p1) := by
  have := (h.cells _ rfl 0 (by omega)).1
  rw [Addr.add_lit] at this
  simpa using this
theorem Ml.h1 {w : World} {b off n cap : Nat} {p1 p2 : Int} {r : List (Int × Int)} (h : Ml w (some ⟨b, off, none⟩) (n + 1) cap ((p1, p2) :: r)) : w.cell? ⟨b, off + 1, none⟩ = some (.int .i64 p2) := by
  have := (h.cells _ rfl 0 (by omega)).2
  rw [Addr.add_lit] at this
  simpa using this
theorem Ml.cons {w : World} {ao : Option Addr} {n cap : Nat} {ps : List (Int × Int)} (h : Ml w ao (n + 1) cap ps) : ∃ b off p1 p2 r, ao = some ⟨b, off, none⟩ ∧ ps = (p1, p2) :: r := by
  obtain ⟨b, off, rfl, _⟩ := h.at (by omega)
  have hl := h.len
  match ps, hl with
  | (p1, p2) :: r, _ => exact ⟨b, off, p1, p2, r, rfl, rfl⟩

/-- how many -/
def lenV : Value → Nat
  | .slice _ n _ => n
  | _ => 0

/-- a list's rest: at the same place, if no room is left behind it -/
def restA (b off cap : Nat) : Option Addr := if cap = 1 then some ⟨b, off, none⟩ else some ⟨b, off + 2, none⟩
theorem Ml.rest {w : World} {b off n cap : Nat} {p : Int × Int} {r : List (Int × Int)} (h : Ml w (some ⟨b, off, none⟩) (n + 1) cap (p :: r)) : Ml w (restA b off cap) n (cap - 1) r := by
  unfold restA
  by_cases hc : cap = 1
  · obtain ⟨h1, h2⟩ := ml_tail0 h hc
    rw [if_pos hc, h2, hc]; exact h1
  · rw [if_neg hc]; exact ml_tail h

def SideInv (w : World) (Inv : List (Int × Int × Int) → World → Prop) (a b : Value) (wr : World) (ts : List (Int × Int × Int)) : Prop :=
  ∃ (ao : Option Addr) (n cap : Nat) (bo : Option Addr) (m cb : Nat) (xs' ys' : List (Int × Int)) (done : List (Int × Int × Int)), a = .slice ao n cap ∧ b = .slice bo m cb ∧
    Hid (Ml w ao n cap xs' ∧ Ml w bo m cb ys') ∧ Hid (ts = done ++ tri xs' ys') ∧ Hid (Inv done wr)

set_option maxHeartbeats 4000000 in
set_option maxRecDepth 100000 in
theorem side_any {G : Nat} {lb : Array Value} (eg : ∀ args w, (callFunc G args).run Try.prog w = .ok (.enter G args) w) (Inv : List (Int × Int × Int) → World → Prop)
    {a0 b0 : Option Addr} {la ca lc cc : Nat} {xs ys : List (Int × Int)} {w0 w : World} (ha : Ml w0 a0 la ca xs) (hb : Ml w0 b0 lc cc ys)
    (hS : ∀ done W W', Inv done W → Below W.heap.size W W' → Inv done W')
    (hB : ∀ done W, Inv done W → Below w0.heap.size w0 W)
    (hF : ∀ done t rest W, tri xs ys = done ++ t :: rest → Inv done W → Calls Try.prog G (#[.int .i64 t.1, .int .i64 t.2.1, .int .i64 t.2.2] ++ lb) W (fun e w' => e = .returned (.tuple #[]) ∧ Inv (done ++ [t]) w'))
    (h0 : Inv [] w) :
    Calls Try.prog 36 #[.slice a0 la ca, .slice b0 lc cc, .func (.func G) #[] lb] w (fun e w' => e = .returned (.tuple #[]) ∧ Inv (tri xs ys) w') := by
  have HF := Lib.hid hF
  have HSt := Lib.hid hS
  have HBw := Lib.hid hB
  obtain ⟨ts, hts⟩ : ∃ ts, ts = tri xs ys := ⟨_, rfl⟩
  rw [← hts] at HF ⊢
  have HI0 := Lib.hid h0
  have HS0 : Hid (SideInv w0 Inv (.slice a0 la ca) (.slice b0 lc cc) w ts) := ⟨_, _, _, _, _, _, _, _, [], rfl, rfl, ⟨ha, hb⟩, hts, h0⟩
  clear hF hS hB h0 ha hb hts
  go_enter Try.func36, Try.ntmps36
  go_wp2
  go_loopw [0, 1] (fun a b wr => SideInv w0 Inv a b wr ts) (fun a b _ => lenV a + lenV b)
  case atStart => exact HS0.out
  case round =>
    clear HS0
    obtain ⟨ao, n, cap, bo, m, cb, xs', ys', done, rfl, rfl, HM, HT, HI⟩ := hrel
    have hn1 := HM.out.1.le
    have hn2 := HM.out.1.big
    have hm1 := HM.out.2.le
    have hm2 := HM.out.2.big
    by_cases hn : n ≤ 0
    · have fn : decide (0 < n) = false := decide_eq_false (by omega)
      have fn2 : decide ((0 : Int) < (n : Int)) = false := decide_eq_false (by omega)
      have HT := Lib.hid (HT.out.trans (by rw [tri_end (.inl (HM.out.1.empty (by omega)))]))
      go_wp2
      go_loopw [68] (fun i wr => ∃ (k : Nat) (done : List (Int × Int × Int)), k ≤ n ∧ i = .int .i64 k ∧ Hid (ts = done ++ ((xs'.drop k).map (fun p => (p.1, p.2, (0 : Int))) ++ ys'.map (fun q => (q.1, (0 : Int), q.2)))) ∧ Hid (Inv done wr)) (fun i _ => n - (intOf i).toNat)
      case atStart => exact ⟨0, done, Nat.zero_le _, rfl, HT.out, HI.out⟩
      case round =>
        clear HT HI
        obtain ⟨k, done, hk, rfl, HT, HI⟩ := hrel
        by_cases hkn : k < n
        · exfalso; omega
        · obtain rfl : k = n := by omega
          have HT2 : Hid (ts = done ++ ys'.map (fun q => (q.1, (0 : Int), q.2))) := HT.out.trans (by rw [List.drop_eq_nil_of_le (by rw [HM.out.1.len]; exact Nat.le_refl _)]; rfl)
          clear HT
          go_wp2
          go_loopw [81] (fun i wr => ∃ (k : Nat) (done : List (Int × Int × Int)), k ≤ m ∧ i = .int .i64 k ∧ Hid (ts = done ++ (ys'.drop k).map (fun q => (q.1, (0 : Int), q.2))) ∧ Hid (Inv done wr)) (fun i _ => m - (intOf i).toNat)
          case atStart => exact ⟨0, done, Nat.zero_le _, rfl, HT2.out, HI.out⟩
          case round =>
            clear HT2 HI
            obtain ⟨j, done, hj, rfl, HT, HI⟩ := hrel
            by_cases hjm : j < m
            · have HX := Lib.hid (HM.out.2.below (HBw.out _ _ HI.out))
              obtain ⟨b, off, rfl, hb, hc⟩ := HX.out.at (by omega)
              obtain ⟨c1, c2⟩ := hc j hjm
              have HT2 := Lib.hid (HT.out.trans (by rw [map_drop _ (by rw [HX.out.len]; exact hjm)]))
              clear hc HT
              obtain ⟨p, hp⟩ : ∃ p, p = ys'.getD j (0, 0) := ⟨_, rfl⟩
              rw [← hp] at c1 c2 HT2
              clear hp HX
              obtain ⟨v, e⟩ := p
              go_wp2_with (go_at_fn G; refine (HF.out done (v, 0, e) _ _ HT2.out (HSt.out _ _ _ HI.out (below_alloc _ _))).mono ?_; rintro e w2 ⟨rfl, hI2⟩; have HI2 := Lib.hid hI2; clear hI2)
              go_roundw
              case rel => exact ⟨j + 1, done ++ [(v, 0, e)], by omega, by go_num, by rw [Hid, HT2.out]; simp, HI2.out⟩
              case measure => simp [intOf]; omega
            · obtain rfl : j = m := by omega
              go_wp2
              go_end0
              refine ⟨rfl, ?_⟩
              have e2 := HT.out
              rw [List.drop_eq_nil_of_le (by rw [HM.out.2.len]; exact Nat.le_refl _)] at e2
              rw [e2]
              simpa using HI.out
    · by_cases hm : m ≤ 0
      · have hn0 : 0 < n := by omega
        have fn : decide (0 < m) = false := decide_eq_false (by omega)
        have fn2 : decide ((0 : Int) < (m : Int)) = false := decide_eq_false (by omega)
        have HT := Lib.hid (HT.out.trans (by rw [tri_end (.inr (HM.out.2.empty (by omega)))]))
        go_wp2
        go_loopw [68] (fun i wr => ∃ (k : Nat) (done : List (Int × Int × Int)), k ≤ n ∧ i = .int .i64 k ∧ Hid (ts = done ++ ((xs'.drop k).map (fun p => (p.1, p.2, (0 : Int))) ++ ys'.map (fun q => (q.1, (0 : Int), q.2)))) ∧ Hid (Inv done wr)) (fun i _ => n - (intOf i).toNat)
        case atStart => exact ⟨0, done, Nat.zero_le _, rfl, HT.out, HI.out⟩
        case round =>
          clear HT HI
          obtain ⟨k, done, hk, rfl, HT, HI⟩ := hrel
          by_cases hkn : k < n
          · have HX := Lib.hid (HM.out.1.below (HBw.out _ _ HI.out))
            obtain ⟨b, off, rfl, hb, hc⟩ := HX.out.at (by omega)
            obtain ⟨c1, c2⟩ := hc k hkn
            have HT2 := Lib.hid (HT.out.trans (by rw [map_drop _ (by rw [HX.out.len]; exact hkn)]))
            clear hc HT
            obtain ⟨p, hp⟩ : ∃ p, p = xs'.getD k (0, 0) := ⟨_, rfl⟩
            rw [← hp] at c1 c2 HT2
            clear hp HX
            obtain ⟨v, e⟩ := p
            go_wp2_with (go_at_fn G; refine (HF.out done (v, e, 0) _ _ HT2.out (HSt.out _ _ _ HI.out (below_alloc _ _))).mono ?_; rintro e w2 ⟨rfl, hI2⟩; have HI2 := Lib.hid hI2; clear hI2)
            go_roundw
            case rel => exact ⟨k + 1, done ++ [(v, e, 0)], by omega, by go_num, by rw [Hid, HT2.out]; simp, HI2.out⟩
            case measure => simp [intOf]; omega
          · obtain rfl : k = n := by omega
            have HT2 : Hid (ts = done ++ ys'.map (fun q => (q.1, (0 : Int), q.2))) := HT.out.trans (by rw [List.drop_eq_nil_of_le (by rw [HM.out.1.len]; exact Nat.le_refl _)]; rfl)
            clear HT
            go_wp2
            go_loopw [81] (fun i wr => ∃ (k : Nat) (done : List (Int × Int × Int)), k ≤ m ∧ i = .int .i64 k ∧ Hid (ts = done ++ (ys'.drop k).map (fun q => (q.1, (0 : Int), q.2))) ∧ Hid (Inv done wr)) (fun i _ => m - (intOf i).toNat)
            case atStart => exact ⟨0, done, Nat.zero_le _, rfl, HT2.out, HI.out⟩
            case round =>
              clear HT2 HI
              obtain ⟨j, done, hj, rfl, HT, HI⟩ := hrel
              by_cases hjm : j < m
              · exfalso; omega
              · obtain rfl : j = m := by omega
                go_wp2
                go_end0
                refine ⟨rfl, ?_⟩
                have e2 := HT.out
                rw [List.drop_eq_nil_of_le (by rw [HM.out.2.len]; exact Nat.le_refl _)] at e2
                rw [e2]
                simpa using HI.out
      · obtain ⟨n, rfl⟩ : ∃ k, n = k + 1 := ⟨n - 1, by omega⟩
        obtain ⟨m, rfl⟩ : ∃ k, m = k + 1 := ⟨m - 1, by omega⟩
        clear hn hm
        obtain ⟨b, off, p1, p2, r, rfl, rfl⟩ := HM.out.1.cons
        obtain ⟨b2, off2, q1, q2, s, rfl, rfl⟩ := HM.out.2.cons
        have HS := HM
        go_upto_region 1 with (fail)
        have S0 := Lib.hid (Sx.start (w := wr) (N := [.ml (some ⟨b, off, none⟩) (n + 1) cap ((p1, p2) :: r), .ml (some ⟨b2, off2, none⟩) (m + 1) cb ((q1, q2) :: s)]) ⟨HS.out.1.below (HBw.out _ _ HI.out), HS.out.2.below (HBw.out _ _ HI.out), trivial⟩)
        go_cut [6, 7] from 20 to 26 (fun sl0 sl1 w9 => ∃ (qb6 : Nat) (qb7 : Nat), sl0 = .pointer (some ⟨qb6, 0, none⟩) ∧ sl1 = .pointer (some ⟨qb7, 0, none⟩) ∧ Hid (Sx wr w9 [⟨qb7, [.int .i64 q1, .int .i64 q2]⟩, ⟨qb6, [.int .i64 p1, .int .i64 p2]⟩] [.ml (some ⟨b, off, none⟩) (n + 1) cap ((p1, p2) :: r), .ml (some ⟨b2, off2, none⟩) (m + 1) cb ((q1, q2) :: s)]))
        case first =>
          have S1 := Lib.hid (S0.out.drew)
          clear S0
          refine wp_region_held_drew (S := fun w' => w'.cell? ⟨b, off, none⟩ = some (.int .i64 p1) ∧ w'.cell? ⟨b, off + 1, none⟩ = some (.int .i64 p2) ∧ w'.cell? ⟨b2, off2, none⟩ = some (.int .i64 q1) ∧ w'.cell? ⟨b2, off2 + 1, none⟩ = some (.int .i64 q2)) (by kernel_rfl) (⟨S1.out.n.ml.h0, S1.out.n.ml.h1, S1.out.n.t.ml.h0, S1.out.n.t.ml.h1⟩) (fun hH => ?_)
          refine anyH_world (fun w1 hW => ?_)
          rw [← hW] at S1 hH
          clear hW
          refine step_on 0 rfl (by kernel_rfl) (fun _ _ _ h => h) (by rfl) hH (by intro w hS; go_simp <;> with_reducible rfl) ?_
          try simp only [nrm]
          refine step_on 1 rfl (by kernel_rfl) (fun _ _ _ h => h) (by rfl) hH (by intro w hS; go_simp <;> with_reducible rfl) ?_
          try simp only [nrm]
          refine step_on 2 rfl (by kernel_rfl) (fun _ _ _ h => h) (by rfl) hH (by intro w hS; go_simp <;> with_reducible rfl) ?_
          try simp only [nrm]
          refine step_on 3 rfl (by kernel_rfl) (fun _ _ _ h => h) (by rfl) hH (by intro w hS; go_simp <;> with_reducible rfl) ?_
          try simp only [nrm]
          refine step_on 4 rfl (by kernel_rfl) (fun _ _ _ h => h) (by rfl) hH (by intro w hS; go_simp <;> with_reducible rfl) ?_
          try simp only [nrm]
          refine step_on 5 rfl (by kernel_rfl) (fun _ _ _ h => h) (by rfl) hH (by intro w hS; go_simp <;> with_reducible rfl) ?_
          try simp only [nrm]
          refine wpAnyH_ready (rs := [6, 7]) (by kernel_rfl) (by simp) (ready_cons rfl (fun K hK => ?_) (ready_cons rfl (fun K hK => ?_) (AllReadyH.nil)))
          · go_simp
            have S2 := Lib.hid (S1.out.var (w1.heap.size) [.int .i64 0, .int .i64 0] 48 (by simp))
            clear S1
            refine hK.out _ _ ⟨S2.out.n.ml.h0, S2.out.n.ml.h1, S2.out.n.t.ml.h0, S2.out.n.t.ml.h1⟩ (fun h2 => ?_)
            clear hK K hH
            have hH := h2
            clear h2
            try simp only [nrm]
            refine anyH_world (fun w2 hW => ?_)
            rw [← hW] at S2 hH
            clear hW
            refine step_one 7 rfl (by kernel_rfl) (fun K hK => ?_)
            go_simp
            have S3 := Lib.hid (S2.out.var (w2.heap.size) [.int .i64 0, .int .i64 0] 48 (by simp))
            clear S2
            refine hK.out _ _ ⟨S3.out.n.ml.h0, S3.out.n.ml.h1, S3.out.n.t.ml.h0, S3.out.n.t.ml.h1⟩ (fun h2 => ?_)
            clear hK K hH
            have hH := h2
            clear h2
            try simp only [nrm]
            refine anyH_world (fun w3 hW => ?_)
            rw [← hW] at S3 hH
            clear hW
            refine step_one 8 rfl (by kernel_rfl) (fun K hK => ?_)
            obtain ⟨c_b6_0, c_b6_1⟩ := S3.out.b.t.c2
            obtain ⟨f_b6_0, f_b6_1⟩ := S3.out.b.t.f2
            go_simp
            clear c_b6_0 c_b6_1 f_b6_0 f_b6_1
            have S4 : Hid (Sx wr _ [⟨(w2.heap.size), [.int .i64 0, .int .i64 0]⟩, ⟨(w1.heap.size), [.int .i64 p1, .int .i64 p2]⟩] _) := Lib.hid (Sx.set [⟨(w2.heap.size), [.int .i64 0, .int .i64 0]⟩] [] (Sx.set [⟨(w2.heap.size), [.int .i64 0, .int .i64 0]⟩] [] S3.out 0 (.int .i64 p1)) 1 (.int .i64 p2))
            clear S3
            refine hK.out _ _ ⟨S4.out.n.ml.h0, S4.out.n.ml.h1, S4.out.n.t.ml.h0, S4.out.n.t.ml.h1⟩ (fun h2 => ?_)
            clear hK K hH
            have hH := h2
            clear h2
            try simp only [nrm]
            refine anyH_world (fun w4 hW => ?_)
            rw [← hW] at S4 hH
            clear hW
            refine step_one 9 rfl (by kernel_rfl) (fun K hK => ?_)
            obtain ⟨c_b7_0, c_b7_1⟩ := S4.out.b.c2
            obtain ⟨f_b7_0, f_b7_1⟩ := S4.out.b.f2
            go_simp
            clear c_b7_0 c_b7_1 f_b7_0 f_b7_1
            have S5 : Hid (Sx wr _ [⟨(w2.heap.size), [.int .i64 q1, .int .i64 q2]⟩, ⟨(w1.heap.size), [.int .i64 p1, .int .i64 p2]⟩] _) := Lib.hid (Sx.set [] [⟨(w1.heap.size), [.int .i64 p1, .int .i64 p2]⟩] (Sx.set [] [⟨(w1.heap.size), [.int .i64 p1, .int .i64 p2]⟩] S4.out 0 (.int .i64 q1)) 1 (.int .i64 q2))
            clear S4
            refine hK.out _ _ ⟨S5.out.n.ml.h0, S5.out.n.ml.h1, S5.out.n.t.ml.h0, S5.out.n.t.ml.h1⟩ (fun h2 => ?_)
            clear hK K hH
            have hH := h2
            clear h2
            try simp only [nrm]
            refine anyH_world (fun w5 hW => ?_)
            rw [← hW] at S5 hH
            clear hW
            refine wpAnyH_done (by kernel_rfl) ?_ _
            clear hH
            go_wp2_with fail
            go_meet
            case rel => exact ⟨_, _, rfl, rfl, S5.out⟩
          · go_simp
            have S2 := Lib.hid (S1.out.var (w1.heap.size) [.int .i64 0, .int .i64 0] 48 (by simp))
            clear S1
            refine hK.out _ _ ⟨S2.out.n.ml.h0, S2.out.n.ml.h1, S2.out.n.t.ml.h0, S2.out.n.t.ml.h1⟩ (fun h2 => ?_)
            clear hK K hH
            have hH := h2
            clear h2
            try simp only [nrm]
            refine anyH_world (fun w2 hW => ?_)
            rw [← hW] at S2 hH
            clear hW
            refine step_one 6 rfl (by kernel_rfl) (fun K hK => ?_)
            go_simp
            have S3 := Lib.hid (S2.out.var (w2.heap.size) [.int .i64 0, .int .i64 0] 48 (by simp))
            clear S2
            refine hK.out _ _ ⟨S3.out.n.ml.h0, S3.out.n.ml.h1, S3.out.n.t.ml.h0, S3.out.n.t.ml.h1⟩ (fun h2 => ?_)
            clear hK K hH
            have hH := h2
            clear h2
            try simp only [nrm]
            refine anyH_world (fun w3 hW => ?_)
            rw [← hW] at S3 hH
            clear hW
            refine step_one 8 rfl (by kernel_rfl) (fun K hK => ?_)
            obtain ⟨c_b6_0, c_b6_1⟩ := S3.out.b.c2
            obtain ⟨f_b6_0, f_b6_1⟩ := S3.out.b.f2
            go_simp
            clear c_b6_0 c_b6_1 f_b6_0 f_b6_1
            have S4 : Hid (Sx wr _ [⟨(w2.heap.size), [.int .i64 p1, .int .i64 p2]⟩, ⟨(w1.heap.size), [.int .i64 0, .int .i64 0]⟩] _) := Lib.hid (Sx.set [] [⟨(w1.heap.size), [.int .i64 0, .int .i64 0]⟩] (Sx.set [] [⟨(w1.heap.size), [.int .i64 0, .int .i64 0]⟩] S3.out 0 (.int .i64 p1)) 1 (.int .i64 p2))
            clear S3
            refine hK.out _ _ ⟨S4.out.n.ml.h0, S4.out.n.ml.h1, S4.out.n.t.ml.h0, S4.out.n.t.ml.h1⟩ (fun h2 => ?_)
            clear hK K hH
            have hH := h2
            clear h2
            try simp only [nrm]
            refine anyH_world (fun w4 hW => ?_)
            rw [← hW] at S4 hH
            clear hW
            refine step_one 9 rfl (by kernel_rfl) (fun K hK => ?_)
            obtain ⟨c_b7_0, c_b7_1⟩ := S4.out.b.t.c2
            obtain ⟨f_b7_0, f_b7_1⟩ := S4.out.b.t.f2
            go_simp
            clear c_b7_0 c_b7_1 f_b7_0 f_b7_1
            have S5 : Hid (Sx wr _ [⟨(w2.heap.size), [.int .i64 p1, .int .i64 p2]⟩, ⟨(w1.heap.size), [.int .i64 q1, .int .i64 q2]⟩] _) := Lib.hid (Sx.set [⟨(w2.heap.size), [.int .i64 p1, .int .i64 p2]⟩] [] (Sx.set [⟨(w2.heap.size), [.int .i64 p1, .int .i64 p2]⟩] [] S4.out 0 (.int .i64 q1)) 1 (.int .i64 q2))
            clear S4
            refine hK.out _ _ ⟨S5.out.n.ml.h0, S5.out.n.ml.h1, S5.out.n.t.ml.h0, S5.out.n.t.ml.h1⟩ (fun h2 => ?_)
            clear hK K hH
            have hH := h2
            clear h2
            try simp only [nrm]
            refine anyH_world (fun w5 hW => ?_)
            rw [← hW] at S5 hH
            clear hW
            refine wpAnyH_done (by kernel_rfl) ?_ _
            clear hH
            go_wp2_with fail
            go_meet
            case rel => exact ⟨_, _, rfl, rfl, S5.out.swap⟩
        case rest =>
        clear S0
        obtain ⟨qb6, qb7, rfl, rfl, S1⟩ := hcut
        obtain ⟨w6, hW⟩ : ∃ w6, w6 = wc := ⟨_, rfl⟩
        rw [← hW] at S1 ⊢
        clear hW
        obtain ⟨x6_0, x6_1⟩ := S1.out.b.t.c2
        obtain ⟨x7_0, x7_1⟩ := S1.out.b.c2
        rcases Int.lt_trichotomy p1 q1 with g | g | g
        · have HT2 := Lib.hid (HT.out.trans (by rw [tri_lt _ _ g]))
          have f1 : decide (p1 < q1) = true := decide_eq_true g
          go_wp2_with (go_at_fn G; (refine (HF.out done (p1, p2, 0) _ _ HT2.out (HSt.out _ _ _ HI.out S1.out.h)).mono ?_); rintro e w2 ⟨rfl, hI2⟩; have HI2 := Lib.hid hI2; clear hI2)
          go_roundw
          case rel => exact ⟨_, n, cap - 1, _, m + 1, cb, r, (q1, q2) :: s, done ++ [(p1, p2, 0)], rfl, rfl, ⟨HM.out.1.rest, HM.out.2⟩, by rw [Hid, HT2.out]; simp, HI2.out⟩
          case measure => simp [lenV]; try omega
        · have HT2 := Lib.hid (HT.out.trans (by rw [tri_eq _ _ g]))
          subst g
          go_wp2_with (go_at_fn G; (refine (HF.out done (p1, p2, q2) _ _ HT2.out (HSt.out _ _ _ HI.out S1.out.h)).mono ?_); rintro e w2 ⟨rfl, hI2⟩; have HI2 := Lib.hid hI2; clear hI2)
          go_quiet (fail)
          go_wp2
          go_roundw
          case rel => exact ⟨_, n, cap - 1, _, m, cb - 1, r, s, done ++ [(p1, p2, q2)], rfl, rfl, ⟨HM.out.1.rest, HM.out.2.rest⟩, by rw [Hid, HT2.out]; simp, HSt.out _ _ _ HI2.out (_root_.Go.below_drewN (Below.refl _ _) _)⟩
          case measure => simp [lenV]; try omega
        · have HT2 := Lib.hid (HT.out.trans (by rw [tri_gt _ _ g]))
          have f1 : decide (p1 < q1) = false := decide_eq_false (by omega)
          have f2 : decide (q1 < p1) = true := decide_eq_true g
          go_wp2_with (go_at_fn G; (refine (HF.out done (q1, 0, q2) _ _ HT2.out (HSt.out _ _ _ HI.out S1.out.h)).mono ?_); rintro e w2 ⟨rfl, hI2⟩; have HI2 := Lib.hid hI2; clear hI2)
          go_roundw
          case rel => exact ⟨_, n + 1, cap, _, m, cb - 1, (p1, p2) :: r, s, done ++ [(q1, 0, q2)], rfl, rfl, ⟨HM.out.1, HM.out.2.rest⟩, by rw [Hid, HT2.out]; simp, HI2.out⟩
          case measure => simp [lenV]; try omega

end Go.Proofs.Ytgalcdfleljliaa

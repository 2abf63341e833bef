/- PKnownP, PX, PGreat, PCopy, PrFacts -/
import Derived.Test.YtmmgipcacceakaaGreatGP2
set_option maxHeartbeats 40000000
set_option maxRecDepth 100000
namespace Go.Proofs.YtmmgipcacceakaaGreat
open Go.RowKit
def kx : List Term := [(1, [(1, 1)])]
def ky : List Term := [(1, [(2, 1)])]
theorem fall_of_dec {p : List Term} (h1 : ∀ t ∈ p, t.1 ≠ 0 ∧ mayM 0 t.2 = true) (h2 : ofT p = p) : fall p := by
 rw [← h2]
 exact (ofT_spec fun t ht => (h1 t ht).2).1
theorem kx_fall : fall kx := fall_of_dec (by decide +kernel) (by decide +kernel)
theorem ky_fall : fall ky := fall_of_dec (by decide +kernel) (by decide +kernel)
theorem Ml.lit [Ol] (w : World) (u v : Int) (T : TypeId) (hu : in64 u) (hv : in64 v) (hT : badT.contains T = false := by decide) : Ml (w.alloc (.cells #[.int .i64 u, .int .i64 v] T)) (some ⟨w.heap.size, 0, none⟩) 1 1 [(u, v)] := by
 refine Ml.of_cells rfl (Nat.le_refl _) (by omega) (fun p hp => by simp at hp; subst hp; exact ⟨hu, hv⟩) (fun _ => Kp.new w _ T hT) fun t ht => ?_
 obtain rfl : t = 0 := by omega
 have hh : (w.alloc (.cells #[.int .i64 u, .int .i64 v] T)).heap[w.heap.size]? = some (.cells #[.int .i64 u, .int .i64 v] T (0, 0)) := by
  show (w.heap.push _)[w.heap.size]? = _
  rw [Array.getElem?_push_size]
 simp only [World.cell?, hh]
 simp
theorem x_any8 [Ol] (v : Int) (w : World) (h : in64 v) :
  Calls Tryz.prog 23 #[.int .i64 v] w (NewPz 2 w [(1, [(v, 1)])]) := by
 have HV := Lib.hid h; clear h
 go_enter Tryz.func23, Tryz.ntmps23
 go_wp2_with fail
 refine (zsmall_any 1 w (by omega)).mono ?_
 rintro e w1 ⟨m, ao, k, cap, rfl, hX, hB⟩; have HX := Lib.hid hX; have HB := Lib.hid hB; clear hX hB; go_wp2_with fail
 go_ret
 have hgl := Gl.lit 3 (w1.alloc (.cells #[.int .i64 v, .int .i64 1] 87)) [.bool m, .slice ao k cap, .slice (some ⟨w1.heap.size, 0, none⟩) 1 1] 79 rfl (by simp [Value.oneCell'])
 rw [show (w1.alloc (.cells #[.int .i64 v, .int .i64 1] 87)).heap.size = w1.heap.size + 1 from by simp] at hgl
 refine ⟨_, _, _, rfl, ⟨_, hgl, ?_⟩, ?_⟩
 ·have hM := Ml.lit w1 v 1 87 HV.out (by unfold in64; omega)
  have hZ := (HX.out.below (below_alloc w1 (.cells #[.int .i64 v, .int .i64 1] 87)))
  exact ⟨⟨_, _, _, _, _, _, _, rfl, hZ.below (below_alloc _ _), bd_small (by omega), hM.below (below_alloc _ _)⟩, trivial⟩
 ·have h := HB.out.size
  exact (HB.out.alloc h _).alloc (by simp; omega) _
open Lib (hid)
def wide (t : Raw) : Bool := decide ((20 : Int) < t.1.2.length) || decide ((12 : Int) < t.2.length)
def greatR (ps : List Raw) (most : Int) : Bool := ps.any wide || decide (most < (ps.length : Int))
theorem great_any8 [Ol] (r : Bool) (most : Int) {ao : Option Addr} {n cap : Nat} {ps : List Raw} {w : World} (hp : Pr w ao n cap ps) (h : greatR ps most = r) :
  Calls Tryz.prog 22 #[.slice ao n cap, .int .i64 most] w (RetB (.bool r) w) := by
 obtain ⟨vss, hG, hT⟩ := hp.ex; have hbig := hG.big; have HLP := hid hp.len; have HGP := hid hG; have HTP := hid hT; have HR := hid h; clear hp hG hT h
 go_enter Tryz.func22, Tryz.ntmps22
 go_wp2
 go_loopw [5] (fun i wr => ∃ k : Nat, i = .int .i64 k ∧ k ≤ n ∧ Hid (∀ t, t < k → wide (ps.getD t rawZ) = false) ∧ Hid (Below w.heap.size w wr)) (fun i _ => n - (intOf i).toNat)
 case atStart => exact ⟨0, rfl, Nat.zero_le _, fun t h => by omega, Below.refl _ _⟩
 case round =>
  obtain ⟨k, rfl, hk, HE, HB⟩ := hrel
  by_cases hkn : k < n
  ·obtain ⟨b, off, rfl, _, hca⟩ := HGP.out.at (by omega)
   have HCA := hid hca; clear hca; have hcl := HCA.out
   obtain ⟨xa, xn, xc, xp, xq, xr, hv, tz, tmm⟩ := Tms.get rawZ HTP.out k (by rw [HLP.out]; omega)
   have hlP : k < ps.length := by rw [HLP.out]; omega
   have eqP : ps.getD k rawZ = ps[k] := by simp [List.getD, List.getElem?_eq_getElem hlP]
   have hcells : ∀ V : World, Below w.heap.size w V → (V.cell? ⟨b, off + k * 3, none⟩ = some (.bool (ps.getD k rawZ).1.1) ∧ V.cell? ⟨b, off + k * 3 + 1, none⟩ = some (.slice xa xn xc) ∧ V.cell? ⟨b, off + k * 3 + 2, none⟩ = some (.slice xp xq xr)) := by
    intro V hV
    have h0 := hcl V hV k (by omega) 0 (by omega)
    have h1 := hcl V hV k (by omega) 1 (by omega)
    have h2 := hcl V hV k (by omega) 2 (by omega)
    rw [hv] at h0 h1 h2
    exact ⟨h0, h1, h2⟩
   rw [eqP] at tz tmm; obtain ⟨xm, hxm⟩ : ∃ xm, xm = (ps.getD k rawZ).1.1 := ⟨_, rfl⟩
   rw [← hxm] at hcells; rw [eqP] at hxm
   have HCP := hid hcells; have HSP := hid tz; have HMP := hid tmm; have HNP := hid hxm; clear hcl hv hcells tz tmm eqP hxm; obtain ⟨A, hA⟩ : ∃ A, decide ((20 : Int) < (xn : Int)) = A := ⟨_, rfl⟩; obtain ⟨C, hC⟩ : ∃ C, decide ((12 : Int) < (xq : Int)) = C := ⟨_, rfl⟩
   have HT : Hid (wide (ps[k]) = (A || C)) := by rw [Hid, ← hA, ← hC]; unfold wide; rw [HSP.out.len, HMP.out.len]
   have HYES : Hid ((A || C) = true → greatR ps most = true) := fun g => by
    unfold greatR
    rw [Bool.or_eq_true, List.any_eq_true]
    exact .inl ⟨ps[k], List.getElem_mem _, by rw [HT.out]; exact g⟩
   obtain ⟨c0, c1, c2⟩ := HCP.out _ HB.out
   cases A with
   | true =>
    have HR2 : Hid (r = true) := HR.out.symm.trans (HYES.out rfl)
    go_wp2_with fail
    go_ret
    have hr := HR2.out; subst hr
    exact ⟨rfl, HB.out⟩
   | false =>
    cases C with
    | true =>
     have HR2 : Hid (r = true) := HR.out.symm.trans (HYES.out rfl)
     go_wp2_with fail
     go_ret
     have hr := HR2.out; subst hr
     exact ⟨rfl, HB.out⟩
    | false =>
     have HE2 : Hid (∀ t, t < k + 1 → wide (ps.getD t rawZ) = false) := fun t ht => by
      by_cases h : t < k
      ·exact HE.out t h
      ·obtain rfl : t = k := by omega
       rw [rawD hlP, HT.out]; rfl
     go_wp2_with fail
     go_roundw
     case rel => exact ⟨k + 1, by go_num, by omega, HE2, HB⟩
     case measure => simp [intOf]; omega
  ·obtain rfl : k = n := by omega
   have HR2 : Hid (r = decide (most < (k : Int))) := by
    rw [Hid, ← HR.out]
    unfold greatR
    rw [show ps.any wide = false from by
     rw [List.any_eq_false]
     intro t ht
     obtain ⟨j, hj, rfl⟩ := List.getElem_of_mem ht
     rw [← rawD hj, HE.out j (by rw [← HLP.out]; exact hj)]
     simp, HLP.out]
    rfl
   go_wp2_with fail
   go_ret
   have hr := HR2.out; subst hr
   exact ⟨rfl, HB.out⟩
theorem AtN.other {w w' : World} {b g : Nat} {us vs : List Value} {T T2 : TypeId} (h : AtN w b us T) (hg : AtN w g vs T2) (hT : T2 ≠ T) (hG : w.grownBy w' (some g)) : AtN w' b us T := by
 refine h.keep (hG.block b h.lt fun eq => ?_)
 have e' : b = g := Option.some.inj eq
 subst e'
 unfold AtN at h hg
 rw [h] at hg
 cases hg
 exact hT rfl
theorem Sl.staysC {w w' : World} {g : Nat} (hc : CleanB w g) (hG : w.grownBy w' (some g)) {bo : Option Addr} {k cb : Nat} {xs : List Nat} (h : Sl w bo k cb xs) : Sl w' bo k cb xs :=
 ⟨h.len, h.le, h.big, h.wf, h.nil, fun ad had t ht => clean_stays hc hG (h.cells ad had t ht)⟩
theorem sl_stays {B : Nat} {e : TypeId} {sz : Nat} {w w' : World} {ao : Option Addr} {n cap : Nat} {vss : List (List Value)} {bo : Option Addr} {k cb : Nat} {xs : List Nat} (h : Sl w bo k cb xs) (hO : Go1 B e sz w ao n cap vss) (hG : w.grownBy w' (Value.slice ao n cap).ownBlock) : Sl w' bo k cb xs :=
 ⟨h.len, h.le, h.big, h.wf, h.nil, fun ad had t ht => hO.stays hG (h.cells ad had t ht)⟩
theorem TmR.staysC [Ol] {w w' : World} {g : Nat} (hc : CleanB w g) (hG : w.grownBy w' (some g)) {vs : List Value} {t : Raw} (h : TmR w vs t) : TmR w' vs t := by
 obtain ⟨ao, n, cap, bo, k, cb, h1, h2, h4⟩ := h
 exact ⟨ao, n, cap, bo, k, cb, h1, Sl.staysC hc hG h2, h4.staysC hc hG⟩
theorem TmR.stays [Ol] {B : Nat} {e : TypeId} {sz : Nat} {w w' : World} {ao : Option Addr} {n cap : Nat} {vss : List (List Value)} {vs : List Value} {t : Raw} (h : TmR w vs t) (hO : Go1 B e sz w ao n cap vss) (hG : w.grownBy w' (Value.slice ao n cap).ownBlock) : TmR w' vs t := by
 obtain ⟨ao, n, cap, bo, k, cb, h1, h2, h4⟩ := h
 exact ⟨ao, n, cap, bo, k, cb, h1, sl_stays h2 hO hG, h4.stays hO hG⟩
theorem Pr.wf [Ol] {w : World} {ao : Option Addr} {n cap : Nat} {ps : List Raw} (h : Pr w ao n cap ps) : ∀ t ∈ ps, Wf t.1.2 := by
 intro t ht
 obtain ⟨i, hi, rfl⟩ := List.mem_iff_getElem.1 ht
 obtain ⟨_, _, _, _, _, _, _, _, _, _, _, hs, _⟩ := h.at (k := i) (by rw [← h.len]; exact hi)
 rw [getD_of _ hi] at hs
 exact hs.wf
theorem great_facts {ps : List Raw} {most : Int} (h : greatR ps most = false) : (ps.length : Int) ≤ most ∧ ∀ t ∈ ps, t.1.2.length ≤ 20 ∧ t.2.length ≤ 12 := by
 unfold greatR at h
 rw [Bool.or_eq_false_iff] at h
 refine ⟨by have := of_decide_eq_false h.2; omega, fun t ht => ?_⟩
 have h1 := List.any_eq_false.1 h.1 t ht
 unfold wide at h1
 simp only [Bool.or_eq_true, decide_eq_true_eq, not_or] at h1
 omega
end Go.Proofs.YtmmgipcacceakaaGreat

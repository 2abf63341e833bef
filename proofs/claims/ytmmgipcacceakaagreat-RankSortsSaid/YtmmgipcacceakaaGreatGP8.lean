/- PKnownP, PX, PGreat, PCopy, PrFacts -/
import Derived.Test.YtmmgipcacceakaaGreatGP2
set_option maxHeartbeats 40000000
set_option maxRecDepth 100000
namespace Go.Proofs.YtmmgipcacceakaaGreat
open Go.RowKit
def kx : List Term := [(1, [(1, 1)])]
def ky : List Term := [(1, [(2, 1)])]
theorem fall_of_dec {p : List Term} (h1 : ∀ t ∈ p, t.1 ≠ 0 ∧ mayM 0 t.2 = true) (h2 : ofT p = p) : fall p := by
 rw [← h2]
 exact (ofT_spec fun t ht => (h1 t ht).2).1
theorem kx_fall : fall kx := fall_of_dec (by decide +kernel) (by decide +kernel)
theorem ky_fall : fall ky := fall_of_dec (by decide +kernel) (by decide +kernel)
theorem Ml.lit [Ol] (w : World) (u v : Int) (T : TypeId) (hu : in64 u) (hv : in64 v) (hT : badT.contains T = false := by decide) : Ml (w.alloc (.cells #[.int .i64 u, .int .i64 v] T)) (some ⟨w.heap.size, 0, none⟩) 1 1 [(u, v)] := by
 refine Ml.of_cells rfl (Nat.le_refl _) (by omega) (fun p hp => by simp at hp; subst hp; exact ⟨hu, hv⟩) (fun _ => Kp.new w _ T hT) fun t ht => ?_
 obtain rfl : t = 0 := by omega
 have hh : (w.alloc (.cells #[.int .i64 u, .int .i64 v] T)).heap[w.heap.size]? = some (.cells #[.int .i64 u, .int .i64 v] T (0, 0)) := by
  show (w.heap.push _)[w.heap.size]? = _
  rw [Array.getElem?_push_size]
 simp only [World.cell?, hh]
 simp
theorem x_any8 [Ol] (v : Int) (w : World) (h : in64 v) :
  Calls Tryz.prog 23 #[.int .i64 v] w (NewPz 2 w [(1, [(v, 1)])]) := by
 have HV := Lib.hid h; clear h
 go_enter Tryz.func23, Tryz.ntmps23
 go_wp2_with fail
 refine (zsmall_any 1 w (by omega)).mono ?_
 rintro e w1 ⟨m, ao, k, cap, rfl, hX, hB⟩; have HX := Lib.hid hX; have HB := Lib.hid hB; clear hX hB; go_wp2_with fail
 go_ret
 have hgl := Gl.lit 3 (w1.alloc (.cells #[.int .i64 v, .int .i64 1] 87)) [.bool m, .slice ao k cap, .slice (some ⟨w1.heap.size, 0, none⟩) 1 1] 79 rfl (by simp [Value.oneCell'])
 rw [show (w1.alloc (.cells #[.int .i64 v, .int .i64 1] 87)).heap.size = w1.heap.size + 1 from by simp] at hgl
 refine ⟨_, _, _, rfl, ⟨_, hgl, ?_⟩, ?_⟩
 ·have hM := Ml.lit w1 v 1 87 HV.out (by unfold in64; omega)
  have hZ := (HX.out.below (below_alloc w1 (.cells #[.int .i64 v, .int .i64 1] 87)))
  exact ⟨⟨_, _, _, _, _, _, _, rfl, hZ.below (below_alloc _ _), bd_small (by omega), hM.below (below_alloc _ _)⟩, trivial⟩
 ·have h := HB.out.size
  exact (HB.out.alloc h _).alloc (by simp; omega) _
open Lib (hid)
def wide (t : Raw) : Bool := decide ((20 : Int) < t.1.2.length) || decide ((12 : Int) < t.2.length)
def greatR (ps : List Raw) (most : Int) : Bool := ps.any wide || decide (most < (ps.length : Int))
theorem great_any8 [Ol] (r : Bool) (most : Int) {ao : Option Addr} {n cap : Nat} {ps : List Raw} {w : World} (hp : Pr w ao n cap ps) (h : greatR ps most = r) :
  Calls Tryz.prog 22 #[.slice ao n cap, .int .i64 most] w (RetB (.bool r) w) := by
 obtain ⟨vss, hG, hT⟩ := hp.ex; have hbig := hG.big; have HLP := hid hp.len; have HGP := hid hG; have HTP := hid hT; have HR := hid h; clear hp hG hT h
 go_enter Tryz.func22, Tryz.ntmps22
 go_wp2
 go_loopw [5] (fun i wr => ∃ k : Nat, i = .int .i64 k ∧ k ≤ n ∧ Hid (∀ t, t < k → wide (ps.getD t rawZ) = false) ∧ Hid (Below w.heap.size w wr)) (fun i _ => n - (intOf i).toNat)
 case atStart => exact ⟨0, rfl, Nat.zero_le _, fun t h => by omega, Below.refl _ _⟩
 case round =>
  obtain ⟨k, rfl, hk, HE, HB⟩ := hrel
  by_cases hkn : k < n
  ·obtain ⟨b, off, rfl, _, hca⟩ := HGP.out.at (by omega)
   have HCA := hid hca; clear hca; have hcl := HCA.out
   obtain ⟨xa, xn, xc, xp, xq, xr, hv, tz, tmm⟩ := Tms.get rawZ HTP.out k (by rw [HLP.out]; omega)
   have hlP : k < ps.length := by rw [HLP.out]; omega
   have eqP : ps.getD k rawZ = ps[k] := by simp [List.getD, List.getElem?_eq_getElem hlP]
   have hcells : ∀ V : World, Below w.heap.size w V → (V.cell? ⟨b, off + k * 3, none⟩ = some (.bool (ps.getD k rawZ).1.1) ∧ V.cell? ⟨b, off + k * 3 + 1, none⟩ = some (.slice xa xn xc) ∧ V.cell? ⟨b, off + k * 3 + 2, none⟩ = some (.slice xp xq xr)) := by
    intro V hV
    have h0 := hcl V hV k (by omega) 0 (by omega)
    have h1 := hcl V hV k (by omega) 1 (by omega)
    have h2 := hcl V hV k (by omega) 2 (by omega)
    rw [hv] at h0 h1 h2
    exact ⟨h0, h1, h2⟩
   rw [eqP] at tz tmm; obtain ⟨xm, hxm⟩ : ∃ xm, xm = (ps.getD k rawZ).1.1 := ⟨_, rfl⟩
   rw [← hxm] at hcells; rw [eqP] at hxm
   have HCP := hid hcells; have HSP := hid tz; have HMP := hid tmm; have HNP := hid hxm; clear hcl hv hcells tz tmm eqP hxm; obtain ⟨A, hA⟩ : ∃ A, decide ((20 : Int) < (xn : Int)) = A := ⟨_, rfl⟩; obtain ⟨C, hC⟩ : ∃ C, decide ((12 : Int) < (xq : Int)) = C := ⟨_, rfl⟩
   have HT : Hid (wide (ps[k]) = (A || C)) := by rw [Hid, ← hA, ← hC]; unfold wide; rw [HSP.out.len, HMP.out.len]
   have HYES : Hid ((A || C) = true → greatR ps most = true) := fun g => by
    unfold greatR
    rw [Bool.or_eq_true, List.any_eq_true]
    exact .inl ⟨ps[k], List.getElem_mem _, by rw [HT.out]; exact g⟩
   obtain ⟨c0, c1, c2⟩ := HCP.out _ HB.out
   cases A with
   | true =>
    have HR2 : Hid (r = true) := HR.out.symm.trans (HYES.out rfl)
    go_wp2_with fail
    go_ret
    have hr := HR2.out; subst hr
    exact ⟨rfl, HB.out⟩
   | false =>
    cases C with
    | true =>
     have HR2 : Hid (r = true) := HR.out.symm.trans (HYES.out rfl)
     go_wp2_with fail
     go_ret
     have hr := HR2.out; subst hr
     exact ⟨rfl, HB.out⟩
    | false =>
     have HE2 : Hid (∀ t, t < k + 1 → wide (ps.getD t rawZ) = false) := fun t ht => by
      by_cases h : t < k
      ·exact HE.out t h
      ·obtain rfl : t = k := by omega
       rw [rawD hlP, HT.out]; rfl
     go_wp2_with fail
     go_roundw
     case rel => exact ⟨k + 1, by go_num, by omega, HE2, HB⟩
     case measure => simp [intOf]; omega
  ·obtain rfl : k = n := by omega
   have HR2 : Hid (r = decide (most < (k : Int))) := by
    rw [Hid, ← HR.out]
    unfold greatR
    rw [show ps.any wide = false from by
     rw [List.any_eq_false]
     intro t ht
     obtain ⟨j, hj, rfl⟩ := List.getElem_of_mem ht
     rw [← rawD hj, HE.out j (by rw [← HLP.out]; exact hj)]
     simp, HLP.out]
    rfl
   go_wp2_with fail
   go_ret
   have hr := HR2.out; subst hr
   exact ⟨rfl, HB.out⟩
open Lib (hid)
theorem AtN.other {w w' : World} {b g : Nat} {us vs : List Value} {T T2 : TypeId} (h : AtN w b us T) (hg : AtN w g vs T2) (hT : T2 ≠ T) (hG : w.grownBy w' (some g)) : AtN w' b us T := by
 refine h.keep (hG.block b h.lt fun eq => ?_)
 have e' : b = g := Option.some.inj eq
 subst e'
 unfold AtN at h hg
 rw [h] at hg
 cases hg
 exact hT rfl
theorem empty_row {w : World} {B g : Nat} {T : TypeId} (sz : Nat) (h : AtN w g [] T) (hB : B ≤ g) : w.ownsRow B T sz (.slice (some ⟨g, 0, none⟩) 0 0) 0 [] :=
 ⟨by simp, .inr ⟨g, 0, #[], rfl, hB, h, Nat.le_refl _, by simp, by simp⟩⟩
theorem Sl.staysC {w w' : World} {g : Nat} (hc : CleanB w g) (hG : w.grownBy w' (some g)) {bo : Option Addr} {k cb : Nat} {xs : List Nat} (h : Sl w bo k cb xs) : Sl w' bo k cb xs :=
 ⟨h.len, h.le, h.big, h.wf, h.nil, fun ad had t ht => clean_stays hc hG (h.cells ad had t ht)⟩
theorem sl_stays {B : Nat} {e : TypeId} {sz : Nat} {w w' : World} {ao : Option Addr} {n cap : Nat} {vss : List (List Value)} {bo : Option Addr} {k cb : Nat} {xs : List Nat} (h : Sl w bo k cb xs) (hO : Go1 B e sz w ao n cap vss) (hG : w.grownBy w' (Value.slice ao n cap).ownBlock) : Sl w' bo k cb xs :=
 ⟨h.len, h.le, h.big, h.wf, h.nil, fun ad had t ht => hO.stays hG (h.cells ad had t ht)⟩
theorem TmR.staysC [Ol] {w w' : World} {g : Nat} (hc : CleanB w g) (hG : w.grownBy w' (some g)) {vs : List Value} {t : Raw} (h : TmR w vs t) : TmR w' vs t := by
 obtain ⟨ao, n, cap, bo, k, cb, h1, h2, h4⟩ := h
 exact ⟨ao, n, cap, bo, k, cb, h1, Sl.staysC hc hG h2, h4.staysC hc hG⟩
theorem TmR.stays [Ol] {B : Nat} {e : TypeId} {sz : Nat} {w w' : World} {ao : Option Addr} {n cap : Nat} {vss : List (List Value)} {vs : List Value} {t : Raw} (h : TmR w vs t) (hO : Go1 B e sz w ao n cap vss) (hG : w.grownBy w' (Value.slice ao n cap).ownBlock) : TmR w' vs t := by
 obtain ⟨ao, n, cap, bo, k, cb, h1, h2, h4⟩ := h
 exact ⟨ao, n, cap, bo, k, cb, h1, sl_stays h2 hO hG, h4.stays hO hG⟩
def NewPr [Ol] (w : World) (p : List Raw) (e : Ending) (w' : World) : Prop := ∃ ao n cap, e = .returned (.slice ao n cap) ∧ Pr w' ao n cap p ∧ Below w.heap.size w w'
theorem wp_dupL {P : Program} (wa w0 : World) {o : Oper} {a : Act} {K : Act → World → Prop} {Q : Exit → Act → World → Prop}
  (s x : Operand) (t : TypeId) (hop : o.op = Op.call { callee := Callee.builtin Builtin.append, args := #[s, x], argTypes := #[t, t] })
  (B : Nat) (i : TypeInfo) (z : Value) (h1 : P.underlying t = some (.slice 118)) (h2 : P.info? 118 = some i) (h3 : i.zero = some z) (h4 : i.size = 1) (h5 : i.bytes = 4) (h6 : z.cells.size = 1)
  (g : Nat) (hs : a.eval s = .slice (some ⟨g, 0, none⟩) 0 0) (hO : wa.ownsRow B 118 1 (.slice (some ⟨g, 0, none⟩) 0 0) 0 []) (ao : Option Addr) (n cap : Nat) (xs : List Nat) (hx : a.eval x = .slice ao n cap) (hS : Sl wa ao n cap xs)
  (hb : Below B w0 wa) (hB : B ≤ wa.heap.size)
  (hK : ∀ ao' cap' w', Sl w' ao' n cap' xs → Below B w0 w' → wa.grownBy w' (some g) → K (a.put o.dst (.slice ao' n cap')) w') :
  Oper.wp P o a wa K Q := by
 cases ao with
 | none =>
  have hn : n = 0 := by have := hS.nil rfl; have := hS.le; omega
  have hc : cap = 0 := hS.nil rfl
  subst hn; subst hc
  have hxs : xs = [] := List.eq_nil_of_length_eq_zero hS.len
  subst hxs; have hrun := run_append_owned_none (P := P) wa B t o.type 118 i 1 h1 h2 _ 0 [] hO
  unfold Oper.wp
  simp [execOp, hop, resolve, invoke, builtin, hs, hx, hrun, Result.andThen]
  exact hK _ _ wa (Own.sl (B := B) ⟨by simpa [cellsOf] using hO, Nat.zero_le _, fun _ h => by cases h⟩) hb (World.grownBy.refl _ _)
 | some ad =>
  refine wp_append_own wa s x t hop B 118 i z 1 4 h1 h2 h3 h4 h5 h6 (by decide) _ 0 [] hs hO ad n cap (cellsOf xs) hx (by rw [cellsOf_length, hS.len, Nat.mul_one]) ?_ (cellsOf_one xs) (by have := hS.big; unfold maxLen; omega) (by have := hS.big; omega) hB ?_
  ·intro j u hj
   have hjl : j < n := by have := (List.getElem?_eq_some_iff.1 hj).1; rwa [cellsOf_length, hS.len] at this
   rw [hS.cells ad rfl j hjl, ← hj, cellsOf_get xs j (by rw [hS.len]; exact hjl)]
  ·intro v' w' hown' hgrow _
   obtain ⟨ao', cap', rfl⟩ := owns_shape2 hown'; rw [Nat.zero_add] at hown' ⊢
   exact hK ao' cap' w' (Own.sl (B := B) ⟨by simpa using hown', hS.big, hS.wf⟩) (hb.grown hgrow hB fun k hk => (hO.lt k hk).1) hgrow
theorem copy_any8 [Ol] {bo : Option Addr} {l cb : Nat} {ps : List Raw} {w : World} (hq : Pr w bo l cb ps) (hn : l ≤ 100000) :
  Calls Tryz.prog 7 #[.slice bo l cb] w (NewPr w ps) := by
 obtain ⟨i0, hi, hz0, hz1, hz2⟩ := info_parts Tryz.info_TT; obtain ⟨j0, hi2, hy0, hy1, hy2⟩ := info_parts Tryz.info_pow; obtain ⟨l0, hi3, hx0, hx1, hx2⟩ := info_parts Tryz.info_u32; obtain ⟨vss, hG, hT⟩ := hq.ex; have hle := hG.le; have hbig := hG.big; have hql := hq.len; have HGP := hid hG; have HTP := hid hT; have HLP := hid hql; clear hq hG hT hql
 go_enter Tryz.func7, Tryz.ntmps7
 go_wp2
 go_loopw [3, 4] (fun o i wr => ∃ (k c2 : Nat) (oo : Option Addr) (zs : List (List Value)), i = .int .i64 k ∧ o = .slice oo k c2 ∧ k ≤ l ∧ Hid (Go1 w.heap.size 56 3 wr oo k c2 zs ∧ Tms (TmR wr) zs (ps.take k) ∧ Below w.heap.size w wr)) (fun _ i _ => l - (intOf i).toNat)
 case atStart => exact ⟨0, 0, none, [], rfl, rfl, Nat.zero_le _, Go1.nil _ _ _ _, trivial, Below.refl _ _⟩
 case round =>
  obtain ⟨k, c2, oo, zs, rfl, rfl, hk, HS⟩ := hrel
  by_cases hkl : k < l
  ·obtain ⟨b, off, rfl, _, hcl⟩ := HGP.out.at (by omega)
   obtain ⟨xa, xn, xc, xp, xq, xr, hv, tz, tmm⟩ := Tms.get rawZ HTP.out k (by rw [HLP.out]; omega)
   have hlP : k < ps.length := by rw [HLP.out]; omega
   have eqP : ps.getD k rawZ = ps[k] := by simp [List.getD, List.getElem?_eq_getElem hlP]
   have hcells : ∀ V : World, Below w.heap.size w V → (V.cell? ⟨b, off + k * 3, none⟩ = some (.bool (ps.getD k rawZ).1.1) ∧ V.cell? ⟨b, off + k * 3 + 1, none⟩ = some (.slice xa xn xc) ∧ V.cell? ⟨b, off + k * 3 + 2, none⟩ = some (.slice xp xq xr)) := by
    intro V hV
    have h0 := hcl V hV k (by omega) 0 (by omega)
    have h1 := hcl V hV k (by omega) 1 (by omega)
    have h2 := hcl V hV k (by omega) 2 (by omega)
    rw [hv] at h0 h1 h2
    exact ⟨h0, h1, h2⟩
   rw [eqP] at tz tmm; obtain ⟨xm, hxm⟩ : ∃ xm, xm = (ps.getD k rawZ).1.1 := ⟨_, rfl⟩
   rw [← hxm] at hcells; rw [eqP] at hxm
   have HCP := hid hcells; have HSP := hid tz; have HMP := hid tmm; have HNP := hid hxm; clear hcl hv hcells tz tmm eqP hxm
   have HQ : Hid (ps.take (k + 1) = ps.take k ++ [ps[k]]) := List.take_succ_eq_append_getElem hlP
   go_upto_region 5 with (fail)
   refine wp_region_held_drew (S := fun w' => (w'.cell? ⟨b, off + k * 3, none⟩ = some (.bool xm) ∧ w'.cell? ⟨b, off + k * 3 + 1, none⟩ = some (.slice xa xn xc) ∧ w'.cell? ⟨b, off + k * 3 + 2, none⟩ = some (.slice xp xq xr))) (by kernel_rfl) (HCP.out _ HS.out.2.2.drew) (fun hH => ?_)
   refine anyH_world (fun w4 hW => ?_)
   have HS4 : Hid (Go1 w.heap.size 56 3 w4 oo k c2 zs ∧ Tms (TmR w4) zs (ps.take k) ∧ Below w.heap.size w w4) := by rw [hW]; exact ⟨HS.out.1.below (Below.refl _ _).drew, HS.out.2.1.imp (fun _ _ h => h.below (Below.refl _ _).drew), HS.out.2.2.drew⟩
   rw [← hW] at hH; clear hW HS
   refine son 0 hH ?_; try simp only [nrm]
   refine son 1 hH ?_; try simp only [nrm]
   refine son 2 hH ?_; try simp only [nrm]
   refine son 3 hH ?_; try simp only [nrm]
   refine son 4 hH ?_; try simp only [nrm]
   refine son 5 hH ?_; try simp only [nrm]
   refine son 6 hH ?_; try simp only [nrm]
   refine son 8 hH ?_; try simp only [nrm]
   refine son 9 hH ?_; try simp only [nrm]
   refine son 10 hH ?_; try simp only [nrm]
   refine son 11 hH ?_; try simp only [nrm]
   refine son 12 hH ?_; try simp only [nrm]
   refine son 13 hH ?_; try simp only [nrm]
   refine son 17 hH ?_; try simp only [nrm]
   refine son 18 hH ?_; try simp only [nrm]
   refine son 19 hH ?_; try simp only [nrm]
   refine son 20 hH ?_; try simp only [nrm]
   refine son 21 hH ?_; try simp only [nrm]
   refine wpAnyH_ready (rs := [7, 16]) (by kernel_rfl) (by simp) (ready_cons rfl (fun KK hK => ?_) (ready_cons rfl (fun KK hK => ?_) AllReadyH.nil))
   ·go_simp
    clear hH; refine hK.out _ _ (HCP.out _ (HS4.out.2.2.trans (Below.mono (below_alloc w4 _) HS4.out.2.2.size))) fun hH => ?_; clear hK KK
    try simp only [nrm]
    refine anyH_world (fun w5 hW => ?_)
    obtain ⟨gl, hg⟩ : ∃ g, g = w4.heap.size := ⟨_, rfl⟩
    have HS5 : Hid (Go1 w.heap.size 56 3 w5 oo k c2 zs ∧ Tms (TmR w5) zs (ps.take k) ∧ Below w.heap.size w w5) := by rw [hW]; exact ⟨HS4.out.1.below (below_alloc w4 _), HS4.out.2.1.imp (fun _ _ h => h.below (below_alloc w4 _)), HS4.out.2.2.alloc HS4.out.2.2.size _⟩
    have HL5 : Hid (AtN w5 gl [] 118 ∧ w.heap.size ≤ gl) := by rw [hW, hg]; exact ⟨AtN.new w4 [] _, HS4.out.2.2.size⟩
    rw [← hW] at hH; rw [← hg]
    clear hW hg HS4
    refine wpAnyH_ready (rs := [14, 16]) (by kernel_rfl) (by simp) (ready_cons rfl (fun KK hK => ?_) (ready_cons rfl (fun KK hK => ?_) AllReadyH.nil))
    ·refine wp_dupL w5 w (.tmp 18) (.tmp 24) 50 rfl w.heap.size l0 (.int .u32 0) Tryz.underlying50 hi3 hx0 hx1 hx2 rfl gl rfl (empty_row 1 HL5.out.1 HL5.out.2) _ _ _ _ rfl (HSP.out.below HS5.out.2.2) HS5.out.2.2 HS5.out.2.2.size ?_
     intro ra rc w6 hM hB hG
     have HS6 : Hid (Go1 w.heap.size 56 3 w6 oo k c2 zs ∧ Tms (TmR w6) zs (ps.take k) ∧ Below w.heap.size w w6) := ⟨HS5.out.1.other HL5.out.1 (by decide) hG, HS5.out.2.1.imp (fun _ _ h => TmR.staysC HL5.out.1.clean hG h), hB⟩
     have HX6 := hid hM; clear hM hB hG HS5 HL5
     clear hH; refine hK.out _ _ (HCP.out _ HS6.out.2.2) fun hH => ?_; clear hK KK
     try simp only [nrm]
     refine son 15 hH ?_; try simp only [nrm]
     refine step_one 16 rfl (by kernel_rfl) (fun KK hK => ?_)
     go_simp
     clear hH; refine hK.out _ _ (HCP.out _ (HS6.out.2.2.trans (Below.mono (below_alloc w6 _) HS6.out.2.2.size))) fun hH => ?_; clear hK KK
     try simp only [nrm]
     refine anyH_world (fun w7 hW => ?_)
     obtain ⟨gm, hg⟩ : ∃ g, g = w6.heap.size := ⟨_, rfl⟩
     have HS7 : Hid (Go1 w.heap.size 56 3 w7 oo k c2 zs ∧ Tms (TmR w7) zs (ps.take k) ∧ Below w.heap.size w w7) := by rw [hW]; exact ⟨HS6.out.1.below (below_alloc w6 _), HS6.out.2.1.imp (fun _ _ h => h.below (below_alloc w6 _)), HS6.out.2.2.alloc HS6.out.2.2.size _⟩
     have HX7 : Hid (Sl w7 ra xn rc (ps[k]).1.2) := by rw [hW]; exact HX6.out.below (below_alloc w6 _)
     have HN7 : Hid (AtN w7 gm [] 87 ∧ w.heap.size ≤ gm) := by rw [hW, hg]; exact ⟨AtN.new w6 [] _, HS6.out.2.2.size⟩
     rw [← hW] at hH; rw [← hg]
     clear hW hg HS6 HX6
     refine step_one 22 rfl (by kernel_rfl) (fun KK hK => ?_)
     refine wp_dupM w7 w (.tmp 27) (.tmp 32) 54 rfl w.heap.size j0 (.agg #[.int .i64 0, .int .i64 0]) Tryz.underlying54 hi2 hy0 hy1 hy2 rfl gm rfl ⟨empty_row 2 HN7.out.1 HN7.out.2, Nat.zero_le _, fun _ h => by cases h⟩ _ _ _ _ rfl (HMP.out.below HS7.out.2.2) HS7.out.2.2 HS7.out.2.2.size ?_
     intro ma mc w8 hM hB hG
     have HS8 : Hid (Go1 w.heap.size 56 3 w8 oo k c2 zs ∧ Tms (TmR w8) zs (ps.take k) ∧ Below w.heap.size w w8) := ⟨HS7.out.1.other HN7.out.1 (by decide) hG, HS7.out.2.1.imp (fun _ _ h => TmR.staysC HN7.out.1.clean hG h), hB⟩
     have HX8 : Hid (Sl w8 ra xn rc (ps[k]).1.2) := Sl.staysC HN7.out.1.clean hG HX7.out
     have HY8 := hid hM; clear hM hB hG HS7 HN7 HX7
     clear hH; refine hK.out _ _ (HCP.out _ HS8.out.2.2) fun hH => ?_; clear hK KK
     try simp only [nrm]
     refine son 23 hH ?_; try simp only [nrm]
     refine step_one 24 rfl (by kernel_rfl) (fun KK hK => ?_)
     go_simp
     clear hH; refine hK.out _ _ (HCP.out _ (HS8.out.2.2.trans (Below.mono (below_alloc w8 _) HS8.out.2.2.size))) fun hH => ?_; clear hK KK
     try simp only [nrm]
     have HZ : Hid (TmR w8 [.bool xm, .slice ra xn rc, .slice ma xq mc] ps[k]) := ⟨_, _, _, _, _, _, by rw [HNP.out], HX8.out, HY8.out⟩
     refine step_one 25 rfl (by kernel_rfl) (fun KK hK => ?_)
     refine wp_joinG _ w (.tmp 11) (.tmp 35) 26 rfl w.heap.size 56 3 56 i0 (.agg #[.bool false, .slice none 0 0, .slice none 0 0]) Tryz.underlying26 hi hz0 hz1 hz2 rfl (by omega) oo k c2 zs rfl (HS8.out.1.below (below_alloc w8 _)) _ 1 1 [[.bool xm, .slice ra xn rc, .slice ma xq mc]] rfl (Gl.lit 3 w8 _ _ rfl (by simp [Value.oneCell'])) (HS8.out.2.2.alloc HS8.out.2.2.size _) (by have := HS8.out.2.2.size; simp; omega) (by omega) (by omega) (by simp [Value.cells, notInt]) (by simp [notInt]) ?_
     intro oz cz wz hO hB8 hG8
     have HSZ : Hid (Go1 w.heap.size 56 3 wz oz (k + 1) cz (zs ++ [[.bool xm, .slice ra xn rc, .slice ma xq mc]]) ∧ Tms (TmR wz) (zs ++ [[.bool xm, .slice ra xn rc, .slice ma xq mc]]) (ps.take (k + 1)) ∧ Below w.heap.size w wz) := ⟨hO, by rw [HQ.out]; exact Tms.append (HS8.out.2.1.imp (fun _ _ h => (h.below (below_alloc w8 _)).stays (HS8.out.1.below (below_alloc w8 _)) hG8)) ⟨(HZ.out.below (below_alloc w8 _)).stays (HS8.out.1.below (below_alloc w8 _)) hG8, trivial⟩, hB8⟩
     clear HS8 hO hB8 hG8 HZ HQ
     clear hH; refine hK.out _ _ (HCP.out _ HSZ.out.2.2) fun hH => ?_; clear hK KK
     try simp only [nrm]
     refine son 26 hH ?_; try simp only [nrm]
     refine wpAnyH_done (by kernel_rfl) ?_ _
     go_wp2_with fail
     go_roundw
     case rel => exact ⟨k + 1, cz, oz, _, by go_num, rfl, by omega, HSZ.out⟩
     case measure => simp [intOf]; omega
    ·go_simp
     clear hH; refine hK.out _ _ (HCP.out _ (HS5.out.2.2.trans (Below.mono (below_alloc w5 _) HS5.out.2.2.size))) fun hH => ?_; clear hK KK
     try simp only [nrm]
     refine anyH_world (fun w6 hW => ?_)
     obtain ⟨gm, hg⟩ : ∃ g, g = w5.heap.size := ⟨_, rfl⟩
     have HS6 : Hid (Go1 w.heap.size 56 3 w6 oo k c2 zs ∧ Tms (TmR w6) zs (ps.take k) ∧ Below w.heap.size w w6) := by rw [hW]; exact ⟨HS5.out.1.below (below_alloc w5 _), HS5.out.2.1.imp (fun _ _ h => h.below (below_alloc w5 _)), HS5.out.2.2.alloc HS5.out.2.2.size _⟩
     have HL6 : Hid (AtN w6 gl [] 118 ∧ w.heap.size ≤ gl) := by rw [hW]; exact ⟨HL5.out.1.below (below_alloc w5 _), HL5.out.2⟩
     have HN6 : Hid (AtN w6 gm [] 87 ∧ w.heap.size ≤ gm) := by rw [hW, hg]; exact ⟨AtN.new w5 [] _, HS5.out.2.2.size⟩
     rw [← hW] at hH; rw [← hg]
     clear hW hg HS5 HL5
     refine step_one 14 rfl (by kernel_rfl) (fun KK hK => ?_)
     refine wp_dupL w6 w (.tmp 18) (.tmp 24) 50 rfl w.heap.size l0 (.int .u32 0) Tryz.underlying50 hi3 hx0 hx1 hx2 rfl gl rfl (empty_row 1 HL6.out.1 HL6.out.2) _ _ _ _ rfl (HSP.out.below HS6.out.2.2) HS6.out.2.2 HS6.out.2.2.size ?_
     intro ra rc w7 hM hB hG
     have HS7 : Hid (Go1 w.heap.size 56 3 w7 oo k c2 zs ∧ Tms (TmR w7) zs (ps.take k) ∧ Below w.heap.size w w7) := ⟨HS6.out.1.other HL6.out.1 (by decide) hG, HS6.out.2.1.imp (fun _ _ h => TmR.staysC HL6.out.1.clean hG h), hB⟩
     have HN7 : Hid (AtN w7 gm [] 87 ∧ w.heap.size ≤ gm) := ⟨HN6.out.1.other HL6.out.1 (by decide) hG, HN6.out.2⟩
     have HX7 := hid hM; clear hM hB hG HS6 HL6 HN6
     clear hH; refine hK.out _ _ (HCP.out _ HS7.out.2.2) fun hH => ?_; clear hK KK
     try simp only [nrm]
     refine son 15 hH ?_; try simp only [nrm]
     refine step_one 22 rfl (by kernel_rfl) (fun KK hK => ?_)
     refine wp_dupM w7 w (.tmp 27) (.tmp 32) 54 rfl w.heap.size j0 (.agg #[.int .i64 0, .int .i64 0]) Tryz.underlying54 hi2 hy0 hy1 hy2 rfl gm rfl ⟨empty_row 2 HN7.out.1 HN7.out.2, Nat.zero_le _, fun _ h => by cases h⟩ _ _ _ _ rfl (HMP.out.below HS7.out.2.2) HS7.out.2.2 HS7.out.2.2.size ?_
     intro ma mc w8 hM hB hG
     have HS8 : Hid (Go1 w.heap.size 56 3 w8 oo k c2 zs ∧ Tms (TmR w8) zs (ps.take k) ∧ Below w.heap.size w w8) := ⟨HS7.out.1.other HN7.out.1 (by decide) hG, HS7.out.2.1.imp (fun _ _ h => TmR.staysC HN7.out.1.clean hG h), hB⟩
     have HX8 : Hid (Sl w8 ra xn rc (ps[k]).1.2) := Sl.staysC HN7.out.1.clean hG HX7.out
     have HY8 := hid hM; clear hM hB hG HS7 HN7 HX7
     clear hH; refine hK.out _ _ (HCP.out _ HS8.out.2.2) fun hH => ?_; clear hK KK
     try simp only [nrm]
     refine son 23 hH ?_; try simp only [nrm]
     refine step_one 24 rfl (by kernel_rfl) (fun KK hK => ?_)
     go_simp
     clear hH; refine hK.out _ _ (HCP.out _ (HS8.out.2.2.trans (Below.mono (below_alloc w8 _) HS8.out.2.2.size))) fun hH => ?_; clear hK KK
     try simp only [nrm]
     have HZ : Hid (TmR w8 [.bool xm, .slice ra xn rc, .slice ma xq mc] ps[k]) := ⟨_, _, _, _, _, _, by rw [HNP.out], HX8.out, HY8.out⟩
     refine step_one 25 rfl (by kernel_rfl) (fun KK hK => ?_)
     refine wp_joinG _ w (.tmp 11) (.tmp 35) 26 rfl w.heap.size 56 3 56 i0 (.agg #[.bool false, .slice none 0 0, .slice none 0 0]) Tryz.underlying26 hi hz0 hz1 hz2 rfl (by omega) oo k c2 zs rfl (HS8.out.1.below (below_alloc w8 _)) _ 1 1 [[.bool xm, .slice ra xn rc, .slice ma xq mc]] rfl (Gl.lit 3 w8 _ _ rfl (by simp [Value.oneCell'])) (HS8.out.2.2.alloc HS8.out.2.2.size _) (by have := HS8.out.2.2.size; simp; omega) (by omega) (by omega) (by simp [Value.cells, notInt]) (by simp [notInt]) ?_
     intro oz cz wz hO hB8 hG8
     have HSZ : Hid (Go1 w.heap.size 56 3 wz oz (k + 1) cz (zs ++ [[.bool xm, .slice ra xn rc, .slice ma xq mc]]) ∧ Tms (TmR wz) (zs ++ [[.bool xm, .slice ra xn rc, .slice ma xq mc]]) (ps.take (k + 1)) ∧ Below w.heap.size w wz) := ⟨hO, by rw [HQ.out]; exact Tms.append (HS8.out.2.1.imp (fun _ _ h => (h.below (below_alloc w8 _)).stays (HS8.out.1.below (below_alloc w8 _)) hG8)) ⟨(HZ.out.below (below_alloc w8 _)).stays (HS8.out.1.below (below_alloc w8 _)) hG8, trivial⟩, hB8⟩
     clear HS8 hO hB8 hG8 HZ HQ
     clear hH; refine hK.out _ _ (HCP.out _ HSZ.out.2.2) fun hH => ?_; clear hK KK
     try simp only [nrm]
     refine son 26 hH ?_; try simp only [nrm]
     refine wpAnyH_done (by kernel_rfl) ?_ _
     go_wp2_with fail
     go_roundw
     case rel => exact ⟨k + 1, cz, oz, _, by go_num, rfl, by omega, HSZ.out⟩
     case measure => simp [intOf]; omega
   ·go_simp
    clear hH; refine hK.out _ _ (HCP.out _ (HS4.out.2.2.trans (Below.mono (below_alloc w4 _) HS4.out.2.2.size))) fun hH => ?_; clear hK KK
    try simp only [nrm]
    refine anyH_world (fun w5 hW => ?_)
    obtain ⟨gm, hg⟩ : ∃ g, g = w4.heap.size := ⟨_, rfl⟩
    have HS5 : Hid (Go1 w.heap.size 56 3 w5 oo k c2 zs ∧ Tms (TmR w5) zs (ps.take k) ∧ Below w.heap.size w w5) := by rw [hW]; exact ⟨HS4.out.1.below (below_alloc w4 _), HS4.out.2.1.imp (fun _ _ h => h.below (below_alloc w4 _)), HS4.out.2.2.alloc HS4.out.2.2.size _⟩
    have HN5 : Hid (AtN w5 gm [] 87 ∧ w.heap.size ≤ gm) := by rw [hW, hg]; exact ⟨AtN.new w4 [] _, HS4.out.2.2.size⟩
    rw [← hW] at hH; rw [← hg]
    clear hW hg HS4
    refine step_one 7 rfl (by kernel_rfl) (fun KK hK => ?_)
    go_simp
    clear hH; refine hK.out _ _ (HCP.out _ (HS5.out.2.2.trans (Below.mono (below_alloc w5 _) HS5.out.2.2.size))) fun hH => ?_; clear hK KK
    try simp only [nrm]
    refine anyH_world (fun w6 hW => ?_)
    obtain ⟨gl, hg⟩ : ∃ g, g = w5.heap.size := ⟨_, rfl⟩
    have HS6 : Hid (Go1 w.heap.size 56 3 w6 oo k c2 zs ∧ Tms (TmR w6) zs (ps.take k) ∧ Below w.heap.size w w6) := by rw [hW]; exact ⟨HS5.out.1.below (below_alloc w5 _), HS5.out.2.1.imp (fun _ _ h => h.below (below_alloc w5 _)), HS5.out.2.2.alloc HS5.out.2.2.size _⟩
    have HN6 : Hid (AtN w6 gm [] 87 ∧ w.heap.size ≤ gm) := by rw [hW]; exact ⟨HN5.out.1.below (below_alloc w5 _), HN5.out.2⟩
    have HL6 : Hid (AtN w6 gl [] 118 ∧ w.heap.size ≤ gl) := by rw [hW, hg]; exact ⟨AtN.new w5 [] _, HS5.out.2.2.size⟩
    rw [← hW] at hH; rw [← hg]
    clear hW hg HS5 HN5
    refine step_one 14 rfl (by kernel_rfl) (fun KK hK => ?_)
    refine wp_dupL w6 w (.tmp 18) (.tmp 24) 50 rfl w.heap.size l0 (.int .u32 0) Tryz.underlying50 hi3 hx0 hx1 hx2 rfl gl rfl (empty_row 1 HL6.out.1 HL6.out.2) _ _ _ _ rfl (HSP.out.below HS6.out.2.2) HS6.out.2.2 HS6.out.2.2.size ?_
    intro ra rc w7 hM hB hG
    have HS7 : Hid (Go1 w.heap.size 56 3 w7 oo k c2 zs ∧ Tms (TmR w7) zs (ps.take k) ∧ Below w.heap.size w w7) := ⟨HS6.out.1.other HL6.out.1 (by decide) hG, HS6.out.2.1.imp (fun _ _ h => TmR.staysC HL6.out.1.clean hG h), hB⟩
    have HN7 : Hid (AtN w7 gm [] 87 ∧ w.heap.size ≤ gm) := ⟨HN6.out.1.other HL6.out.1 (by decide) hG, HN6.out.2⟩
    have HX7 := hid hM; clear hM hB hG HS6 HL6 HN6
    clear hH; refine hK.out _ _ (HCP.out _ HS7.out.2.2) fun hH => ?_; clear hK KK
    try simp only [nrm]
    refine son 15 hH ?_; try simp only [nrm]
    refine step_one 22 rfl (by kernel_rfl) (fun KK hK => ?_)
    refine wp_dupM w7 w (.tmp 27) (.tmp 32) 54 rfl w.heap.size j0 (.agg #[.int .i64 0, .int .i64 0]) Tryz.underlying54 hi2 hy0 hy1 hy2 rfl gm rfl ⟨empty_row 2 HN7.out.1 HN7.out.2, Nat.zero_le _, fun _ h => by cases h⟩ _ _ _ _ rfl (HMP.out.below HS7.out.2.2) HS7.out.2.2 HS7.out.2.2.size ?_
    intro ma mc w8 hM hB hG
    have HS8 : Hid (Go1 w.heap.size 56 3 w8 oo k c2 zs ∧ Tms (TmR w8) zs (ps.take k) ∧ Below w.heap.size w w8) := ⟨HS7.out.1.other HN7.out.1 (by decide) hG, HS7.out.2.1.imp (fun _ _ h => TmR.staysC HN7.out.1.clean hG h), hB⟩
    have HX8 : Hid (Sl w8 ra xn rc (ps[k]).1.2) := Sl.staysC HN7.out.1.clean hG HX7.out
    have HY8 := hid hM; clear hM hB hG HS7 HN7 HX7
    clear hH; refine hK.out _ _ (HCP.out _ HS8.out.2.2) fun hH => ?_; clear hK KK
    try simp only [nrm]
    refine son 23 hH ?_; try simp only [nrm]
    refine step_one 24 rfl (by kernel_rfl) (fun KK hK => ?_)
    go_simp
    clear hH; refine hK.out _ _ (HCP.out _ (HS8.out.2.2.trans (Below.mono (below_alloc w8 _) HS8.out.2.2.size))) fun hH => ?_; clear hK KK
    try simp only [nrm]
    have HZ : Hid (TmR w8 [.bool xm, .slice ra xn rc, .slice ma xq mc] ps[k]) := ⟨_, _, _, _, _, _, by rw [HNP.out], HX8.out, HY8.out⟩
    refine step_one 25 rfl (by kernel_rfl) (fun KK hK => ?_)
    refine wp_joinG _ w (.tmp 11) (.tmp 35) 26 rfl w.heap.size 56 3 56 i0 (.agg #[.bool false, .slice none 0 0, .slice none 0 0]) Tryz.underlying26 hi hz0 hz1 hz2 rfl (by omega) oo k c2 zs rfl (HS8.out.1.below (below_alloc w8 _)) _ 1 1 [[.bool xm, .slice ra xn rc, .slice ma xq mc]] rfl (Gl.lit 3 w8 _ _ rfl (by simp [Value.oneCell'])) (HS8.out.2.2.alloc HS8.out.2.2.size _) (by have := HS8.out.2.2.size; simp; omega) (by omega) (by omega) (by simp [Value.cells, notInt]) (by simp [notInt]) ?_
    intro oz cz wz hO hB8 hG8
    have HSZ : Hid (Go1 w.heap.size 56 3 wz oz (k + 1) cz (zs ++ [[.bool xm, .slice ra xn rc, .slice ma xq mc]]) ∧ Tms (TmR wz) (zs ++ [[.bool xm, .slice ra xn rc, .slice ma xq mc]]) (ps.take (k + 1)) ∧ Below w.heap.size w wz) := ⟨hO, by rw [HQ.out]; exact Tms.append (HS8.out.2.1.imp (fun _ _ h => (h.below (below_alloc w8 _)).stays (HS8.out.1.below (below_alloc w8 _)) hG8)) ⟨(HZ.out.below (below_alloc w8 _)).stays (HS8.out.1.below (below_alloc w8 _)) hG8, trivial⟩, hB8⟩
    clear HS8 hO hB8 hG8 HZ HQ
    clear hH; refine hK.out _ _ (HCP.out _ HSZ.out.2.2) fun hH => ?_; clear hK KK
    try simp only [nrm]
    refine son 26 hH ?_; try simp only [nrm]
    refine wpAnyH_done (by kernel_rfl) ?_ _
    go_wp2_with fail
    go_roundw
    case rel => exact ⟨k + 1, cz, oz, _, by go_num, rfl, by omega, HSZ.out⟩
    case measure => simp [intOf]; omega
  ·obtain rfl : k = l := by omega
   go_wp2_with fail
   go_ret
   refine ⟨_, _, _, rfl, ⟨_, HS.out.1.gl, ?_⟩, HS.out.2.2⟩
   have h := HS.out.2.1
   rw [List.take_of_length_le (by rw [HLP.out]; exact Nat.le_refl _)] at h
   exact h
theorem Pr.wf [Ol] {w : World} {ao : Option Addr} {n cap : Nat} {ps : List Raw} (h : Pr w ao n cap ps) : ∀ t ∈ ps, Wf t.1.2 := by
 intro t ht
 obtain ⟨i, hi, rfl⟩ := List.mem_iff_getElem.1 ht
 obtain ⟨_, _, _, _, _, _, _, _, _, _, _, hs, _⟩ := h.at (k := i) (by rw [← h.len]; exact hi)
 rw [getD_of _ hi] at hs
 exact hs.wf
theorem great_facts {ps : List Raw} {most : Int} (h : greatR ps most = false) : (ps.length : Int) ≤ most ∧ ∀ t ∈ ps, t.1.2.length ≤ 20 ∧ t.2.length ≤ 12 := by
 unfold greatR at h
 rw [Bool.or_eq_false_iff] at h
 refine ⟨by have := of_decide_eq_false h.2; omega, fun t ht => ?_⟩
 have h1 := List.any_eq_false.1 h.1 t ht
 unfold wide at h1
 simp only [Bool.or_eq_true, decide_eq_true_eq, not_or] at h1
 omega
end Go.Proofs.YtmmgipcacceakaaGreat

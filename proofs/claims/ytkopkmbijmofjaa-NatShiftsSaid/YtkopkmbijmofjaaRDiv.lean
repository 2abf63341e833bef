/-
  The contract of porismref01.DivMod.
-/
import Derived.Test.YtkopkmbijmofjaaRLimbs
import Derived.Test.YtkopkmbijmofjaaRCmp
import Derived.Test.YtkopkmbijmofjaaRSub
import Derived.Laws.AppendOwnNone
namespace Go.Proofs.Ytkopkmbijmofjaa.Dg
open Go.RowKit

theorem grown_refl (w : World) (row : Option Nat) : w.grownBy w row := ⟨rfl, rfl, rfl, Nat.le_refl _, fun _ _ _ => rfl⟩

/-- 'append(s, x...)': s the call's own, x any digits. -/
theorem wpList_join {P : Program} (wa w0 : World) {ops : Array Oper} {rest : List Oper} {o : Oper} {a : Act} {Q : Exit → Act → World → Prop}
    (hg : o.guard = none) (s x : Operand) (t : TypeId) (hop : o.op = Op.call { callee := Callee.builtin Builtin.append, args := #[s, x], argTypes := #[t, t] })
    (B : Nat) (i : TypeInfo) (z : Value) (h1 : P.underlying t = some (.slice 3)) (h2 : P.info? 3 = some i) (h3 : i.zero = some z) (h4 : i.size = 1) (h5 : i.bytes = 8) (h6 : z.cells.size = 1)
    (aos : Option Addr) (ns caps : Nat) (zs : List Nat) (hs : a.eval s = .slice aos ns caps) (hO : Own B wa aos ns caps zs) (ao : Option Addr) (n cap : Nat) (xs : List Nat) (hx : a.eval x = .slice ao n cap) (hS : Sl wa ao n cap xs)
    (hb : Below B w0 wa) (hB : B ≤ wa.heap.size) (hroom : ns + n ≤ 17592186044416)
    (hK : ∀ ao' cap' w', Own B w' ao' (ns + n) cap' (zs ++ xs) → Below B w0 w' → wpList P ops Q rest (a.put o.dst (.slice ao' (ns + n) cap')) w') :
    wpList P ops Q (o :: rest) a wa := by
  cases ao with
  | none =>
    have hn : n = 0 := by have := hS.nil rfl; have := hS.le; omega
    have hc : cap = 0 := hS.nil rfl
    subst hn; subst hc
    have hxs : xs = [] := List.eq_nil_of_length_eq_zero hS.len
    subst hxs
    refine wpList_plain hg fun K hK' => ?_
    have hrun := run_append_owned_none (P := P) wa B t o.type 3 i 1 h1 h2 _ ns (cellsOf zs) hO.row
    unfold Oper.wp
    simp [execOp, hop, resolve, invoke, builtin, hs, hx, hrun, Result.andThen]
    exact hK' _ _ (by simpa using hK aos caps wa (by simpa using hO) hb)
  | some ad =>
    refine wpList_append_own _ hg s x t hop B 3 i z 1 8 h1 h2 h3 h4 h5 h6 (by decide) _ ns (cellsOf zs) hs hO.row ad n cap (cellsOf xs) hx (by rw [cellsOf_length, hS.len, Nat.mul_one]) ?_ (cellsOf_one xs) (by unfold maxLen; omega) (by omega) hB ?_
    · intro j u hj
      have hjl : j < n := by have := (List.getElem?_eq_some_iff.1 hj).1; rwa [cellsOf_length, hS.len] at this
      rw [hS.cells ad rfl j hjl, ← hj, cellsOf_get xs j (by rw [hS.len]; exact hjl)]
    · intro v' w' hown' hgrow _
      have hsh : ∃ ao' cap', v' = .slice ao' (ns + n) cap' := by
        rcases hown'.2 with ⟨hv, h0⟩ | ⟨g, cap, cur, hv, _⟩
        · exact ⟨none, 0, by rw [hv, h0]⟩
        · exact ⟨_, _, hv⟩
      obtain ⟨ao', cap', rfl⟩ := hsh
      refine hK ao' cap' w' ⟨by rw [cellsOf_append]; exact hown', hroom, fun y hy => ?_⟩ (hb.grown hgrow hB fun k hk => (hO.row.lt k hk).1)
      rcases List.mem_append.1 hy with hy | hy
      · exact hO.wf y hy
      · exact hS.wf y hy

/-- the number in a cell: what the inner loop counts up -/
def qAt (g i : Nat) (w : World) : Nat := match w.cell? ⟨g, i, none⟩ with | some v => (intOf v).toNat | none => 0

theorem qAt_of {g i z : Nat} {w : World} (h : w.cell? ⟨g, i, none⟩ = some (.int .i64 ((z : Nat) : Int))) : qAt g i w = z := by
  unfold qAt
  rw [h]
  simp [intOf]

/-- what porismref01.DivMod leaves -/
def NewDM (w : World) (q r : Nat) (e : Ending) (w' : World) : Prop :=
  ∃ ao n cap ao' n' cap', e = .returned (.tuple #[.slice ao n cap, .slice ao' n' cap']) ∧ Sl w' ao n cap (limbs q) ∧ Sl w' ao' n' cap' (limbs r) ∧ Below w.heap.size w w'

/-- What the outer loop holds from place j on: the quotient's digits, the rest. -/
structure DivInv (g la : Nat) (w : World) (X : List Nat) (Bv j : Nat) (ao : Option Addr) (L cap : Nat) (R : Nat) (zs : List Nat) (wr : World) : Prop where
  own : Own w.heap.size wr (some ⟨g, 0, none⟩) la la zs
  rest : Sl wr ao L cap (limbs R)
  far : ∀ ad, ao = some ad → ad.block ≠ g
  below : Below w.heap.size w wr

theorem Sl.set_other {w : World} {ao : Option Addr} {n cap : Nat} {xs : List Nat} (h : Sl w ao n cap xs) {a : Addr} (hne : ∀ ad, ao = some ad → ad.block ≠ a.block) (u : Value) : Sl (w.setCell a u) ao n cap xs :=
  ⟨h.len, h.le, h.big, h.wf, h.nil, fun ad had t ht => by
    have h0 := h.cells ad had t ht
    have e : (ad.add t).block = ad.block := by unfold Addr.add; split <;> rfl
    rw [World.cell?_of_block (w := w) (Below.heap_setCell w a u _ (by rw [e]; exact hne ad had))]
    exact h0⟩

/-- what is in memory that is newer than block g lies apart from it -/
theorem far_new {B g : Nat} {w : World} {ao : Option Addr} {n cap : Nat} {ys : List Nat} (h : Own B w ao n cap ys) (hg : g < B) : ∀ ad, ao = some ad → ad.block ≠ g := by
  intro ad had e
  rcases h.parts with ⟨h2, _⟩ | ⟨g', h2, h3, _⟩
  · rw [h2] at had; cases had
  · rw [h2] at had
    obtain rfl := Option.some.inj had
    simp at e; omega

theorem div_digit {q Bv R d R' : Nat} (h : q * Bv + R' = d + 10 * R) (hR : R < Bv) (hd : d < 10) (hge : Bv ≤ R') : q + 1 < 10 := by
  rcases Nat.lt_or_ge (q + 1) 10 with h1 | h1
  · exact h1
  · have h2 : 10 * Bv ≤ (q + 1) * Bv := Nat.mul_le_mul_right _ h1
    rw [Nat.add_mul] at h2
    omega

theorem cmp_val (c : Int) (a0 b0 : Option Addr) (la ca lb cb a b : Nat) (w : World) (ha : Sl w a0 la ca (limbs a)) (hb : Sl w b0 lb cb (limbs b)) (hc : Hid (cmpN a b = c)) :
    Calls Try.prog 17 #[.slice a0 la ca, .slice b0 lb cb] w (Go.Proofs.Ytkopkmbijmofjaa.RetB (.int .i64 c) w) := by
  rw [← hc.out]; exact cmp_any a0 b0 la ca lb cb a b w ha hb

theorem div_row {q V R R' d Bv X Y : Nat} (h1 : q * Bv + R' = d + 10 * R) (h2 : V * Bv + R = X) (h3 : Y = d + 10 * X) : (q + 10 * V) * Bv + R' = Y := by
  rw [h3, ← h2, Nat.add_mul, Nat.mul_add, Nat.mul_assoc]
  omega

theorem DivInv.step {g la : Nat} {w : World} {X : List Nat} {Bv j : Nat} {ao : Option Addr} {L cap R : Nat} {zs : List Nat} {wr w' : World} (h : DivInv g la w X Bv j ao L cap R zs wr) (hb : Below wr.heap.size wr w') : DivInv g la w X Bv j ao L cap R zs w' :=
  ⟨h.own.below hb, h.rest.below hb, h.far, Go.Proofs.Ytkopkmbijmofjaa.Below.steps h.below hb⟩

set_option maxHeartbeats 4000000 in
theorem divmod_any (a0 b0 : Option Addr) (la ca lb cb : Nat) (xs : List Nat) (Bv : Nat) (w : World) (ha : Sl w a0 la ca xs) (hb : Sl w b0 lb cb (limbs Bv)) (hBv : 0 < Bv) (hra : la ≤ 1000000) (hrb : lb ≤ 1000000) :
    Calls Try.prog 23 #[.slice a0 la ca, .slice b0 lb cb] w (NewDM w (val xs / Bv) (val xs % Bv)) := by
  obtain ⟨i0, hi, hz0, hz1, hz2⟩ := info_parts Try.info_int
  have hbl := hb.len
  have HLB : Hid (Bv < 10 ^ lb) := by have := val_lt (limbs Bv) hb.wf; rwa [val_limbs, hb.len] at this
  clear hbl
  go_enter Try.func23, Try.ntmps23
  go_wp2_with (at_make; refine wpList_make_full _ rfl _ _ 26 rfl w.heap.size 3 i0 (.int .i64 0) 1 Try.underD hi hz0 hz1 _ _ _ _ la rfl rfl rfl rfl ?b2 ?b3 (Nat.le_refl _) ?_)
  case b2 => rw [hz2]; omega
  case b3 => unfold maxLen; omega
  intro w1 hown1 hgrow1
  rw [made_int] at hown1
  have hb1 : Below w.heap.size w w1 := (Below.refl _ _).grown hgrow1 (Nat.le_refl _) (fun k h => by cases h)
  have hO1 : Own w.heap.size w1 (some ⟨w.heap.size, 0, none⟩) la la (List.replicate la 0) :=
    ⟨hown1, by omega, fun x hx => by rw [(List.mem_replicate.1 hx).2]; omega⟩
  clear hown1 hgrow1
  have HI1 : Hid (DivInv w.heap.size la w xs Bv la none 0 0 0 (List.replicate la 0) w1) := ⟨hO1, by rw [limbs_zero]; exact Sl.none _, (fun _ h => by cases h), hb1⟩
  have HE1 : Hid (val ((List.replicate la 0).drop la) * Bv + 0 = val (xs.drop la)) := by
    show _ = _
    rw [List.drop_eq_nil_of_le (by simp), List.drop_eq_nil_of_le (by rw [ha.len]; exact Nat.le_refl _), val_nil, Nat.zero_mul]
  clear hO1 hb1
  go_wp2_with fail
  go_loopw [7, 8] (fun r i wr => ∃ (j R L : Nat) (ao : Option Addr) (cap : Nat) (zs : List Nat), j ≤ la ∧ i = .int .i64 ((j : Int) - 1) ∧ r = .slice ao L cap ∧ L ≤ lb ∧ R < Bv ∧ DivInv w.heap.size la w xs Bv j ao L cap R zs wr ∧ Hid (∀ t, t < j → zs.getD t 0 = 0) ∧ Hid (val (zs.drop j) * Bv + R = val (xs.drop j))) (fun _ i _ => (intOf i + 1).toNat)
  case atStart => exact ⟨la, 0, 0, none, 0, _, Nat.le_refl _, rfl, rfl, Nat.zero_le _, hBv, HI1.out, fun t _ => getD_replicate_zero _ _, HE1⟩
  case round =>
    clear HI1 HE1
    obtain ⟨j, R, L, ao, cap, zs, hj, rfl, rfl, hL, hR, hI, HZ, hV⟩ := hrel
    obtain ⟨wo, rfl⟩ : ∃ wo : World, wo = wr := ⟨_, rfl⟩
    by_cases hj0 : j = 0
    · subst hj0
      have hcut := trim_own _ _ _ _ _ _ hI.own
      have hq : val zs = val xs / Bv ∧ R = val xs % Bv := by
        have h0 := hV.out
        simp only [List.drop_zero] at h0
        have h1 : val xs = R + Bv * val zs := by rw [← h0, Nat.mul_comm]; omega
        rw [h1]
        exact ⟨by rw [Nat.add_mul_div_left _ _ hBv, Nat.div_eq_of_lt hR, Nat.zero_add], by rw [Nat.add_mul_mod_self_left, Nat.mod_eq_of_lt hR]⟩
      rw [hq.1] at hcut
      have HCUT := Lib.hid hcut
      have HR : Hid (Sl wo ao L cap (limbs (val xs % Bv))) := by rw [Hid, ← hq.2]; exact hI.rest
      have HB := Lib.hid hI.below
      clear hV hcut hq hI hR
      go_wp2_with fail
      refine HCUT.out.mono fun e w' h => ?_
      obtain ⟨ao2, kk, cap2, rfl, h3, rfl⟩ := h
      go_wp2_with fail
      go_ret2
      exact ⟨_, _, _, _, _, _, rfl, h3.sl, HR.out, HB.out⟩
    · obtain ⟨i, rfl⟩ : ∃ i, j = i + 1 := ⟨j - 1, by omega⟩
      have ei : ((i + 1 : Nat) : Int) - 1 = (i : Int) := by omega
      rw [ei]
      clear ei
      obtain ⟨pa, offa, rfl, hpa, hca⟩ := ha.at (by omega)
      have hac : wo.cell? ⟨pa, offa + i, none⟩ = some (.int .i64 (xs.getD i 0 : Nat)) := (hI.below.cell (by exact hpa)).trans (hca i (by omega))
      have hdl := ha.getD_lt i
      have hdrop := val_drop xs i (by rw [ha.len]; omega)
      obtain ⟨d, hd⟩ : ∃ d, d = xs.getD i 0 := ⟨_, rfl⟩
      rw [← hd] at hac hdl hdrop
      have HDR := Lib.hid hdrop
      have hO0 := Own.lit wo [d] (by intro x hx; simp at hx; omega) (by simp)
      have HO0 : Hid (Own wo.heap.size (wo.alloc (.cells #[.int .i64 ((d : Nat) : Int)] 3)) (some ⟨wo.heap.size, 0, none⟩) 1 1 [d]) := hO0
      have HS0 : Hid (Sl (wo.alloc (.cells #[.int .i64 ((d : Nat) : Int)] 3)) ao L cap (limbs R)) := hI.rest.below ((Below.refl _ _).alloc (Nat.le_refl _) _)
      have HB0 : Hid (Below wo.heap.size wo (wo.alloc (.cells #[.int .i64 ((d : Nat) : Int)] 3))) := (Below.refl _ _).alloc (Nat.le_refl _) _
      have HI := Lib.hid hI
      clear hd hca hdrop hO0 hI hj0
      go_wp2_with (at_builtin; refine wpList_join _ wo rfl (.tmp 23) (.tmp 24) 26 rfl wo.heap.size i0 (.int .i64 0) Try.underD hi hz0 hz1 hz2 rfl _ _ _ _ rfl HO0.out _ _ _ _ rfl HS0.out HB0.out (by simp) (by omega) ?_; intro ao1 cap1 w2 hO2 hB2)
      have hcut := trim_own _ _ _ _ _ _ hO2
      have hv1 : val ([d] ++ limbs R) = d + 10 * R := by
        rw [List.singleton_append, val_cons, val_limbs]
      rw [hv1] at hcut
      have hl1 : (limbs (d + 10 * R)).length ≤ lb + 1 := limbs_len (by have := HLB.out; rw [Nat.pow_succ]; omega)
      have HL1 := Lib.hid hl1
      have HCUT := Lib.hid hcut
      clear hcut hv1 hl1 hO2 HO0 HS0 HB0
      go_wp2_with fail
      refine HCUT.out.mono fun e w' h => ?_
      obtain ⟨ao2, n2, cap2, rfl, hO3, rfl⟩ := h
      have hn2 : n2 ≤ lb + 1 := by rw [← hO3.len]; exact HL1.out
      have hI2 : DivInv w.heap.size la w xs Bv i ao2 n2 cap2 (d + 10 * R) zs w2 :=
        ⟨HI.out.own.below hB2, hO3.sl, far_new hO3 (by have := HI.out.own.parts; rcases this with ⟨h, _⟩ | ⟨g, h, _, h2, _⟩; · cases h
                                                       · simp at h; omega), Go.Proofs.Ytkopkmbijmofjaa.Below.steps HI.out.below hB2⟩
      have HI2 := Lib.hid hI2
      have HQ0 : Hid (zs.getD i 0 * Bv + (d + 10 * R) = d + 10 * R) := by rw [Hid, HZ.out i (by omega), Nat.zero_mul, Nat.zero_add]
      have HZ2 : Hid (∀ t, t < i → zs.getD t 0 = 0) := fun t ht => HZ.out t (by omega)
      clear HCUT HL1 hO3 hI2 hB2
      go_wp2_with fail
      go_loopw [7] (fun r wr => ∃ (R' L' : Nat) (ao' : Option Addr) (cap' : Nat) (zs' : List Nat), r = .slice ao' L' cap' ∧ L' ≤ lb + 1 ∧ DivInv w.heap.size la w xs Bv i ao' L' cap' R' zs' wr ∧ Hid (∀ t, t < i → zs'.getD t 0 = 0) ∧ Hid (val (zs'.drop (i + 1)) = val (zs.drop (i + 1))) ∧ Hid (zs'.getD i 0 * Bv + R' = d + 10 * R)) (fun _ wr => 10 - qAt w.heap.size i wr)
      case atStart => exact ⟨_, n2, ao2, cap2, zs, rfl, hn2, HI2.out, HZ2, rfl, HQ0⟩
      case round =>
        clear HI2 HQ0 HZ2 hn2 HI
        obtain ⟨R', L', ao', cap', zs', rfl, hL', hI', HZ', HDP, HQ⟩ := hrel
        by_cases hlt : R' < Bv
        · have HC : Hid (cmpN R' Bv = -1) := by rw [Hid]; unfold cmpN; rw [if_pos hlt]
          have hL2 : (limbs R').length ≤ lb := limbs_len (by have := HLB.out; omega)
          have hL3 : L' ≤ lb := by rw [← hI'.rest.len]; exact hL2
          have HV2 : Hid (val (zs'.drop i) * Bv + R' = val (xs.drop i)) := by
            rw [Hid, val_drop zs' i (by rw [hI'.own.len]; omega)]
            exact div_row HQ.out (by rw [HDP.out]; exact hV.out) HDR.out
          have hbS := hb.below hI'.below
          clear hL2
          go_wp2_with fail
          refine (cmp_val (-1) _ _ _ _ _ _ _ _ _ hI'.rest hbS HC).mono ?_
          rintro e w3 ⟨rfl, hB3⟩
          have hI3 := hI'.step hB3
          clear hI' hbS hB3
          go_wp2_with fail
          go_roundw
          case rel => exact ⟨i, R', L', ao', cap', zs', by omega, by go_num, rfl, hL3, hlt, hI3, HZ', HV2⟩
          case measure => simp [intOf]
        · obtain ⟨c, hc⟩ : ∃ c, c = cmpN R' Bv := ⟨_, rfl⟩
          have hc0 : 0 ≤ c := by rw [hc]; unfold cmpN; rw [if_neg hlt]; split <;> omega
          have HC : Hid (cmpN R' Bv = c) := hc.symm
          have hbS := hb.below hI'.below
          have hqd := div_digit HQ.out hR hdl (by omega)
          obtain ⟨z, hz⟩ : ∃ z, z = zs'.getD i 0 := ⟨_, rfl⟩
          rw [← hz] at hqd HQ
          have HZE := Lib.hid hz
          have HGE : Hid (Bv ≤ R') := by rw [Hid]; omega
          have HM : Hid (qAt w.heap.size i wr = z) := qAt_of (by rw [hz]; exact hI'.own.cell i (by omega))
          have hsl : (limbs (R' - Bv)).length ≤ lb + 1 := by
            have h1 := limbs_le_len (show R' - Bv ≤ R' by omega)
            rw [hI'.rest.len] at h1
            omega
          have HSL := Lib.hid hsl
          clear hc hz hlt hsl
          go_wp2_with fail
          refine (cmp_val c _ _ _ _ _ _ _ _ _ hI'.rest hbS HC).mono ?_
          rintro e w3 ⟨rfl, hB3⟩
          have hI3 := hI'.step hB3
          have hbS3 := hbS.below hB3
          clear hI' hbS hB3
          go_wp2_with fail
          refine (sub_any _ _ _ _ _ _ R' Bv _ hI3.rest hbS3 HGE.out (by omega)).mono ?_
          rintro e w4 ⟨ao4, n4, cap4, rfl, hO4, hB4⟩
          have hn4 : n4 ≤ lb + 1 := by rw [← hO4.len]; exact HSL.out
          have hOq := hI3.own.below hB4
          have hBq := Go.Proofs.Ytkopkmbijmofjaa.Below.steps hI3.below hB4
          have HFAR := Lib.hid (far_new hO4 (g := w.heap.size) (by have := hI3.own.parts; rcases this with ⟨h, _⟩ | ⟨g, h, _, h2, _⟩; · cases h
                                                                   · simp at h; omega))
          have hS4 := hO4.sl
          clear hI3 hbS3 hO4 hB4 HSL
          have hzc := hOq.cell i (by omega)
          rw [← HZE.out] at hzc
          have hzf := hOq.frozen i
          have hI5 : Hid (DivInv w.heap.size la w xs Bv i ao4 n4 cap4 (R' - Bv) (zs'.set i (z + 1)) (w4.setCell ⟨w.heap.size, i, none⟩ (.int .i64 (((z + 1 : Nat)) : Int)))) :=
            ⟨hOq.set i (z + 1) hqd, hS4.set_other HFAR.out _, HFAR.out, hBq.setCell (Nat.le_refl _) _⟩
          have hcell5 : Hid ((w4.setCell ⟨w.heap.size, i, none⟩ (.int .i64 (((z + 1 : Nat)) : Int))).cell? ⟨w.heap.size, i, none⟩ = some (.int .i64 (((z + 1 : Nat)) : Int))) := by
            have := hI5.out.own.cell i (by omega)
            rw [getD_set, if_pos ⟨rfl, by rw [hOq.len]; omega⟩] at this
            exact this
          have HZ5 : Hid (∀ t, t < i → (zs'.set i (z + 1)).getD t 0 = 0) := by
            intro t ht
            rw [getD_set, if_neg (by omega)]
            exact HZ'.out t ht
          have HD5 : Hid (val ((zs'.set i (z + 1)).drop (i + 1)) = val (zs.drop (i + 1))) := by rw [Hid, List.drop_set_of_lt (by omega)]; exact HDP.out
          have HQ5 : Hid ((zs'.set i (z + 1)).getD i 0 * Bv + (R' - Bv) = d + 10 * R) := by
            rw [Hid, getD_set, if_pos ⟨rfl, by rw [hOq.len]; omega⟩, Nat.add_mul, Nat.one_mul, ← HQ.out]
            have := HGE.out
            omega
          clear hOq hBq hS4
          go_wp2_with fail
          go_roundw
          case rel =>
            refine ⟨R' - Bv, n4, ao4, cap4, _, rfl, hn4, ?_, HZ5, HD5, HQ5⟩
            simpa using hI5.out
          case measure =>
            have e1 := qAt_of hcell5.out
            have e2 := HM.out
            show 10 - qAt w.heap.size i _ < 10 - qAt w.heap.size i wr
            rw [e2]
            have e3 : ((z : Nat) : Int) + 1 = ((z + 1 : Nat) : Int) := by omega
            rw [e3, e1]
            omega
end Go.Proofs.Ytkopkmbijmofjaa.Dg

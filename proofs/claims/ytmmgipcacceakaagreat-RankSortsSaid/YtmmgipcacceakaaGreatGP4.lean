/- PlJoin0, PlPile, PlWith, PlSum -/
import Derived.Test.YtmmgipcacceakaaGreatPlJoin
set_option maxHeartbeats 40000000
set_option maxRecDepth 100000
namespace Go.Proofs.YtmmgipcacceakaaGreat
open Lib (hid)
open Go.RowKit
theorem grow0_any {ao : Option Addr} {n cap : Nat} {w : World} (hn : n ≤ cap) (hc : cap ≤ maxLen) : Calls Tryz.prog 92 #[.slice ao n cap, .int .i64 0] w (fun e w' => e = .returned (.slice ao n cap) ∧ w' = w) := by
 have hbc : cap ≤ 9223372036854775807 := by unfold maxLen at hc; omega
 have hd0 : decide ((0 : Int) < (0 : Int)) = false := rfl
 obtain ⟨z, hz⟩ : ∃ z : Int, (cap : Int) - (n : Int) = z := ⟨_, rfl⟩
 have hd1 : decide ((0 : Int) < -z) = false := decide_eq_false (by omega)
 have hw : IntKind.i64.wrap (-z) = -z := IntWalk.i64_in _ ⟨by omega, by omega⟩
 have h0 : (0 : Int) - z = -z := by omega
 clear hc
 go_enter Tryz.func92, Tryz.ntmps92
 go_wp2
 go_ret
 exact ⟨rfl, rfl⟩
theorem delete0_any {ao : Option Addr} {n cap : Nat} {w : World} (hn : n ≤ cap) (hc : cap ≤ maxLen) (h0 : ao = none → cap = 0) (hs : ∀ ad, ao = some ad → ad.spot = none) : Calls Tryz.prog 94 #[.slice ao n cap, .int .i64 (n : Int), .int .i64 (n : Int)] w (fun e w' => e = .returned (.slice ao n cap) ∧ w' = w) := by
 have hbc : cap ≤ 9223372036854775807 := by unfold maxLen at hc; omega
 have hd1 : ((n : Int) == (n : Int)) = true := by simp
 clear hc
 cases ao with
 | none =>
  obtain rfl : cap = 0 := h0 rfl
  obtain rfl : n = 0 := by omega
  go_enter Tryz.func94, Tryz.ntmps94
  go_wp2
  go_ret
  exact ⟨rfl, rfl⟩
 | some ad =>
  obtain ⟨b, off, s⟩ := ad; obtain rfl : s = none := hs _ rfl
  go_enter Tryz.func94, Tryz.ntmps94
  go_wp2
  go_ret
  exact ⟨rfl, rfl⟩
theorem Hands0 {Bs cb : Nat} {bo : Option Addr} {w : World} (hB : w.cell? ⟨Bs, 0, none⟩ = some (.slice bo 0 cb)) : Hands Tryz.prog 120 #[.pointer (some ⟨Bs, 0, none⟩)] (backE 0 []) (fun k => k = Bs) 0 w := by
 intro l J W hW hY h0
 have hc : W.cell? ⟨Bs, 0, none⟩ = some (.slice bo 0 cb) := hW.cell (a := ⟨Bs, 0, none⟩) rfl hB
 have HJ := hid h0; clear hY h0 hW hB
 refine callsIn_of_wp Tryz.func120 rfl trivial ?_ rfl
 simp only [Tryz.ntmps120, List.size_toArray, List.length_cons, List.length_nil, Nat.reduceAdd, Nat.reduceSub, Array.replicate_succ, Array.replicate_zero, List.push_toArray, List.append_toArray, List.nil_append, List.cons_append]
 gi_wp2
 gi_loopw [3] (fun i wr => i = .int .i64 (-1) ∧ Hid (J 0 wr)) (fun _ _ => 0)
 case atStart => exact ⟨rfl, HJ.out⟩
 case round =>
  obtain ⟨rfl, HJ⟩ := hrel
  have hd : decide ((0 : Int) ≤ -1) = false := rfl
  gi_wp2
  go_end0
  exact ⟨⟨_, rfl⟩, HJ.out⟩
theorem pjoin0_any {G : Nat} {ao bo : Option Addr} {n cap cb : Nat} {w : World} (hnc : n ≤ cap) (hcm : cap ≤ maxLen) (hao : ao = none → cap = 0) (hsp : ∀ ad, ao = some ad → ad.spot = none) (hn6 : n ≤ 1000000) :
  Calls Tryz.prog 62 #[.slice ao n cap, .slice bo 0 cb, .func (.func G) #[] #[]] w (fun e V => e = .returned (.slice ao n cap) ∧ Below w.heap.size w V) := by
 refine calls_of_marks Tryz.func62 rfl ?_
 simp only [Tryz.ntmps62, List.size_toArray, List.length_cons, List.length_nil, Nat.reduceAdd, Nat.reduceSub, Array.replicate_succ, Array.replicate_zero, List.push_toArray, List.append_toArray, List.nil_append, List.cons_append]
 go_upto_region 2 with (fail)
 refine wp_world (fun W hW => ?_)
 obtain ⟨a5, a7, a8, hB⟩ := box3 w [.func (.func G) #[] #[]] [.int .i64 (n : Int)] [.int .i64 (n : Int)] 104 3 3; rw [← hW] at a5 a7 a8 hB; clear hW; have E70 := hid a7; have E80 := hid a8; have BW0 := hid hB; clear a5 a7 a8 hB
 go_cut [9] from 21 to 26 (fun s9 w9 => ∃ (ba : Nat), s9 = .pointer (some ⟨ba, 0, none⟩) ∧ Below w.heap.size w w9 ∧ AtN w9 ba [.slice ao n cap] 26 ∧ AtN w9 (w.heap.size + 1) [.int .i64 (n : Int)] 3 ∧ AtN w9 (w.heap.size + 1 + 1) [.int .i64 (n : Int)] 3)
 case first =>
  refine wp_region_held_drew (S := fun w' => w'.cell? ⟨w.heap.size + 1 + 1, 0, none⟩ = some (.int .i64 (n : Int))) (by kernel_rfl) E80.out.c1 (fun hH => ?_)
  refine anyH_world (fun w1 hW => ?_)
  have S1 : Below W.heap.size W w1 := by rw [hW]; exact (Below.refl _ _).drew
  have E71 := hid (E70.out.below S1); have E81 := hid (E80.out.below S1); have BW1 := hid (Below.steps BW0.out S1); rw [← hW] at hH; clear S1 E70 E80 BW0; clear hW
  refine son 0 hH ?_; try simp only [nrm]
  refine son 1 hH ?_; try simp only [nrm]
  refine son 2 hH ?_; try simp only [nrm]
  refine son 4 hH ?_; try simp only [nrm]
  refine wpAnyH_ready (rs := [3, 6]) (by kernel_rfl) (by simp) (ready_cons rfl (fun KK hK => ?_) (ready_cons rfl (fun KK hK => ?_) (AllReadyH.nil)))
  ·go_simp
   refine (grow0_any hnc hcm).mono ?_; rintro e wx ⟨rfl, hwx⟩
   rw [hwx]; clear hwx
   go_wp2_with fail
   clear hH; refine hK.out _ _ (E81.out.c1) fun hH => ?_; clear hK KK
   try simp only [nrm]
   refine son 5 hH ?_; try simp only [nrm]
   refine step_one 6 rfl (by kernel_rfl) (fun KK hK => ?_)
   go_simp
   have S2 : Below w1.heap.size w1 (w1.alloc (.cells #[.slice none 0 0] 26)) := below_alloc _ _
   clear hH; refine hK.out _ _ (AtN.c1 (T := 3) (E81.out.below S2)) fun hH => ?_; clear hK KK
   try simp only [nrm]
   refine anyH_world (fun w2 hW => ?_)
   have S3 : Below w1.heap.size w1 w2 := by rw [hW]; exact S2
   have EA2 : Hid (AtN w2 w1.heap.size [.slice none 0 0] 26) := by rw [hW]; exact AtN.new w1 [.slice none 0 0] 26
   have E72 := hid (E71.out.below S3); have E82 := hid (E81.out.below S3); have BW2 := hid (Below.steps BW1.out S3); have hw1 := BW1.out.size; rw [← hW] at hH; clear S3 S2 E71 E81 BW1; clear hW
   refine step_one 7 rfl (by kernel_rfl) (fun KK hK => ?_)
   have c0 := EA2.out.c1; have f0 := EA2.out.f1; go_simp; clear c0 f0
   clear hH; refine hK.out _ _ (AtN.c1 (T := 3) (E82.out.far (E82.out.ne EA2.out (by decide)).symm 0 _)) fun hH => ?_; clear hK KK
   try simp only [nrm]
   refine anyH_world (fun w4 hW => ?_)
   have EA4 : Hid (AtN w4 w1.heap.size [.slice ao n cap] 26) := by rw [hW]; exact EA2.out.set 0 _
   have E84 : Hid (AtN w4 (w.heap.size + 1 + 1) [.int .i64 (n : Int)] 3) := by rw [hW]; exact E82.out.far (E82.out.ne EA2.out (by decide)).symm 0 _
   have E74 : Hid (AtN w4 (w.heap.size + 1) [.int .i64 (n : Int)] 3) := by rw [hW]; exact E72.out.far (E72.out.ne EA2.out (by decide)).symm 0 _
   have BW4 : Hid (Below w.heap.size w w4) := by rw [hW]; exact BW2.out.setCell (p := ⟨w1.heap.size, 0, none⟩) hw1 _
   clear hW
   refine wpAnyH_done (by kernel_rfl) ?_ _
   clear hH; go_wp2_with fail
   go_meet
   case rel => exact ⟨_, rfl, BW4.out, EA4.out, E74.out, E84.out⟩
  ·go_simp
   have S2 : Below w1.heap.size w1 (w1.alloc (.cells #[.slice none 0 0] 26)) := below_alloc _ _
   clear hH; refine hK.out _ _ (AtN.c1 (T := 3) (E81.out.below S2)) fun hH => ?_; clear hK KK
   try simp only [nrm]
   refine anyH_world (fun w2 hW => ?_)
   have S3 : Below w1.heap.size w1 w2 := by rw [hW]; exact S2
   have EA2 : Hid (AtN w2 w1.heap.size [.slice none 0 0] 26) := by rw [hW]; exact AtN.new w1 [.slice none 0 0] 26
   have E72 := hid (E71.out.below S3); have E82 := hid (E81.out.below S3); have BW2 := hid (Below.steps BW1.out S3); have hw1 := BW1.out.size; rw [← hW] at hH; clear S3 S2 E71 E81 BW1; clear hW
   refine step_one 3 rfl (by kernel_rfl) (fun KK hK => ?_)
   go_simp; refine (grow0_any hnc hcm).mono ?_
   rintro e wx ⟨rfl, hwx⟩; rw [hwx]; clear hwx; go_wp2_with fail
   clear hH; refine hK.out _ _ (E82.out.c1) fun hH => ?_; clear hK KK
   try simp only [nrm]
   refine son 5 hH ?_; try simp only [nrm]
   refine step_one 7 rfl (by kernel_rfl) (fun KK hK => ?_)
   have c0 := EA2.out.c1; have f0 := EA2.out.f1; go_simp; clear c0 f0
   clear hH; refine hK.out _ _ (AtN.c1 (T := 3) (E82.out.far (E82.out.ne EA2.out (by decide)).symm 0 _)) fun hH => ?_; clear hK KK
   try simp only [nrm]
   refine anyH_world (fun w4 hW => ?_)
   have EA4 : Hid (AtN w4 w1.heap.size [.slice ao n cap] 26) := by rw [hW]; exact EA2.out.set 0 _
   have E84 : Hid (AtN w4 (w.heap.size + 1 + 1) [.int .i64 (n : Int)] 3) := by rw [hW]; exact E82.out.far (E82.out.ne EA2.out (by decide)).symm 0 _
   have E74 : Hid (AtN w4 (w.heap.size + 1) [.int .i64 (n : Int)] 3) := by rw [hW]; exact E72.out.far (E72.out.ne EA2.out (by decide)).symm 0 _
   have BW4 : Hid (Below w.heap.size w w4) := by rw [hW]; exact BW2.out.setCell (p := ⟨w1.heap.size, 0, none⟩) hw1 _
   clear hW
   refine wpAnyH_done (by kernel_rfl) ?_ _
   clear hH; go_wp2_with fail
   go_meet
   case rel => exact ⟨_, rfl, BW4.out, EA4.out, E74.out, E84.out⟩
 case rest =>
 clear E70 E80 BW0; obtain ⟨ba, rfl, BWc, EAc, E7c, E8c⟩ := hcut; have B9 := hid BWc; have A9 := hid EAc; have E79 := hid E7c; have E89 := hid E8c; clear BWc EAc E7c E8c; go_wp2_with fail; refine (back_any _).mono ?_; rintro e w11 ⟨rfl, rfl⟩; go_wp2_with fail
 refine wp_world (fun W hW => ?_)
 have S1 : Below wc.heap.size wc W := by rw [hW]; exact below_alloc _ _
 have B10 := hid (Below.steps B9.out S1); have A10 := hid (A9.out.below S1); have E710 := hid (E79.out.below S1); have E810 := hid (E89.out.below S1); obtain ⟨Bs, hBs⟩ : ∃ Bs, Bs = wc.heap.size := ⟨_, rfl⟩
 have HBs : Hid (AtN W Bs [.slice bo 0 cb] 26) := by rw [hW, hBs]; exact AtN.new wc [.slice bo 0 cb] 26
 rw [← hBs]; clear hW S1 hBs A9 B9 E79 E89
 have eB : ∀ args w, (callFunc 120 args).run Tryz.prog w = .ok (.enter 120 args) w := enters_of Tryz.func120 (by kernel_rfl) rfl
 have hWw := B10.out.size
 have hZ := fun (k : Nat) (h : k = Bs) => (h ▸ HBs.out.lt : k < W.heap.size)
 refine (wpIn_wide (n := 0)).1 (wpIn_range_hands rfl eB (Hands0 HBs.out.c1) hZ (fun j => rfl) (fun _ V => (AtN V ba [.slice ao n cap] 26 ∧ AtN V (w.heap.size + 1) [.int .i64 (n : Int)] 3 ∧ AtN V (w.heap.size + 1 + 1) [.int .i64 (n : Int)] 3) ∧ Below w.heap.size w V) ?own ⟨⟨A10.out, E710.out, E810.out⟩, B10.out⟩ (fun l j V hj => by omega) ?done)
 case own => exact fun j A B row hs hg hr => ⟨⟨hs.1.1.stepG hg (fun r e => by obtain ⟨_, o, h2, h3⟩ := hr r e; exact hs.1.1.obj_ne h2 h3), hs.1.2.1.stepG hg (fun r e => by obtain ⟨_, o, h2, h3⟩ := hr r e; exact hs.1.2.1.obj_ne h2 h3), hs.1.2.2.stepG hg (fun r e => by obtain ⟨_, o, h2, h3⟩ := hr r e; exact hs.1.2.2.obj_ne h2 h3)⟩, hs.2.grown hg hs.2.size (fun r e => Nat.le_trans hWw (hr r e).1)⟩
 case done =>
  rintro D V hD ⟨⟨h1, h2, h3⟩, h4⟩ hK; have c0 := h1.c1; have c1 := h2.c1; have c2 := h3.c1; have HB := hid h4
  have hDw : w.heap.size ≤ D := by omega
  clear h1 h2 h3 h4
  dsimp only
  go_wp2_with fail; refine (delete0_any hnc hcm hao hsp).mono ?_
  rintro e V2 ⟨rfl, rfl⟩; go_wp2_with fail
  refine ⟨by simp, .inl ⟨_, _, rfl, run_takeDeferred hK, ?_⟩⟩
  exact ⟨_, results_tmp rfl _ _ _, rfl, HB.out.grown (grownBy_putObj' V2 D (.deferred none)) HB.out.size (fun r e => by cases e; exact hDw)⟩
def Joined [Ol] (B K : Nat) (w : World) (ao : Option Addr) (r : List Term) (e : Ending) (V : World) : Prop :=
 ∃ ro rn rc, e = .returned (.slice ro rn rc) ∧ Pw B K V ro rn rc r ∧ w.grownBy V (blk ao) ∧ (blk ro = blk ao ∨ ∀ g', blk ro = some g' → w.heap.size ≤ g')
theorem Pw.shape [Ol] {B K : Nat} {w : World} {ao : Option Addr} {n cap : Nat} {p : List Term} (h : Pw B K w ao n cap p) : n ≤ cap ∧ cap ≤ maxLen ∧ (ao = none → cap = 0) ∧ ∀ ad, ao = some ad → ad.spot = none := by
 obtain ⟨X, h1, _⟩ := h
 rcases h1.ex with ⟨rfl, rfl, rfl, _⟩ | ⟨g, off, L, rfl, _, _, _, _, h2, h3, _⟩
 ·exact ⟨Nat.le_refl _, by unfold maxLen; omega, fun _ => rfl, fun _ e => by cases e⟩
 ·exact ⟨h2, h3, (fun e => by cases e), fun _ e => by cases e; rfl⟩
theorem join_any [Ol] {G : Nat} (eg : ∀ args w, (callFunc G args).run Tryz.prog w = .ok (.enter G args) w) {f : Int → Int → Int} {σ : Int} (hf : ∀ x y, f x y = x + σ * y) {B K : Nat} {ao bo : Option Addr} {n cap m cb : Nat} {p q r : List Term} {w : World} (hp : Pw B K w ao n cap p) (hq : Pc K w bo m cb q) (hnm : n + m ≤ 1000000) (hK : K ≤ 900000)
  (hne : ∀ g, blk ao = some g → blk bo ≠ some g) (hBw : B ≤ w.heap.size) (hfp : fall p) (hfq : fall q) (hfr : fall r) (hv : ∀ ρ, ev r ρ = ev p ρ + σ * ev q ρ) (hfB : ∀ x y, Bd x K → Bd y K → Bd (f x y) (K + 1))
  (hJ : ∀ (m k : Bool) (ao bo : Option Addr) (n cap l cb : Nat) (x y : Int) (W : World), Cx W m ao n cap x → Cx W k bo l cb y → Calls Tryz.prog G #[.agg #[.bool m, .slice ao n cap], .agg #[.bool k, .slice bo l cb]] W (NewI W (f x y))) :
  Calls Tryz.prog 62 #[.slice ao n cap, .slice bo m cb, .func (.func G) #[] #[]] w (Joined B (K + 1) w ao r) := by
 rcases Nat.eq_zero_or_pos m with h0 | h0
 ·subst h0
  obtain ⟨s1, s2, s3, s4⟩ := hp.shape; obtain rfl : q = [] := List.eq_nil_of_length_eq_zero hq.len
  obtain rfl : r = p := fall_ext hfr hfp fun ρ => by rw [hv]; simp [ev]
  refine (pjoin0_any s1 s2 s3 s4 (by omega)).mono ?_
  rintro e V ⟨rfl, hB⟩
  exact ⟨_, _, _, rfl, (hp.below hB).mono (Nat.le_refl _) (Nat.le_succ K), grown_below _ hB, .inl rfl⟩
 ·refine (pjoin_any eg hp hq h0 hnm hK (fall_mays hfp) (fall_mays hfq) hne hBw hfB hJ).mono ?_
  rintro e V ⟨ro, rn, rc, rfl, h1, ⟨row, h2, h3⟩, h4⟩; rw [join_is hf hfp hfq hfr hv] at h1
  refine ⟨ro, rn, rc, rfl, h1, ?_, h4⟩
  rcases h3 with h3 | h3
  ·rw [← h3]; exact h2
  ·exact grown_below _ h3
section
variable {B K : Nat} {ao bo : Option Addr} {n cap m cb : Nat} {p q r : List Term} {w : World}
theorem joinPlus_any [Ol] (hp : Pw B K w ao n cap p) (hq : Pc K w bo m cb q) (hnm : n + m ≤ 1000000) (hK : K ≤ 900000) (hne : ∀ g, blk ao = some g → blk bo ≠ some g) (hBw : B ≤ w.heap.size) (hfp : fall p) (hfq : fall q) (hfr : fall r) (hv : ∀ ρ, ev r ρ = ev p ρ + ev q ρ) :
  Calls Tryz.prog 62 #[.slice ao n cap, .slice bo m cb, .func (.func 64) #[] #[]] w (Joined B (K + 1) w ao r) :=
 join_any (enters_of Tryz.func64 (by kernel_rfl) rfl) (f := fun x y => x + y) (σ := 1) (fun x y => by omega) hp hq hnm hK hne hBw hfp hfq hfr (fun ρ => by rw [hv]; omega) (fun x y hx hy => hx.add hy (Nat.le_refl _)) (fun m k ao bo n cap l cb x y W hx hy => plus_any hx hy)
end
theorem Rw.stepG {B : Nat} {T : TypeId} {sz : Nat} {V V' : World} {ao : Option Addr} {n cap : Nat} {X : List (List Value)} (h : Rw B T sz V ao n cap X) {row : Option Nat} (hg : V.grownBy V' row) (hne : ∀ r, row = some r → blk ao ≠ some r) : Rw B T sz V' ao n cap X := by
 rcases h.ex with h1 | ⟨g, off, L, rfl, hB, hA, q⟩
 ·exact ⟨.inl h1⟩
 ·exact ⟨.inr ⟨g, off, L, rfl, hB, hA.stepG hg (fun r e h => hne r e (by rw [h]; rfl)), q⟩⟩
theorem Pw.stepG [Ol] {B K : Nat} {V V' : World} {ao : Option Addr} {n cap : Nat} {p : List Term} (h : Pw B K V ao n cap p) {row : Option Nat} (hg : V.grownBy V' row) (hn : ∀ r, row = some r → NoInt V r) (hne : ∀ r, row = some r → blk ao ≠ some r) : Pw B K V' ao n cap p := by
 obtain ⟨X, h1, h2⟩ := h
 exact ⟨X, h1.stepG hg hne, tms_stepG hg hn h2⟩
theorem Pw.lt [Ol] {B K : Nat} {V : World} {ao : Option Addr} {n cap : Nat} {p : List Term} (h : Pw B K V ao n cap p) : ∀ g, blk ao = some g → B ≤ g ∧ g < V.heap.size := by
 obtain ⟨X, h1, _⟩ := h
 exact h1.lt
theorem Pw.noInt [Ol] {B K : Nat} {V : World} {ao : Option Addr} {n cap : Nat} {p : List Term} (h : Pw B K V ao n cap p) : ∀ g, blk ao = some g → NoInt V g := by
 obtain ⟨X, h1, _⟩ := h
 exact fun g hg => (h1.cleanB g hg).noInt
theorem Pw.at1 [Ol] {B K : Nat} {V : World} {ao : Option Addr} {n cap : Nat} {p : List Term} (h : Pw B K V ao n cap p) : ∀ g, blk ao = some g → ∃ L, AtN V g L 56 := by
 obtain ⟨X, h1, _⟩ := h
 intro g hg
 rcases h1.ex with ⟨rfl, _⟩ | ⟨g', off, L, rfl, hB, hA, q⟩
 ·cases hg
 ·cases hg; exact ⟨L, hA⟩
def blkV : List Value → Option Nat
 | [.slice ao _ _] => blk ao
 | _ => none
def PlE [Ol] (B K : Nat) (w : World) (vs : List Value) (p : List Term) : Prop := ∃ ao n cap, vs = [.slice ao n cap] ∧ Pw B K w ao n cap p ∧ fall p
def Aparts (X : List (List Value)) : Prop := X.Pairwise fun a b => ∀ g, blkV a = some g → blkV b ≠ some g
def Off (X : List (List Value)) (o : Option Nat) : Prop := ∀ g, o = some g → ∀ vs ∈ X, blkV vs ≠ some g
def evs : List (List Term) → (Nat → Int) → Int
 | [], _ => 0
 | p :: ps, ρ => ev p ρ + evs ps ρ
def lens : List (List Term) → Nat
 | [] => 0
 | p :: ps => p.length + lens ps
theorem PlE.stepG [Ol] {B K : Nat} {V V' : World} {vs : List Value} {p : List Term} (h : PlE B K V vs p) {row : Option Nat} (hg : V.grownBy V' row) (hn : ∀ r, row = some r → NoInt V r) (hne : ∀ r, row = some r → blkV vs ≠ some r) : PlE B K V' vs p := by
 obtain ⟨ao, n, cap, rfl, h1, h2⟩ := h
 exact ⟨ao, n, cap, rfl, h1.stepG hg hn hne, h2⟩
theorem PlE.mono [Ol] {B K K' : Nat} {V : World} {vs : List Value} {p : List Term} (h : PlE B K V vs p) (hk : K ≤ K') : PlE B K' V vs p := by
 obtain ⟨ao, n, cap, rfl, h1, h2⟩ := h
 exact ⟨ao, n, cap, rfl, h1.mono (Nat.le_refl _) hk, h2⟩
theorem ples_stepG [Ol] {B K : Nat} {V V' : World} {row : Option Nat} (hg : V.grownBy V' row) (hn : ∀ r, row = some r → NoInt V r) : ∀ {X : List (List Value)} {ps : List (List Term)}, Tms (PlE B K V) X ps → Off X row → Tms (PlE B K V') X ps
 | [], [], _, _ => trivial
 | x :: X, p :: ps, h, hne => ⟨h.1.stepG hg hn (fun r e => hne r e x (by simp)), ples_stepG hg hn h.2 (fun r e v hv => hne r e v (by simp [hv]))⟩
 | [], _ :: _, h, _ => h.elim
 | _ :: _, [], h, _ => h.elim
theorem Go1.take {B : Nat} {e : TypeId} {sz : Nat} {w : World} {ao : Option Addr} {n cap : Nat} {vss : List (List Value)} (h : Go1 B e sz w ao n cap vss) (k : Nat) (hk : k ≤ n) : Go1 B e sz w ao k cap (vss.take k) := by
 have hE : Each sz (vss.take k) := fun vs hv => h.each vs (List.mem_of_mem_take hv)
 have hl : (vss.take k).length = k := by rw [List.length_take, h.len]; omega
 have hfl : (vss.take k).flatten = vss.flatten.take (k * sz) := by
  have e1 : vss.flatten = (vss.take k).flatten ++ (vss.drop k).flatten := by rw [← List.flatten_append, List.take_append_drop]
  have e2 : (vss.take k).flatten.length = k * sz := by rw [each_len hE, hl]
  rw [e1, ← e2, List.take_left]
 refine ⟨⟨by rw [each_len hE, hl], ?_⟩, hl, Nat.le_trans hk h.big, hE, fun g hg => h.cln g (by cases ao <;> exact hg)⟩
 rcases h.row.2 with ⟨hv, h0⟩ | ⟨g, cap', cur, hv, hg, hh, hn, hm, hs, ht⟩
 ·simp only [Value.slice.injEq] at hv
  obtain ⟨rfl, rfl, rfl⟩ := hv
  obtain rfl : k = 0 := by omega
  exact .inl ⟨rfl, rfl⟩
 ·simp only [Value.slice.injEq, true_and] at hv
  obtain ⟨rfl, rfl⟩ := hv
  refine .inr ⟨g, cap, cur, rfl, hg, hh, by omega, hm, hs, ?_⟩
  rw [hfl, ← ht, List.take_take, Nat.min_eq_left (Nat.mul_le_mul_right _ hk)]
structure Pile [Ol] (B K : Nat) (w : World) (ao : Option Addr) (n cap : Nat) (X : List (List Value)) (ps : List (List Term)) : Prop where
 row : Go1 B 26 1 w ao n cap X
 mem : Tms (PlE B K w) X ps
 apart : Aparts X
section
variable {B K : Nat} {w V : World} {ao : Option Addr} {n cap : Nat} {X : List (List Value)} {ps : List (List Term)}
theorem Pile.nil [Ol] (B K : Nat) (w : World) : Pile B K w none 0 0 [] [] := ⟨Go1.nil _ _ _ _, trivial, List.Pairwise.nil⟩
theorem Pile.len [Ol] (h : Pile B K w ao n cap X ps) : X.length = n ∧ ps.length = n := ⟨h.row.len, by rw [← h.mem.len, h.row.len]⟩
theorem Pile.below [Ol] (h : Pile B K w ao n cap X ps) (hb : Below w.heap.size w V) : Pile B K V ao n cap X ps := ⟨h.row.below hb, ples_stepG (grown_below none hb) (fun _ e => by cases e) h.mem (fun _ e => by cases e), h.apart⟩
theorem Pile.mono [Ol] {K' : Nat} (h : Pile B K w ao n cap X ps) (hk : K ≤ K') : Pile B K' w ao n cap X ps := ⟨h.row, h.mem.imp fun _ _ h => h.mono hk, h.apart⟩
theorem Pile.take [Ol] (h : Pile B K w ao n cap X ps) (k : Nat) (hk : k ≤ n) : Pile B K w ao k cap (X.take k) (ps.take k) := ⟨h.row.take k hk, h.mem.take k, h.apart.sublist (List.take_sublist k X)⟩
theorem Pile.far [Ol] (h : Pile B K w ao n cap X ps) {g : Nat} {L : List Value} (hA : AtN w g L 56) (hn : NoInt w g) (hoff : Off X (some g)) (hg : w.grownBy V (some g)) : Pile B K V ao n cap X ps := by
 refine ⟨h.row.keep fun a ha => hg.block a.block ?_ ?_, ples_stepG hg (fun r e => by cases e; exact hn) h.mem hoff, h.apart⟩
 ·rcases h.row.parts with ⟨h1, _⟩ | ⟨g', cur, h1, _, hlt, _⟩
  ·rw [h1] at ha; cases ha
  ·rw [h1] at ha; cases ha; exact hlt
 ·intro eq
  rcases h.row.parts with ⟨h1, _⟩ | ⟨g', cur, h1, _, hlt, _, hh⟩
  ·rw [h1] at ha; cases ha
  ·rw [h1] at ha
   cases ha
   have e' : g' = g := Option.some.inj eq
   subst e'
   unfold AtN at hA
   rw [hh] at hA
   cases hA
theorem Pile.get [Ol] (h : Pile B K w ao n cap X ps) {k : Nat} (hk : k < n) : ∃ g, ao = some ⟨g, 0, none⟩ ∧ g < w.heap.size ∧ ∃ po pn pc, X.getD k [] = [.slice po pn pc] ∧ w.cell? ⟨g, k, none⟩ = some (.slice po pn pc) ∧ Pw B K w po pn pc (ps.getD k []) ∧ fall (ps.getD k []) := by
 have hl := h.len
 obtain ⟨po, pn, pc, hv, h1, h2⟩ := Tms.get [] h.mem k (by omega)
 rcases h.row.parts with ⟨_, rfl, _⟩ | ⟨g, cur, rfl, _, hlt, _⟩
 ·omega
 ·refine ⟨g, rfl, hlt, po, pn, pc, hv, ?_, h1, h2⟩
  have := h.row.gl.cells _ rfl k hk 0 (by omega)
  rw [Addr.add_lit, hv] at this
  simpa using this
end
theorem Pile.noInt [Ol] {B K : Nat} {w : World} {ao : Option Addr} {n cap : Nat} {X : List (List Value)} {ps : List (List Term)} (h : Pile B K w ao n cap X ps) : ∀ r, blk ao = some r → NoInt w r := fun r hr => (h.row.cln r (by cases ao with
 | none => cases hr
 | some a => exact hr)).noInt
def WithOk [Ol] (B K n : Nat) (w : World) (ps : List (List Term)) (p : List Term) (e : Ending) (V : World) : Prop :=
 ∃ so n' cap' X' ps' K', e = .returned (.slice so n' cap') ∧ Pile B K' V so n' cap' X' ps' ∧ K' + n' ≤ K + n + 1 ∧ n' ≤ n + 1 ∧ (∀ ρ, evs ps' ρ = evs ps ρ + ev p ρ) ∧ lens ps' ≤ lens ps + p.length ∧ Below B w V
structure WSt [Ol] (B K0 n0 : Nat) (w : World) (ps0 : List (List Term)) (p0 : List Term) (K : Nat) (so : Option Addr) (n cap : Nat) (po : Option Addr) (pn pc : Nat) (X : List (List Value)) (ps : List (List Term)) (p : List Term) (V : World) : Prop where
 pl : Pile B K V so n cap X ps
 pw : Pw B K V po pn pc p
 fl : fall p
 off : Off X (blk po)
 vs : ∀ ρ, evs ps ρ + ev p ρ = evs ps0 ρ + ev p0 ρ
 ln : lens ps + p.length ≤ lens ps0 + p0.length
 kn : K + n ≤ K0 + n0
 nn : n ≤ n0
 bw : Below B w V
 bz : B ≤ V.heap.size
theorem at_mem [Ol] {B K : Nat} {V : World} : ∀ {Y : List (List Value)} {qs : List (List Term)}, Tms (PlE B K V) Y qs → ∀ vs ∈ Y, ∀ g, blkV vs = some g → ∃ L, AtN V g L 56
 | [], [], _, _, h, _, _ => by cases h
 | y :: Y, q :: qs, hq, vs, hvs, g, hg => by
  rcases List.mem_cons.1 hvs with rfl | hvs
  ·obtain ⟨a, b, c, rfl, h1, _⟩ := hq.1
   exact h1.at1 g hg
  ·exact at_mem hq.2 vs hvs g hg
 | [], _ :: _, hq, _, _, _, _ => hq.elim
 | _ :: _, [], hq, _, _, _, _ => hq.elim
theorem WSt.step [Ol] {B K0 n0 : Nat} {w : World} {ps0 : List (List Term)} {p0 : List Term} {K : Nat} {so : Option Addr} {n cap : Nat} {po : Option Addr} {pn pc : Nat} {X : List (List Value)} {ps : List (List Term)} {p : List Term} {V V' : World} (h : WSt B K0 n0 w ps0 p0 K so n cap po pn pc X ps p V) {row : Option Nat} (hg : V.grownBy V' row) (hn : ∀ r, row = some r → NoInt V r)
  (hne : ∀ r, row = some r → (∀ L, ¬ AtN V r L 56) ∧ blk so ≠ some r ∧ B ≤ r) : WSt B K0 n0 w ps0 p0 K so n cap po pn pc X ps p V' := by
 refine { h with pl := ⟨h.pl.row.keep fun a ha => hg.block a.block ?_ (fun e => (hne _ e.symm).2.1 (by rw [ha]; rfl)), ples_stepG hg hn h.pl.mem (fun r e vs hv e2 => ?_), h.pl.apart⟩, pw := h.pw.stepG hg hn (fun r e e2 => ?_), bw := h.bw.grown hg h.bz (fun r e => (hne r e).2.2), bz := Nat.le_trans h.bz hg.size }
 ·rcases h.pl.row.parts with ⟨h1, _⟩ | ⟨g', cur, h1, _, hlt, _⟩
  ·rw [h1] at ha; cases ha
  ·rw [h1] at ha; cases ha; exact hlt
 ·obtain ⟨L, hL⟩ := at_mem h.pl.mem vs hv r e2
  exact (hne r e).1 L hL
 ·obtain ⟨L, hL⟩ := h.pw.at1 r e2
  exact (hne r e).1 L hL
theorem WSt.own [Ol] {B K0 n0 : Nat} {w : World} {ps0 : List (List Term)} {p0 : List Term} {K : Nat} {so : Option Addr} {n cap : Nat} {po : Option Addr} {pn pc : Nat} {X : List (List Value)} {ps : List (List Term)} {p : List Term} {V V' : World} (h : WSt B K0 n0 w ps0 p0 K so n cap po pn pc X ps p V) {D : Nat} {row : Option Nat} (hg : V.grownBy V' row) (hr : ∀ r, row = some r → D ≤ r ∧ ∃ o : Obj, V.heap[r]? = some o ∧ o.isCells = false) (hB : B ≤ D) : WSt B K0 n0 w ps0 p0 K so n cap po pn pc X ps p V' :=
 h.step hg (fun r e => by obtain ⟨_, o, h1, h2⟩ := hr r e; exact noInt_obj h1 h2) (fun r e => by
  obtain ⟨h0, o, h1, h2⟩ := hr r e
  refine ⟨fun L hA => hA.obj_ne h1 h2 rfl, fun e2 => ?_, by omega⟩
  rcases h.pl.row.parts with ⟨h3, _⟩ | ⟨g', cur, h3, _, _, _, hh⟩
  ·rw [h3] at e2; cases e2
  ·rw [h3] at e2
   have e' : g' = r := Option.some.inj e2
   subst e'; rw [hh] at h1
   cases h1
   cases h2)
theorem WSt.below [Ol] {B K0 n0 : Nat} {w : World} {ps0 : List (List Term)} {p0 : List Term} {K : Nat} {so : Option Addr} {n cap : Nat} {po : Option Addr} {pn pc : Nat} {X : List (List Value)} {ps : List (List Term)} {p : List Term} {V V' : World} (h : WSt B K0 n0 w ps0 p0 K so n cap po pn pc X ps p V) (hb : Below V.heap.size V V') : WSt B K0 n0 w ps0 p0 K so n cap po pn pc X ps p V' :=
 h.step (grown_below none hb) (fun _ e => by cases e) (fun _ e => by cases e)
end Go.Proofs.YtmmgipcacceakaaGreat

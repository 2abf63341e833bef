/-
  The contract of poly.joined.
-/
import Derived.Test.YtmmgipcacceakaaGreatGP3
set_option maxHeartbeats 40000000
set_option maxRecDepth 100000
namespace Go.Proofs.YtmmgipcacceakaaGreat
open Lib (hid)
open Go.RowKit
structure GrSt [Ol] (w : World) (g off cp N n b7 b8 b5 : Nat) (fv : Value) (X Q : List (List Value)) (K : Nat) (p q : List Term) (V : World) : Prop where
 ex : ∃ L, Rm g off cp L V ∧ Seg 3 L off X
 hx : Each 3 X
 px : Tms (TmC K V) X p
 qx : Tms (TmC K V) Q q
 e7 : AtN V b7 [.int .i64 (n : Int)] 3
 e8 : AtN V b8 [.int .i64 (N : Int)] 3
 e5 : AtN V b5 [fv] 104
 bw : Below w.heap.size w V
 nn : p.length = n
 le : n ≤ N
 nc : N ≤ cp
 h7 : w.heap.size ≤ b7
 h8 : w.heap.size ≤ b8
 h78 : b7 ≠ b8
theorem GrSt.step [Ol] {w : World} {g off cp N n b7 b8 b5 : Nat} {fv : Value} {X Q : List (List Value)} {K : Nat} {p q : List Term} {V V' : World} (h : GrSt w g off cp N n b7 b8 b5 fv X Q K p q V) {row : Option Nat} (hg : V.grownBy V' row) (hn : ∀ r, row = some r → NoInt V r)
  (hne : ∀ r, row = some r → r ≠ g ∧ r ≠ b7 ∧ r ≠ b8 ∧ r ≠ b5 ∧ w.heap.size ≤ r) : GrSt w g off cp N n b7 b8 b5 fv X Q K p q V' := by
 obtain ⟨L, h1, h2⟩ := h.ex
 exact { h with
  ex := ⟨L, h1.stepG hg (fun r e => (hne r e).1), h2⟩, px := tms_stepG hg hn h.px, qx := tms_stepG hg hn h.qx
  e7 := h.e7.stepG hg (fun r e => (hne r e).2.1), e8 := h.e8.stepG hg (fun r e => (hne r e).2.2.1), e5 := h.e5.stepG hg (fun r e => (hne r e).2.2.2.1)
  bw := h.bw.grown hg h.bw.size (fun r e => (hne r e).2.2.2.2) }
theorem GrSt.below [Ol] {w : World} {g off cp N n b7 b8 b5 : Nat} {fv : Value} {X Q : List (List Value)} {K : Nat} {p q : List Term} {V V' : World} (h : GrSt w g off cp N n b7 b8 b5 fv X Q K p q V) (hb : Below V.heap.size V V') : GrSt w g off cp N n b7 b8 b5 fv X Q K p q V' :=
 h.step (grown_below none hb) (fun _ e => by cases e) (fun _ e => by cases e)
theorem GrSt.far [Ol] {w : World} {g off cp N n b7 b8 b5 : Nat} {fv : Value} {X Q : List (List Value)} {K : Nat} {p q : List Term} {V V' : World} (h : GrSt w g off cp N n b7 b8 b5 fv X Q K p q V) {c : Nat} {L : List Value} (hA : AtN V c L 26) (hc : Clean L) (hw : w.heap.size ≤ c) (hg : V.grownBy V' (some c)) : GrSt w g off cp N n b7 b8 b5 fv X Q K p q V' := by
 obtain ⟨M, h1, _⟩ := h.ex
 exact h.step hg (fun r e => by cases e; exact (hA.cleanB hc).noInt) (fun r e => by cases e; exact ⟨hA.ne h1.at1 (by decide), hA.ne h.e7 (by decide), hA.ne h.e8 (by decide), hA.ne h.e5 (by decide), hw⟩)
theorem GrSt.jst [Ol] {w : World} {g off cp N n b7 b8 b5 ba : Nat} {fv : Value} {X Q : List (List Value)} {K : Nat} {p q : List Term} {V : World} (h : GrSt w g off cp N n b7 b8 b5 fv X Q K p q V) (ha : AtN V ba [.slice (some ⟨g, off, none⟩) N cp] 26) :
  JSt w g off cp N b7 b8 ba b5 fv X Q K p q [] n (n : Int) (N : Int) V := by
 obtain ⟨L, h1, h2⟩ := h.ex; have hX := h.px.len; have hn := h.nn
 exact { ex := ⟨L, [], h1, by rw [List.take_of_length_le (by omega)]; exact h2, Seg.nil _ _ _, (fun _ h => by cases h), trivial⟩, px := h.px, qx := h.qx, e7 := h.e7, e8 := h.e8, ea := ha, e5 := h.e5, gr := grown_below _ h.bw
         fit := by simpa using h.le, ll := by omega, nc := h.nc, h7 := h.h7, h8 := h.h8, h78 := h.h78, hx := h.hx }
theorem clean1 (ao : Option Addr) (n cap : Nat) : Clean [.slice ao n cap] := fun u hu => by simp at hu; subst hu; rfl
theorem AtN.obj_ne {V : World} {b r : Nat} {L : List Value} {T : TypeId} (h : AtN V b L T) {o : Obj} (hr : V.heap[r]? = some o) (ho : o.isCells = false) : r ≠ b := fun e => by
 subst e
 unfold AtN at h
 rw [h] at hr
 cases hr
 cases ho
theorem JSt.own [Ol] {w : World} {g off cap N b7 b8 ba b5 : Nat} {fv : Value} {X Q : List (List Value)} {K : Nat} {p q S : List Term} {left : Nat} {lf pl : Int} {V V' : World} (h : JSt w g off cap N b7 b8 ba b5 fv X Q K p q S left lf pl V) {B : Nat} {row : Option Nat} (hg : V.grownBy V' row)
  (hr : ∀ r, row = some r → B ≤ r ∧ ∃ o : Obj, V.heap[r]? = some o ∧ o.isCells = false) (hB : w.heap.size ≤ B) : JSt w g off cap N b7 b8 ba b5 fv X Q K p q S left lf pl V' := by
 obtain ⟨L, Y, h1, _⟩ := h.ex
 refine h.step hg (fun r e => ?_) (fun r e => ?_)
 ·obtain ⟨_, o, h2, h3⟩ := hr r e
  exact noInt_obj h2 h3
 ·obtain ⟨h4, o, h2, h3⟩ := hr r e
  exact ⟨h1.at1.obj_ne h2 h3, h.e7.obj_ne h2 h3, h.e8.obj_ne h2 h3, h.ea.obj_ne h2 h3, h.e5.obj_ne h2 h3, by omega⟩
theorem tmc_setI [Ol] {V : World} {b : Nat} {z : Int} {T : TypeId} (hA : AtN V b [.int .i64 z] T) (u : Value) {K : Nat} {vs : List Value} {t : Term} (h : TmC K V vs t) : TmC K (V.setCell ⟨b, 0, none⟩ u) vs t := by
 obtain ⟨m, ao, n, cap, bo, k, cb, h1, h2, h3, h4⟩ := h
 exact ⟨m, ao, n, cap, bo, k, cb, h1, h2.setI hA u, h3, h4.setI hA u⟩
theorem cells_far {V : World} {g b o : Nat} (h : g ≠ b) {x y z u : Value} {o2 : Nat} (hc : V.cell? ⟨g, o, none⟩ = some x ∧ V.cell? ⟨g, o + 1, none⟩ = some y ∧ V.cell? ⟨g, o + 2, none⟩ = some z) :
  (V.setCell ⟨b, o2, none⟩ u).cell? ⟨g, o, none⟩ = some x ∧ (V.setCell ⟨b, o2, none⟩ u).cell? ⟨g, o + 1, none⟩ = some y ∧ (V.setCell ⟨b, o2, none⟩ u).cell? ⟨g, o + 2, none⟩ = some z :=
 ⟨(cell_of_heap (Below.heap_setCell _ _ _ _ h)).trans hc.1, (cell_of_heap (a := ⟨g, o + 1, none⟩) (Below.heap_setCell _ _ _ _ h)).trans hc.2.1, (cell_of_heap (a := ⟨g, o + 2, none⟩) (Below.heap_setCell _ _ _ _ h)).trans hc.2.2⟩
structure Trk (B : Nat) (Fx : Nat → Prop) (Y V : World) : Prop where
 kf : KeepsFrom B Y V
 ft : Fast Fx Y V
theorem Trk.refl (B : Nat) (Fx : Nat → Prop) (Y : World) : Trk B Fx Y Y := ⟨KeepsFrom.refl _ _, Fast.refl _ _⟩
theorem Trk.below {B : Nat} {Fx : Nat → Prop} {Y V V' : World} (h : Trk B Fx Y V) (hF : ∀ k, Fx k → k < B) (hB : B ≤ Y.heap.size) (hb : Below V.heap.size V V') : Trk B Fx Y V' :=
 ⟨h.kf.trans ((KeepsOthers.of_grownBy (grown_below none hb) (fun _ _ e => by cases e)).from _), h.ft.trans (Fast.below hb fun k hk => Nat.lt_of_lt_of_le (hF k hk) (Nat.le_trans hB h.kf.size))⟩
theorem Trk.far {B : Nat} {Fx : Nat → Prop} {Y V V' : World} (h : Trk B Fx Y V) (hF : ∀ k, Fx k → k < B) (hB : B ≤ Y.heap.size) {r : Nat} {L : List Value} {T : TypeId} (hA : AtN V r L T) (hr : ¬ Fx r) (hg : V.grownBy V' (some r)) : Trk B Fx Y V' :=
 ⟨h.kf.trans ((KeepsOthers.of_grownBy hg (fun j o e ho => by cases e; unfold AtN at hA; rw [hA] at ho; cases ho; rfl)).from _), h.ft.trans fun k hk => hg.block k (Nat.lt_of_lt_of_le (hF k hk) (Nat.le_trans hB h.kf.size)) (fun e => hr (by cases e; exact hk))⟩
theorem seq_mid {P : Program} {l : Nat} {x y : Code} {Q : Exit → Act → World → Prop} {a : Act} {w : World} (M : Act → World → Prop) (h1 : x.wpIn (Fence.wide.inRound l) 0 P (Exit.then M Q) a w) (h2 : ∀ a w, M a w → y.wpIn (Fence.wide.inRound l) 0 P Q a w) : (Code.seq x y).wpIn (Fence.wide.inRound l) 0 P Q a w :=
 wpIn_seq (wpIn_mono h1 fun e a w q => by cases e <;> first | exact h2 _ _ q | exact q)
def leftOf (b : Nat) (V : World) : Nat := match V.cell? ⟨b, 0, none⟩ with
 | some (.int _ z) => z.toNat
 | _ => 0
theorem leftOf_eq {b : Nat} {V : World} {k : Nat} {T : TypeId} (h : AtN V b [.int .i64 (k : Int)] T) : leftOf b V = k := by
 unfold leftOf
 rw [h.c1]
 simp
structure TSt [Ol] (bt : Nat) (tm : Bool) (ta : Option Addr) (tn tc : Nat) (tp : Option Addr) (tq tr : Nat) (z : Int) (ps : List (Int × Int)) (V : World) : Prop where
 at1 : AtN V bt [.bool tm, .slice ta tn tc, .slice tp tq tr] 56
 cn : Cn V tm ta tn tc z
 ml : Ml V tp tq tr ps
theorem TSt.step [Ol] {bt : Nat} {tm : Bool} {ta : Option Addr} {tn tc : Nat} {tp : Option Addr} {tq tr : Nat} {z : Int} {ps : List (Int × Int)} {V V' : World} (h : TSt bt tm ta tn tc tp tq tr z ps V) {row : Option Nat} (hg : V.grownBy V' row) (hn : ∀ r, row = some r → NoInt V r) (hne : ∀ r, row = some r → r ≠ bt) : TSt bt tm ta tn tc tp tq tr z ps V' :=
 ⟨h.at1.stepG hg hne, h.cn.stepG hg hn, h.ml.stepG hg hn⟩
theorem TSt.below [Ol] {bt : Nat} {tm : Bool} {ta : Option Addr} {tn tc : Nat} {tp : Option Addr} {tq tr : Nat} {z : Int} {ps : List (Int × Int)} {V V' : World} (h : TSt bt tm ta tn tc tp tq tr z ps V) (hb : Below V.heap.size V V') : TSt bt tm ta tn tc tp tq tr z ps V' := h.step (grown_below none hb) (fun _ e => by cases e) (fun _ e => by cases e)
theorem TSt.setI [Ol] {bt : Nat} {tm : Bool} {ta : Option Addr} {tn tc : Nat} {tp : Option Addr} {tq tr : Nat} {z : Int} {ps : List (Int × Int)} {V : World} (h : TSt bt tm ta tn tc tp tq tr z ps V) {b : Nat} {y : Int} (hA : AtN V b [.int .i64 y] 3) (u : Value) : TSt bt tm ta tn tc tp tq tr z ps (V.setCell ⟨b, 0, none⟩ u) :=
 ⟨h.at1.far (hA.ne h.at1 (by decide)) 0 u, h.cn.setI hA u, h.ml.setI hA u⟩
theorem take_rev1 {p : List Term} {k : Nat} (hk : k < p.length) : (p.take (k + 1)).reverse = p.getD k (0, []) :: (p.take k).reverse := by
 rw [List.take_succ_eq_append_getElem hk, List.reverse_append, getD_of _ hk]
 rfl
theorem cell_put3 {w : World} {g o i : Nat} (a b c : Value) (hi : i < o ∨ o + 3 ≤ i) : (((w.setCell ⟨g, o, none⟩ a).setCell ⟨g, o + 1, none⟩ b).setCell ⟨g, o + 2, none⟩ c).cell? ⟨g, i, none⟩ = w.cell? ⟨g, i, none⟩ := by
 have h : ∀ (V : World) (x : Nat) (v : Value), x ≠ i → (V.setCell ⟨g, x, none⟩ v).cell? ⟨g, i, none⟩ = V.cell? ⟨g, i, none⟩ := fun V x v hx => by
  apply World.cell?_setCell_other
  intro e
  cases e
  exact hx rfl
 rw [h _ _ _ (by omega), h _ _ _ (by omega), h _ _ _ (by omega)]
theorem wpIn_world {F : Fence} {n : Nat} {P : Program} {c : Code} {Q : Exit → Act → World → Prop} {a : Act} {w : World} (h : ∀ W, W = w → c.wpIn F n P Q a W) : c.wpIn F n P Q a w := h w rfl
theorem mid_world {M : Act → World → Prop} {a : Act} {w : World} (h : ∀ W, W = w → M a W) : M a w := h w rfl
theorem slide_true {m : List (Int × Int)} : ∀ {r S r' S' : List Term}, slideT m r S = (r', S', true) → r' ≠ []
 | [], S, r', S', h => by simp [slideT] at h
 | u :: r, S, r', S', h => by
  unfold slideT at h
  split at h
  ·exact slide_true h
  ·simp only [Prod.mk.injEq] at h
   rw [← h.1]
   simp
theorem bd0 (K : Nat) : Bd 0 K := Nat.pow_pos (by omega)
def JRd [Ol] (w : World) (g off cap N b7 b8 ba b5 : Nat) (fv : Value) (X Q : List (List Value)) (K : Nat) (f : Int → Int → Int) (p q : List Term) (n B0 j : Nat) (V : World) : Prop :=
 B0 ≤ V.heap.size ∧ ∃ (S : List Term) (left : Nat), JSt w g off cap N b7 b8 ba b5 fv X Q K p q S left (left : Int) ((N - S.length : Nat) : Int) V ∧ joinF f p (q.reverse.take j) = ((p.take left).reverse, S) ∧ S.length + left ≤ n + j
theorem pjoin_any [Ol] {G : Nat} (eg : ∀ args w, (callFunc G args).run Tryz.prog w = .ok (.enter G args) w) {f : Int → Int → Int} {B K : Nat} {ao bo : Option Addr} {n cap m cb : Nat} {p q : List Term} {w : World} (hp : Pw B K w ao n cap p) (hq : Pc K w bo m cb q) (hm0 : 0 < m) (hnm : n + m ≤ 1000000) (hK : K ≤ 900000) (hmp : mays p) (hmq : mays q)
  (hne : ∀ g, blk ao = some g → blk bo ≠ some g) (hBw : B ≤ w.heap.size) (hfB : ∀ x y, Bd x K → Bd y K → Bd (f x y) (K + 1))
  (hJ : ∀ (m k : Bool) (ao bo : Option Addr) (n cap l cb : Nat) (x y : Int) (W : World), Cx W m ao n cap x → Cx W k bo l cb y → Calls Tryz.prog G #[.agg #[.bool m, .slice ao n cap], .agg #[.bool k, .slice bo l cb]] W (NewI W (f x y))) :
  Calls Tryz.prog 62 #[.slice ao n cap, .slice bo m cb, .func (.func G) #[] #[]] w (fun e V => ∃ ro rn rc, e = .returned (.slice ro rn rc) ∧ Pw B (K + 1) V ro rn rc ((joinF f p q.reverse).1.reverse ++ (joinF f p q.reverse).2) ∧ (∃ row, w.grownBy V row ∧ (row = blk ao ∨ Below w.heap.size w V)) ∧ (blk ro = blk ao ∨ ∀ g', blk ro = some g' → w.heap.size ≤ g')) := by
 have hlq := hq.len; obtain ⟨Q, hGq, hTq⟩ := hq.ex; obtain ⟨N, hN⟩ : ∃ N, N = n + m := ⟨_, rfl⟩
 have hNN : (n : Int) + (m : Int) = (N : Int) := by omega
 have hN6 : N ≤ 1000000 := by omega
 have hnN : n ≤ N := by omega
 have HGQ := hid hGq; have HTQ := hid hTq; have HMP := hid hmp; have HMQ := hid hmq; have HFB := hid hfB; have HFN := hid hJ; have HNE := hid hne; have HLQ := hid hlq; have HNM := hid hN; clear hGq hTq hmp hmq hfB hJ hne hlq hN
 refine calls_of_marks Tryz.func62 rfl ?_
 simp only [Tryz.ntmps62, List.size_toArray, List.length_cons, List.length_nil, Nat.reduceAdd, Nat.reduceSub, Array.replicate_succ, Array.replicate_zero, List.push_toArray, List.append_toArray, List.nil_append, List.cons_append]
 go_upto_region 2 with (fail)
 refine wp_world (fun W hW => ?_)
 obtain ⟨a5, a7, a8, hB⟩ := box3 w [.func (.func G) #[] #[]] [.int .i64 (n : Int)] [.int .i64 (N : Int)] 104 3 3; rw [← hW] at a5 a7 a8 hB; clear hW; have E50 := hid a5; have E70 := hid a7; have E80 := hid a8; have BW0 := hid hB; have QX0 := hid (tmsC_below HTQ.out hB); clear a5 a7 a8 hB
 go_cut [9] from 21 to 26 (fun s9 w9 => ∃ (ba g off cp : Nat) (X : List (List Value)), s9 = .pointer (some ⟨ba, 0, none⟩) ∧ (blk ao = some g ∨ w.heap.size ≤ g) ∧ Below w.heap.size w w9 ∧ JSt w g off cp N (w.heap.size + 1) (w.heap.size + 1 + 1) ba w.heap.size (.func (.func G) #[] #[]) X Q K p q [] n (n : Int) (N : Int) w9)
 case first =>
  refine wp_region_held_drew (S := fun w' => w'.cell? ⟨w.heap.size + 1 + 1, 0, none⟩ = some (.int .i64 (N : Int))) (by kernel_rfl) E80.out.c1 (fun hH => ?_)
  refine anyH_world (fun w1 hW => ?_)
  have S1 : Below W.heap.size W w1 := by rw [hW]; exact (Below.refl _ _).drew
  have E51 := hid (E50.out.below S1); have E71 := hid (E70.out.below S1); have E81 := hid (E80.out.below S1); have QX1 := hid (tmsC_below QX0.out S1); have BW1 := hid (Below.steps BW0.out S1); rw [← hW] at hH; clear S1 E50 E70 E80 QX0 BW0; clear hW
  refine son 0 hH ?_; try simp only [nrm]
  refine son 1 hH ?_; try simp only [nrm]
  refine son 2 hH ?_; try simp only [nrm]
  refine son 4 hH ?_; try simp only [nrm]
  refine wpAnyH_ready (rs := [3, 6]) (by kernel_rfl) (by simp) (ready_cons rfl (fun KK hK => ?_) (ready_cons rfl (fun KK hK => ?_) (AllReadyH.nil)))
  ·go_simp
   refine (grow_any (hp.below BW1.out) hm0 hnm).mono ?_; rintro e w2 ⟨g, off, cp, L, X, rfl, hRm, hcap, hE, hS, hTT, hB, hgb⟩
   have G2 : Hid (GrSt w g off cp N n (w.heap.size + 1) (w.heap.size + 1 + 1) w.heap.size (.func (.func G) #[] #[]) X Q K p q w2) := ⟨⟨L, hRm, hS⟩, hE, hTT, tmsC_below QX1.out hB, E71.out.below hB, E81.out.below hB, E51.out.below hB, Below.steps BW1.out hB, hp.len, hnN, by omega, by omega, by omega, by omega⟩
   have hgw : blk ao = some g ∨ w.heap.size ≤ g := hgb.imp id (fun h => Nat.le_trans BW1.out.size h)
   have hNcp : N ≤ cp := by omega
   have hncp : n ≤ cp := by omega
   clear hRm hcap hE hS hTT hB hgb QX1 E71 E81 E51 BW1; go_wp2_with fail
   clear hH; refine hK.out _ _ (G2.out.e8.c1) fun hH => ?_; clear hK KK
   try simp only [nrm]
   refine son 5 hH ?_; try simp only [nrm]
   refine step_one 6 rfl (by kernel_rfl) (fun KK hK => ?_)
   go_simp
   have EAx : AtN (w2.alloc (.cells #[.slice none 0 0] 26)) w2.heap.size [.slice none 0 0] 26 := AtN.new w2 [.slice none 0 0] 26
   have Gx := G2.out.below (below_alloc w2 (.cells #[.slice none 0 0] 26)); have EA3 := hid EAx; have G3 := hid Gx; clear EAx Gx
   clear hH; refine hK.out _ _ (G3.out.e8.c1) fun hH => ?_; clear hK KK
   try simp only [nrm]
   refine anyH_world (fun w3 hW => ?_)
   have EA3b : Hid (AtN w3 w2.heap.size [.slice none 0 0] 26) := by rw [hW]; exact EA3.out
   have G3b : Hid (GrSt w g off cp N n (w.heap.size + 1) (w.heap.size + 1 + 1) w.heap.size (.func (.func G) #[] #[]) X Q K p q w3) := by rw [hW]; exact G3.out
   rw [← hW] at hH; clear EA3 G3
   have EA3 := hid EA3b.out; have G3 := hid G3b.out; clear EA3b G3b; clear hW
   refine step_one 7 rfl (by kernel_rfl) (fun KK hK => ?_)
   have c0 := EA3.out.c1; have f0 := EA3.out.f1; go_simp; clear c0 f0
   clear hH; refine hK.out _ _ (AtN.c1 (T := 3) (G3.out.e8.far (G3.out.e8.ne EA3.out (by decide)).symm 0 _)) fun hH => ?_; clear hK KK
   try simp only [nrm]
   refine anyH_world (fun w4 hW => ?_)
   have EA4 : Hid (AtN w4 w2.heap.size [.slice (some ⟨g, off, none⟩) N cp] 26) := by rw [hW]; exact EA3.out.set 0 _
   have G4 : Hid (GrSt w g off cp N n (w.heap.size + 1) (w.heap.size + 1 + 1) w.heap.size (.func (.func G) #[] #[]) X Q K p q w4) := by rw [hW]; exact G3.out.far EA3.out (clean1 _ _ _) (G2.out.bw.size) (grown_put1 _ _ 0 _)
   rw [← hW] at hH; clear hW
   clear G2 G3 EA3
   refine wpAnyH_done (by kernel_rfl) ?_ _
   go_wp2_with fail
   go_meet
   case rel => exact ⟨_, g, off, cp, X, rfl, hgw, G4.out.bw, G4.out.jst EA4.out⟩
  ·go_simp
   have S2 : Below w1.heap.size w1 (w1.alloc (.cells #[.slice none 0 0] 26)) := below_alloc _ _
   clear hH; refine hK.out _ _ (AtN.c1 (T := 3) (E81.out.below S2)) fun hH => ?_; clear hK KK
   try simp only [nrm]
   refine anyH_world (fun w2 hW => ?_)
   have S3 : Below w1.heap.size w1 w2 := by rw [hW]; exact S2
   have EA2 : Hid (AtN w2 w1.heap.size [.slice none 0 0] 26) := by rw [hW]; exact AtN.new w1 [.slice none 0 0] 26
   have E72 := hid (E71.out.below S3); have E82 := hid (E81.out.below S3); have E52 := hid (E51.out.below S3); have QX2 := hid (tmsC_below QX1.out S3); have BW2 := hid (Below.steps BW1.out S3); have hw1 := BW1.out.size; rw [← hW] at hH; clear S3 S2 E71 E81 E51 QX1 BW1; clear hW
   refine step_one 3 rfl (by kernel_rfl) (fun KK hK => ?_)
   go_simp; refine (grow_any (hp.below BW2.out) hm0 hnm).mono ?_
   rintro e w3 ⟨g, off, cp, L, X, rfl, hRm, hcap, hE, hS, hTT, hB, hgb⟩
   have G3 : Hid (GrSt w g off cp N n (w.heap.size + 1) (w.heap.size + 1 + 1) w.heap.size (.func (.func G) #[] #[]) X Q K p q w3) := ⟨⟨L, hRm, hS⟩, hE, hTT, tmsC_below QX2.out hB, E72.out.below hB, E82.out.below hB, E52.out.below hB, Below.steps BW2.out hB, hp.len, hnN, by omega, by omega, by omega, by omega⟩
   have hgw : blk ao = some g ∨ w.heap.size ≤ g := hgb.imp id (fun h => Nat.le_trans BW2.out.size h)
   have EA3 := hid (EA2.out.below hB)
   have hNcp : N ≤ cp := by omega
   have hncp : n ≤ cp := by omega
   clear hRm hcap hE hS hTT hB hgb QX2 E72 E82 E52 BW2 EA2; go_wp2_with fail
   clear hH; refine hK.out _ _ (G3.out.e8.c1) fun hH => ?_; clear hK KK
   try simp only [nrm]
   refine son 5 hH ?_; try simp only [nrm]
   refine step_one 7 rfl (by kernel_rfl) (fun KK hK => ?_)
   have c0 := EA3.out.c1; have f0 := EA3.out.f1; go_simp; clear c0 f0
   clear hH; refine hK.out _ _ (AtN.c1 (T := 3) (G3.out.e8.far (G3.out.e8.ne EA3.out (by decide)).symm 0 _)) fun hH => ?_; clear hK KK
   try simp only [nrm]
   refine anyH_world (fun w4 hW => ?_)
   have EA4 : Hid (AtN w4 w1.heap.size [.slice (some ⟨g, off, none⟩) N cp] 26) := by rw [hW]; exact EA3.out.set 0 _
   have G4 : Hid (GrSt w g off cp N n (w.heap.size + 1) (w.heap.size + 1 + 1) w.heap.size (.func (.func G) #[] #[]) X Q K p q w4) := by rw [hW]; exact G3.out.far EA3.out (clean1 _ _ _) hw1 (grown_put1 _ _ 0 _)
   rw [← hW] at hH; clear hW
   clear G3 EA3
   refine wpAnyH_done (by kernel_rfl) ?_ _
   go_wp2_with fail
   go_meet
   case rel => exact ⟨_, g, off, cp, X, rfl, hgw, G4.out.bw, G4.out.jst EA4.out⟩
 case rest =>
 clear E50 E70 E80 QX0 BW0; obtain ⟨ba, g, off, cp, X, rfl, hgw, HBC, HJS⟩ := hcut; have HJ0 := hid HJS; have HBc := hid HBC; clear HJS HBC; go_wp2_with fail; refine (back_any _).mono ?_; rintro e w11 ⟨rfl, rfl⟩; go_wp2_with fail
 refine wp_world (fun W hW => ?_)
 have S1 : Below wc.heap.size wc W := by rw [hW]; exact below_alloc _ _
 have HB0 : Hid (Below w.heap.size w W) := Below.steps HBc.out S1
 have HJ1 := hid (HJ0.out.below S1); obtain ⟨Bs, hBs⟩ : ∃ Bs, Bs = wc.heap.size := ⟨_, rfl⟩
 have HBs : Hid (AtN W Bs [.slice bo m cb] 26) := by rw [hW, hBs]; exact AtN.new wc [.slice bo m cb] 26
 have hgl : g < wc.heap.size := by obtain ⟨L, Y, h1, _⟩ := HJ0.out.ex; exact h1.at1.lt
 have h7l := HJ0.out.e7.lt; have h8l := HJ0.out.e8.lt; rw [← hBs] at hgl h7l h8l ⊢; clear hW S1 HJ0 HBc hBs
 have eB : ∀ args w, (callFunc 120 args).run Tryz.prog w = .ok (.enter 120 args) w := enters_of Tryz.func120 (by kernel_rfl) rfl
 obtain ⟨Fx, hFx⟩ : ∃ Fx : Nat → Prop, Fx = fun k => k = Bs ∨ ∃ ad : Addr, bo = some ad ∧ k = ad.block := ⟨_, rfl⟩
 have hqb : ∀ ad : Addr, bo = some ad → ad.block < w.heap.size := fun ad had => HGQ.out.lt ad had hm0
 have hFg : ¬ Fx g := by
   rw [hFx]; rintro (h | ⟨ad, h1, h2⟩)
   ·omega
   ·have h3 := hqb ad h1
    rcases hgw with h | h
    ·exact HNE.out g h (by rw [h1, h2]; rfl)
    ·omega
 have hF7 : ¬ Fx (w.heap.size + 1) := by
   rw [hFx]; rintro (h | ⟨ad, h1, h2⟩)
   ·omega
   ·have h3 := hqb ad h1
    omega
 have hF8 : ¬ Fx (w.heap.size + 1 + 1) := by
   rw [hFx]; rintro (h | ⟨ad, h1, h2⟩)
   ·omega
   ·have h3 := hqb ad h1
    omega
 have hFW : ∀ k, Fx k → k < W.heap.size := by
   rw [hFx]; rintro k (h | ⟨ad, h1, h2⟩)
   ·rw [h]; exact HBs.out.lt
   ·have h3 := hqb ad h1; have := HB0.out.size; omega
 have hWw := HB0.out.size
 have hHands := back_hands (Fx := Fx) (HGQ.out.below HB0.out) HBs.out.c1 (by rw [hFx]; exact .inl rfl) (by rw [hFx]; exact fun ad had => .inr ⟨ad, had, rfl⟩)
 have HFG := hid (And.intro hFg (And.intro hF7 hF8)); have HFX := hid hFx; clear hFg hF7 hF8 hFx
 refine (wpIn_wide (n := 0)).1 (wpIn_range_hands rfl eB hHands hFW (fun j => rfl) (JRd w g off cp N (w.heap.size + 1) (w.heap.size + 1 + 1) ba w.heap.size (.func (.func G) #[] #[]) X Q K f p q n W.heap.size) ?own ?start ?round ?done)
 case own => exact fun j A B row hs hg hr => by obtain ⟨h0, S, left, h1, h2⟩ := hs; exact ⟨Nat.le_trans h0 hg.size, S, left, h1.own hg hr hWw, h2⟩
 case start => exact ⟨Nat.le_refl _, [], n, HJ1.out, by rw [List.take_zero, List.take_of_length_le (by rw [hp.len]; exact Nat.le_refl _)]; rfl, by simp⟩
 case round =>
  clear HJ1; rintro l j V hj ⟨hVW, S, left, hS, hF, hle⟩
  have hk : m - 1 - j < q.length := by rw [HLQ.out]; omega
  obtain ⟨t, ht⟩ : ∃ t, t = q.getD (m - 1 - j) (0, []) := ⟨_, rfl⟩; obtain ⟨tm, ta, tn, tc, tp, tq, tr, hv, hC, hD, hM⟩ := Tms.get (0, []) hS.qx (m - 1 - j) hk; rw [← ht] at hC hD hM
  have htm : mayM 0 t.2 = true := by rw [ht]; exact HMQ.out _ (getD_in _ hk)
  have hstep := joinF_step f p q (j := j) (by rw [HLQ.out]; exact hj)
  rw [HLQ.out, ← ht, hF] at hstep; have HS := hid hS
  have HC := hid hC; have HD := hid hD; have HM := hid hM; have HTM := hid htm; have HF := hid hstep; have HLE := hid hle; have HJM := hid hj; clear hS hC hD hM htm hstep hle hj hF hk ht
  refine region_round (by rfl) (fun ⟨_, _, h⟩ => h) ?_
  rw [show backE m Q j = #[.int .i64 ((m - 1 - j : Nat) : Int), .agg #[.bool tm, .slice ta tn tc, .slice tp tq tr]] from by unfold backE; rw [hv]]
  clear hv; go_wp2_with fail; obtain ⟨V1, hV1⟩ : ∃ V1, V1 = V.alloc (.cells #[.bool tm, .slice ta tn tc, .slice tp tq tr] 56) := ⟨_, rfl⟩; rw [← hV1]
  have S1 : Below V.heap.size V V1 := by rw [hV1]; exact below_alloc _ _
  have T1 : TSt V.heap.size tm ta tn tc tp tq tr t.1 t.2 V1 := ⟨by rw [hV1]; exact AtN.new V [.bool tm, .slice ta tn tc, .slice tp tq tr] 56, HC.out.below S1, HM.out.below S1⟩
  have J1 := HS.out.below S1; have T0 := Trk.below (Trk.refl W.heap.size Fx V) hFW hVW S1
  refine ⟨T0.kf, T0.ft, fun Y hY => ?_⟩
  obtain ⟨r, hr1, hr2, o, hr3, hr4⟩ := hY
  have hYr : ∀ r2, some r = some r2 → W.heap.size ≤ r2 ∧ ∃ o : Obj, V1.heap[r2]? = some o ∧ o.isCells = false := fun r2 e => by cases e; exact ⟨hr1, o, hr3, hr4⟩
  have hYV : W.heap.size ≤ Y.heap.size := Nat.le_trans hVW (Nat.le_trans S1.size hr2.size)
  have J2 := hid (J1.own hr2 hYr hWw)
  have A2 := hid (T1.step hr2 (fun r e => by cases e; exact noInt_obj hr3 hr4) (fun r e => by cases e; exact T1.at1.obj_ne hr3 hr4))
  have K2 := hid (Trk.refl W.heap.size Fx Y)
  have hgt : g < V.heap.size := by obtain ⟨L, Y, h1, _⟩ := HS.out.ex; exact h1.at1.lt
  have hFt : ¬ Fx V.heap.size := fun h => by have := hFW _ h; omega
  have hwt : w.heap.size ≤ V.heap.size := HS.out.gr.size
  obtain ⟨bt, hbt⟩ : ∃ bt, bt = V.heap.size := ⟨_, rfl⟩; rw [← hbt] at A2 hgt hFt hwt ⊢; have HGT := hid (And.intro hgt (And.intro hFt hwt)); clear T0 J1 T1 S1 hV1 hr1 hr2 hr3 hr4 hYr HS HC HM hbt hgt hFt hwt
  gi_step; gi_step; refine region_round (by rfl) (fun ⟨_, _, h⟩ => h) ?_
  go_wp2_with fail
  refine seq_mid (fun a V => ∃ (v31 v32 v33 v34 v35 v36 v37 v38 v39 v40 v41 v42 v43 v44 v45 v46 v47 v48 v49 v50 v51 v52 : Value) (met : Int) (S2 : List Term) (left2 : Nat), a = { tmps := #[.slice ao n cap, .slice bo m cb, .func (.func G) #[] #[], undef, undef, .pointer (some ⟨w.heap.size, 0, none⟩), .slice none 0 0, .pointer (some ⟨w.heap.size + 1, 0, none⟩), .pointer (some ⟨w.heap.size + 1 + 1, 0, none⟩), .pointer (some ⟨ba, 0, none⟩), undef, .pointer (some ⟨bt, 0, none⟩), .int .i64 met, undef, .slice ao n cap, .int .i64 (n : Int), .slice ao n cap, .int .i64 (n : Int), .slice bo m cb, .int .i64 (m : Int), .int .i64 (N : Int), u21, u22, u23, u24, u25, u26, .slice bo m cb, .func (.func 120) #[] #[.pointer (some ⟨Bs, 0, none⟩)], .int .i64 ((m - 1 - j : Nat) : Int), .agg #[.bool tm, .slice ta tn tc, .slice tp tq tr], v31, v32, v33, v34, v35, v36, v37, v38, v39, v40, v41, v42, v43, v44, v45, v46, v47, v48, v49, v50, v51, v52, undef, undef, undef, undef, undef, undef, undef, undef, undef, undef, undef, undef, undef, undef, undef, undef, undef, undef, undef, undef, undef, undef, undef, undef, undef, undef, undef, undef, undef], defers := [] } ∧ Hid (JSt w g off cp N (w.heap.size + 1) (w.heap.size + 1 + 1) ba w.heap.size (.func (.func G) #[] #[]) X Q K p q S2 left2 (left2 : Int) ((N - S2.length : Nat) : Int) V) ∧ Hid (TSt bt tm ta tn tc tp tq tr t.1 t.2 V) ∧ Hid (Trk W.heap.size Fx Y V) ∧ Hid (slideT t.2 (p.take left).reverse S = ((p.take left2).reverse, S2, met == 0)) ∧ Hid (S2.length + left2 = S.length + left)) ?_ ?_
  ·gi_step
   gi_step
   gi_loopw [12] (fun s12 wr => ∃ (met : Int) (S2 : List Term) (left2 : Nat), s12 = .int .i64 met ∧ Hid (JSt w g off cp N (w.heap.size + 1) (w.heap.size + 1 + 1) ba w.heap.size (.func (.func G) #[] #[]) X Q K p q S2 left2 (left2 : Int) ((N - S2.length : Nat) : Int) wr) ∧ Hid (TSt bt tm ta tn tc tp tq tr t.1 t.2 wr) ∧ Hid (Trk W.heap.size Fx Y wr) ∧ Hid (slideT t.2 (p.take left2).reverse S2 = slideT t.2 (p.take left).reverse S) ∧ Hid (S2.length + left2 = S.length + left) ∧ Hid (met ≠ 0)) (fun _ wr => leftOf (w.heap.size + 1) wr)
   case atStart => exact ⟨1, S, left, rfl, J2.out, A2.out, K2.out, rfl, rfl, show (1 : Int) ≠ 0 by decide⟩
   case round =>
    obtain ⟨met, S2, left2, rfl, HJ, HA, HK, HSL, HL, HN⟩ := hrel
    by_cases h0 : left2 = 0
    ·subst h0
     have c7 := HJ.out.e7.c1
     gi_step; gi_step; gi_step; refine region_round (by rfl) (fun ⟨_, _, h⟩ => h) ?_
     go_wp2_with fail
     gi_wp2
     exact ⟨_, _, _, _, _, _, _, _, _, _, _, _, _, _, _, _, _, _, _, _, _, _, met, S2, 0, rfl, HJ.out, HA.out, HK.out, by rw [Hid, ← HSL.out]; simp only [List.take_zero, List.reverse_nil, slideT]; congr 2; exact (beq_eq_false_iff_ne.2 HN.out).symm, HL.out⟩
    ·obtain ⟨k, rfl⟩ : ∃ k, left2 = k + 1 := ⟨left2 - 1, by omega⟩
     clear h0
     have HLO : Hid (leftOf (w.heap.size + 1) wr = k + 1) := leftOf_eq HJ.out.e7
     have e1 : ((k + 1 : Nat) : Int) = (k : Int) + 1 := by omega
     rw [e1] at HJ; have hkX := HJ.out.ll
     have hkp : k < p.length := by rw [← HJ.out.px.len]; omega
     have hfit := HJ.out.fit; have hll := HL.out; have hle2 := HLE.out; have hjm := HJM.out; have hnm2 := HNM.out
     obtain ⟨pp, hpp⟩ : ∃ pp, N - S2.length = pp + 1 := ⟨N - S2.length - 1, by omega⟩
     have e2 : ((N - S2.length : Nat) : Int) = (pp : Int) + 1 := by omega
     rw [e2] at HJ
     have hkpp : k < pp := by omega
     have hkN : k < N := by omega
     have hppN : pp < N := by omega
     have hlt : S2.length + k < N := by omega
     have hwk : IntKind.i64.wrap (k : Int) = (k : Int) := IntWalk.i64_in _ ⟨by omega, by omega⟩
     have hwp : IntKind.i64.wrap (pp : Int) = (pp : Int) := IntWalk.i64_in _ ⟨by omega, by omega⟩
     clear hkX hfit hll hle2 hjm hnm2
     obtain ⟨xm, xa, xn, xc, xp, xq, xr, hXv, hc, hCn, hBd, hMl⟩ := HJ.out.get (k := k) (by omega)
     obtain ⟨u, hu⟩ : ∃ u, u = p.getD k (0, []) := ⟨_, rfl⟩; rw [← hu] at hCn hBd hMl
     have hum : mayM 0 u.2 = true := by rw [hu]; exact HMP.out _ (getD_in _ hkp)
     obtain ⟨z, hz⟩ : ∃ z, cmpM u.2 t.2 = z := ⟨_, rfl⟩
     have HSC : Hid (slideT t.2 (u :: (p.take k).reverse) S2 = slideT t.2 (p.take left).reverse S) := by rw [Hid, ← HSL.out, take_rev1 hkp, hu]
     have hgl : g < wr.heap.size := by obtain ⟨L, Y, h1, _⟩ := HJ.out.ex; exact h1.at1.lt
     have HCX : Hid (∀ V, Below wr.heap.size wr V → V.cell? ⟨g, off + k * 3, none⟩ = some (.bool xm) ∧ V.cell? ⟨g, off + k * 3 + 1, none⟩ = some (.slice xa xn xc) ∧ V.cell? ⟨g, off + k * 3 + 2, none⟩ = some (.slice xp xq xr)) := fun V hV => ⟨(hV.cell (p := ⟨g, off + k * 3, none⟩) hgl).trans hc.1, (hV.cell (p := ⟨g, off + k * 3 + 1, none⟩) hgl).trans hc.2.1, (hV.cell (p := ⟨g, off + k * 3 + 2, none⟩) hgl).trans hc.2.2⟩
     have HU := hid (And.intro hCn (And.intro hBd hMl)); have HUM := hid hum; have HZ := hid hz; have HPP := hid (And.intro hpp (And.intro e2 hkp)); have HUU := hid hu; have HXV := hid hXv; clear hXv hc hCn hBd hMl hum hz hpp hgl hu hkp HSL
     have hd : decide ((0 : Int) < (k : Int) + 1) = true := decide_eq_true (by omega)
     have c7 := HJ.out.e7.c1
     gi_step; gi_step; gi_step; refine region_round (by rfl) (fun ⟨_, _, h⟩ => h) ?_
     go_wp2_with fail; clear c7 hd
     gi_step; gi_step; gi_step; gi_step; gi_step; gi_step; gi_step; refine held_round (S := fun w' => w'.cell? ⟨ba, 0, none⟩ = some (.slice (some ⟨g, off, none⟩) N cp) ∧ w'.cell? ⟨w.heap.size + 1, 0, none⟩ = some (.int .i64 ((k : Int) + 1)) ∧ (w'.cell? ⟨g, off + k * 3, none⟩ = some (.bool xm) ∧ w'.cell? ⟨g, off + k * 3 + 1, none⟩ = some (.slice xa xn xc) ∧ w'.cell? ⟨g, off + k * 3 + 2, none⟩ = some (.slice xp xq xr)) ∧ (w'.cell? ⟨bt, 0, none⟩ = some (.bool tm) ∧ w'.cell? ⟨bt, 1, none⟩ = some (.slice ta tn tc) ∧ w'.cell? ⟨bt, 2, none⟩ = some (.slice tp tq tr))) (by rfl) (fun ⟨_, _, h⟩ => h) (by kernel_rfl) (⟨HJ.out.ea.c1, HJ.out.e7.c1, HCX.out _ (Below.refl _ _).drew, HA.out.at1.c3⟩) (fun hH => ?_)
     refine anyH_world (fun w1 hW => ?_)
     have HBw1 : Hid (Below wr.heap.size wr w1) := by rw [hW]; exact (Below.refl _ _).drew
     rw [← hW] at hH; clear hW
     have HJ1 := hid (HJ.out.below HBw1.out); have HA1 := hid (HA.out.below HBw1.out); have HK1 := hid (HK.out.below hFW hYV HBw1.out); clear HJ HA HK
     refine son 0 hH ?_; try simp only [nrm]
     refine son 1 hH ?_; try simp only [nrm]
     refine son 2 hH ?_; try simp only [nrm]
     refine son 3 hH ?_; try simp only [nrm]
     refine son 4 hH ?_; try simp only [nrm]
     refine son 5 hH ?_; try simp only [nrm]
     refine step_one 6 rfl (by kernel_rfl) (fun KK hK => ?_)
     go_simp; refine (order_any z (HU.out.2.2.below HBw1.out) HA1.out.ml HUM.out HTM.out HZ.out).mono ?_
     rintro e w2 ⟨rfl, hB⟩; have HJ2 := hid (HJ1.out.below hB); have HA2 := hid (HA1.out.below hB); have HK2 := hid (HK1.out.below hFW hYV hB); have HBw2 := hid (Below.steps HBw1.out hB); clear hB HJ1 HA1 HK1 HBw1; go_wp2_with fail
     clear hH; refine hK.out _ _ ⟨HJ2.out.ea.c1, HJ2.out.e7.c1, HCX.out _ HBw2.out, HA2.out.at1.c3⟩ fun hH => ?_; clear hK KK
     try simp only [nrm]
     refine son 7 hH ?_; try simp only [nrm]
     refine wpAnyH_done (by kernel_rfl) ?_ _
     clear hH; go_wp2_with fail
     by_cases hz0 : z < 0
     ·have hd8 : decide ((0 : Int) ≤ z) = false := decide_eq_false (by omega)
      gi_step; refine region_round (by rfl) (fun ⟨_, _, h⟩ => h) ?_
      go_wp2_with fail; clear hd8
      have HU2 : Hid (TmC K w2 [.bool xm, .slice xa xn xc, .slice xp xq xr] u) := ⟨xm, xa, xn, xc, xp, xq, xr, rfl, HU.out.1.below HBw2.out, HU.out.2.1, HU.out.2.2.below HBw2.out⟩
      have HCX2 := hid (HCX.out _ HBw2.out); clear HU HCX HBw2
      gi_step; gi_step; gi_step; gi_step; refine seq_mid (fun a V => ∃ (v31 v32 v33 v34 v35 v36 v37 v38 v39 v40 v41 v42 v43 v44 v45 v46 v47 v48 v49 v50 v51 v52 : Value), a = { tmps := #[.slice ao n cap, .slice bo m cb, .func (.func G) #[] #[], undef, undef, .pointer (some ⟨w.heap.size, 0, none⟩), .slice none 0 0, .pointer (some ⟨w.heap.size + 1, 0, none⟩), .pointer (some ⟨w.heap.size + 1 + 1, 0, none⟩), .pointer (some ⟨ba, 0, none⟩), undef, .pointer (some ⟨bt, 0, none⟩), .int .i64 z, undef, .slice ao n cap, .int .i64 (n : Int), .slice ao n cap, .int .i64 (n : Int), .slice bo m cb, .int .i64 (m : Int), .int .i64 (N : Int), u21, u22, u23, u24, u25, u26, .slice bo m cb, .func (.func 120) #[] #[.pointer (some ⟨Bs, 0, none⟩)], .int .i64 ((m - 1 - j : Nat) : Int), .agg #[.bool tm, .slice ta tn tc, .slice tp tq tr], v31, v32, v33, v34, v35, v36, v37, v38, v39, v40, v41, v42, v43, v44, v45, v46, v47, v48, v49, v50, v51, v52, undef, undef, undef, undef, undef, undef, undef, undef, undef, undef, undef, undef, undef, undef, undef, undef, undef, undef, undef, undef, undef, undef, undef, undef, undef, undef, undef, undef, undef], defers := [] } ∧ Hid (JSt w g off cp N (w.heap.size + 1) (w.heap.size + 1 + 1) ba w.heap.size (.func (.func G) #[] #[]) X Q K p q S2 (k + 1) (k : Int) (pp : Int) V) ∧ Hid (TSt bt tm ta tn tc tp tq tr t.1 t.2 V) ∧ Hid (Trk W.heap.size Fx Y V) ∧ Hid (TmC K V [.bool xm, .slice xa xn xc, .slice xp xq xr] u) ∧ Hid (V.cell? ⟨g, off + k * 3, none⟩ = some (.bool xm) ∧ V.cell? ⟨g, off + k * 3 + 1, none⟩ = some (.slice xa xn xc) ∧ V.cell? ⟨g, off + k * 3 + 2, none⟩ = some (.slice xp xq xr))) ?_ ?_
      ·refine held_round (S := fun _ => True) (by rfl) (fun ⟨_, _, h⟩ => h) (by kernel_rfl) (trivial) (fun hH => ?_)
       refine anyH_world (fun w3 hW => ?_)
       have HB3 : Below w2.heap.size w2 w3 := by rw [hW]; exact (Below.refl _ _).drew
       have HCX3 : Hid (w3.cell? ⟨g, off + k * 3, none⟩ = some (.bool xm) ∧ w3.cell? ⟨g, off + k * 3 + 1, none⟩ = some (.slice xa xn xc) ∧ w3.cell? ⟨g, off + k * 3 + 2, none⟩ = some (.slice xp xq xr)) := by rw [hW]; exact HCX2.out
       clear hW; have HJ3 := hid (HJ2.out.below HB3); have HA3 := hid (HA2.out.below HB3); have HK3 := hid (HK2.out.below hFW hYV HB3)
       have HU3 : Hid (TmC K w3 [.bool xm, .slice xa xn xc, .slice xp xq xr] u) := HU2.out.below HB3
       clear HB3 HJ2 HA2 HK2 HU2 HCX2
       refine wpAnyH_ready (rs := [0, 2]) (by kernel_rfl) (by simp) (ready_cons rfl (fun KK hK => ?_) (ready_cons rfl (fun KK hK => ?_) (AllReadyH.nil)))
       ·have c0 := HJ3.out.e7.c1
        go_simp; clear c0
        clear hH; refine hK.out _ _ trivial fun hH => ?_; clear hK KK
        try dsimp only
        refine son 1 hH ?_; try simp only [nrm]
        refine wpAnyH_ready (rs := [2, 4]) (by kernel_rfl) (by simp) (ready_cons rfl (fun KK hK => ?_) (ready_cons rfl (fun KK hK => ?_) (AllReadyH.nil)))
        ·have c0 := HJ3.out.e8.c1
         go_simp; clear c0
         clear hH; refine hK.out _ _ trivial fun hH => ?_; clear hK KK
         try dsimp only
         refine son 3 hH ?_; try simp only [nrm]
         refine step_one 4 rfl (by kernel_rfl) (fun KK hK => ?_)
         have c0 := HJ3.out.e7.c1; have f0 := HJ3.out.e7.f1; go_simp; clear c0 f0
         clear hH; refine hK.out _ _ trivial fun hH => ?_; clear hK KK
         try rw [nrm.2.1]
         refine anyH_world (fun w4 hW => ?_)
         have HJ4 : Hid (JSt w g off cp N (w.heap.size + 1) (w.heap.size + 1 + 1) ba w.heap.size (.func (.func G) #[] #[]) X Q K p q S2 (k + 1) (k : Int) ((pp : Int) + 1) w4) := by rw [hW]; exact HJ3.out.set7 _
         have HA4 : Hid (TSt bt tm ta tn tc tp tq tr t.1 t.2 w4) := by rw [hW]; exact HA3.out.setI HJ3.out.e7 _
         have HK4 : Hid (Trk W.heap.size Fx Y w4) := by rw [hW]; exact HK3.out.far hFW hYV HJ3.out.e7 HFG.out.2.1 (grown_put1 _ _ 0 _)
         have HU4 : Hid (TmC K w4 [.bool xm, .slice xa xn xc, .slice xp xq xr] u) := by rw [hW]; exact tmc_setI HJ3.out.e7 _ HU3.out
         have HCX4 : Hid (w4.cell? ⟨g, off + k * 3, none⟩ = some (.bool xm) ∧ w4.cell? ⟨g, off + k * 3 + 1, none⟩ = some (.slice xa xn xc) ∧ w4.cell? ⟨g, off + k * 3 + 2, none⟩ = some (.slice xp xq xr)) := by rw [hW]; exact cells_far HJ3.out.g7.1 HCX3.out
         clear HJ3 HA3 HK3 HU3 HCX3; clear hW
         refine step_one 5 rfl (by kernel_rfl) (fun KK hK => ?_)
         have c0 := HJ4.out.e8.c1; have f0 := HJ4.out.e8.f1; go_simp; clear c0 f0
         clear hH; refine hK.out _ _ trivial fun hH => ?_; clear hK KK
         try rw [nrm.2.1]
         refine anyH_world (fun w5 hW => ?_)
         have HJ5 : Hid (JSt w g off cp N (w.heap.size + 1) (w.heap.size + 1 + 1) ba w.heap.size (.func (.func G) #[] #[]) X Q K p q S2 (k + 1) (k : Int) (pp : Int) w5) := by rw [hW]; exact HJ4.out.set8 _
         have HA5 : Hid (TSt bt tm ta tn tc tp tq tr t.1 t.2 w5) := by rw [hW]; exact HA4.out.setI HJ4.out.e8 _
         have HK5 : Hid (Trk W.heap.size Fx Y w5) := by rw [hW]; exact HK4.out.far hFW hYV HJ4.out.e8 HFG.out.2.2 (grown_put1 _ _ 0 _)
         have HU5 : Hid (TmC K w5 [.bool xm, .slice xa xn xc, .slice xp xq xr] u) := by rw [hW]; exact tmc_setI HJ4.out.e8 _ HU4.out
         have HCX5 : Hid (w5.cell? ⟨g, off + k * 3, none⟩ = some (.bool xm) ∧ w5.cell? ⟨g, off + k * 3 + 1, none⟩ = some (.slice xa xn xc) ∧ w5.cell? ⟨g, off + k * 3 + 2, none⟩ = some (.slice xp xq xr)) := by rw [hW]; exact cells_far HJ4.out.g7.2.1 HCX4.out
         clear HJ4 HA4 HK4 HU4 HCX4; clear hW
         refine wpAnyH_done (by kernel_rfl) ?_ _
         clear hH
         exact ⟨_, _, _, _, _, _, _, _, _, _, _, _, _, _, _, _, _, _, _, _, _, _, rfl, HJ5.out, HA5.out, HK5.out, HU5.out, HCX5.out⟩
        ·have c0 := HJ3.out.e7.c1
         have f0 := HJ3.out.e7.f1; go_simp; clear c0 f0
         clear hH; refine hK.out _ _ trivial fun hH => ?_; clear hK KK
         try rw [nrm.2.1]
         refine anyH_world (fun w4 hW => ?_)
         have HJ4 : Hid (JSt w g off cp N (w.heap.size + 1) (w.heap.size + 1 + 1) ba w.heap.size (.func (.func G) #[] #[]) X Q K p q S2 (k + 1) (k : Int) ((pp : Int) + 1) w4) := by rw [hW]; exact HJ3.out.set7 _
         have HA4 : Hid (TSt bt tm ta tn tc tp tq tr t.1 t.2 w4) := by rw [hW]; exact HA3.out.setI HJ3.out.e7 _
         have HK4 : Hid (Trk W.heap.size Fx Y w4) := by rw [hW]; exact HK3.out.far hFW hYV HJ3.out.e7 HFG.out.2.1 (grown_put1 _ _ 0 _)
         have HU4 : Hid (TmC K w4 [.bool xm, .slice xa xn xc, .slice xp xq xr] u) := by rw [hW]; exact tmc_setI HJ3.out.e7 _ HU3.out
         have HCX4 : Hid (w4.cell? ⟨g, off + k * 3, none⟩ = some (.bool xm) ∧ w4.cell? ⟨g, off + k * 3 + 1, none⟩ = some (.slice xa xn xc) ∧ w4.cell? ⟨g, off + k * 3 + 2, none⟩ = some (.slice xp xq xr)) := by rw [hW]; exact cells_far HJ3.out.g7.1 HCX3.out
         clear HJ3 HA3 HK3 HU3 HCX3; clear hW
         refine step_one 2 rfl (by kernel_rfl) (fun KK hK => ?_)
         have c0 := HJ4.out.e8.c1; go_simp; clear c0
         clear hH; refine hK.out _ _ trivial fun hH => ?_; clear hK KK
         try simp only [nrm]
         refine son 3 hH ?_; try simp only [nrm]
         refine step_one 5 rfl (by kernel_rfl) (fun KK hK => ?_)
         have c0 := HJ4.out.e8.c1; have f0 := HJ4.out.e8.f1; go_simp; clear c0 f0
         clear hH; refine hK.out _ _ trivial fun hH => ?_; clear hK KK
         try rw [nrm.2.1]
         refine anyH_world (fun w5 hW => ?_)
         have HJ5 : Hid (JSt w g off cp N (w.heap.size + 1) (w.heap.size + 1 + 1) ba w.heap.size (.func (.func G) #[] #[]) X Q K p q S2 (k + 1) (k : Int) (pp : Int) w5) := by rw [hW]; exact HJ4.out.set8 _
         have HA5 : Hid (TSt bt tm ta tn tc tp tq tr t.1 t.2 w5) := by rw [hW]; exact HA4.out.setI HJ4.out.e8 _
         have HK5 : Hid (Trk W.heap.size Fx Y w5) := by rw [hW]; exact HK4.out.far hFW hYV HJ4.out.e8 HFG.out.2.2 (grown_put1 _ _ 0 _)
         have HU5 : Hid (TmC K w5 [.bool xm, .slice xa xn xc, .slice xp xq xr] u) := by rw [hW]; exact tmc_setI HJ4.out.e8 _ HU4.out
         have HCX5 : Hid (w5.cell? ⟨g, off + k * 3, none⟩ = some (.bool xm) ∧ w5.cell? ⟨g, off + k * 3 + 1, none⟩ = some (.slice xa xn xc) ∧ w5.cell? ⟨g, off + k * 3 + 2, none⟩ = some (.slice xp xq xr)) := by rw [hW]; exact cells_far HJ4.out.g7.2.1 HCX4.out
         clear HJ4 HA4 HK4 HU4 HCX4; clear hW
         refine wpAnyH_done (by kernel_rfl) ?_ _
         clear hH
         exact ⟨_, _, _, _, _, _, _, _, _, _, _, _, _, _, _, _, _, _, _, _, _, _, rfl, HJ5.out, HA5.out, HK5.out, HU5.out, HCX5.out⟩
       ·have c0 := HJ3.out.e8.c1
        go_simp; clear c0
        clear hH; refine hK.out _ _ trivial fun hH => ?_; clear hK KK
        try dsimp only
        refine son 3 hH ?_; try simp only [nrm]
        refine step_one 0 rfl (by kernel_rfl) (fun KK hK => ?_)
        have c0 := HJ3.out.e7.c1; go_simp; clear c0
        clear hH; refine hK.out _ _ trivial fun hH => ?_; clear hK KK
        try simp only [nrm]
        refine son 1 hH ?_; try simp only [nrm]
        refine step_one 4 rfl (by kernel_rfl) (fun KK hK => ?_)
        have c0 := HJ3.out.e7.c1; have f0 := HJ3.out.e7.f1; go_simp; clear c0 f0
        clear hH; refine hK.out _ _ trivial fun hH => ?_; clear hK KK
        try rw [nrm.2.1]
        refine anyH_world (fun w4 hW => ?_)
        have HJ4 : Hid (JSt w g off cp N (w.heap.size + 1) (w.heap.size + 1 + 1) ba w.heap.size (.func (.func G) #[] #[]) X Q K p q S2 (k + 1) (k : Int) ((pp : Int) + 1) w4) := by rw [hW]; exact HJ3.out.set7 _
        have HA4 : Hid (TSt bt tm ta tn tc tp tq tr t.1 t.2 w4) := by rw [hW]; exact HA3.out.setI HJ3.out.e7 _
        have HK4 : Hid (Trk W.heap.size Fx Y w4) := by rw [hW]; exact HK3.out.far hFW hYV HJ3.out.e7 HFG.out.2.1 (grown_put1 _ _ 0 _)
        have HU4 : Hid (TmC K w4 [.bool xm, .slice xa xn xc, .slice xp xq xr] u) := by rw [hW]; exact tmc_setI HJ3.out.e7 _ HU3.out
        have HCX4 : Hid (w4.cell? ⟨g, off + k * 3, none⟩ = some (.bool xm) ∧ w4.cell? ⟨g, off + k * 3 + 1, none⟩ = some (.slice xa xn xc) ∧ w4.cell? ⟨g, off + k * 3 + 2, none⟩ = some (.slice xp xq xr)) := by rw [hW]; exact cells_far HJ3.out.g7.1 HCX3.out
        clear HJ3 HA3 HK3 HU3 HCX3; clear hW
        refine step_one 5 rfl (by kernel_rfl) (fun KK hK => ?_)
        have c0 := HJ4.out.e8.c1; have f0 := HJ4.out.e8.f1; go_simp; clear c0 f0
        clear hH; refine hK.out _ _ trivial fun hH => ?_; clear hK KK
        try rw [nrm.2.1]
        refine anyH_world (fun w5 hW => ?_)
        have HJ5 : Hid (JSt w g off cp N (w.heap.size + 1) (w.heap.size + 1 + 1) ba w.heap.size (.func (.func G) #[] #[]) X Q K p q S2 (k + 1) (k : Int) (pp : Int) w5) := by rw [hW]; exact HJ4.out.set8 _
        have HA5 : Hid (TSt bt tm ta tn tc tp tq tr t.1 t.2 w5) := by rw [hW]; exact HA4.out.setI HJ4.out.e8 _
        have HK5 : Hid (Trk W.heap.size Fx Y w5) := by rw [hW]; exact HK4.out.far hFW hYV HJ4.out.e8 HFG.out.2.2 (grown_put1 _ _ 0 _)
        have HU5 : Hid (TmC K w5 [.bool xm, .slice xa xn xc, .slice xp xq xr] u) := by rw [hW]; exact tmc_setI HJ4.out.e8 _ HU4.out
        have HCX5 : Hid (w5.cell? ⟨g, off + k * 3, none⟩ = some (.bool xm) ∧ w5.cell? ⟨g, off + k * 3 + 1, none⟩ = some (.slice xa xn xc) ∧ w5.cell? ⟨g, off + k * 3 + 2, none⟩ = some (.slice xp xq xr)) := by rw [hW]; exact cells_far HJ4.out.g7.2.1 HCX4.out
        clear HJ4 HA4 HK4 HU4 HCX4; clear hW
        refine wpAnyH_done (by kernel_rfl) ?_ _
        clear hH
        exact ⟨_, _, _, _, _, _, _, _, _, _, _, _, _, _, _, _, _, _, _, _, _, _, rfl, HJ5.out, HA5.out, HK5.out, HU5.out, HCX5.out⟩
      ·rintro a V9 ⟨v31, v32, v33, v34, v35, v36, v37, v38, v39, v40, v41, v42, v43, v44, v45, v46, v47, v48, v49, v50, v51, v52, rfl, HJ5, HA5, HK5, HU5, HCX5⟩
       clear HJ2 HA2 HK2 HU2 HCX2
       refine held_round (S := fun w' => w'.cell? ⟨ba, 0, none⟩ = some (.slice (some ⟨g, off, none⟩) N cp) ∧ w'.cell? ⟨w.heap.size + 1, 0, none⟩ = some (.int .i64 (k : Int)) ∧ w'.cell? ⟨w.heap.size + 1 + 1, 0, none⟩ = some (.int .i64 (pp : Int)) ∧ (w'.cell? ⟨g, off + k * 3, none⟩ = some (.bool xm) ∧ w'.cell? ⟨g, off + k * 3 + 1, none⟩ = some (.slice xa xn xc) ∧ w'.cell? ⟨g, off + k * 3 + 2, none⟩ = some (.slice xp xq xr))) (by rfl) (fun ⟨_, _, h⟩ => h) (by kernel_rfl) (⟨HJ5.out.ea.c1, HJ5.out.e7.c1, HJ5.out.e8.c1, HCX5.out⟩) (fun hH => ?_)
       refine anyH_world (fun w6 hW => ?_)
       have HB6 : Below V9.heap.size V9 w6 := by rw [hW]; exact (Below.refl _ _).drew
       have HCX6 : Hid (w6.cell? ⟨g, off + k * 3, none⟩ = some (.bool xm) ∧ w6.cell? ⟨g, off + k * 3 + 1, none⟩ = some (.slice xa xn xc) ∧ w6.cell? ⟨g, off + k * 3 + 2, none⟩ = some (.slice xp xq xr)) := by rw [hW]; exact HCX5.out
       rw [← hW] at hH; clear hW
       have HJ6 := hid (HJ5.out.below HB6); have HA6 := hid (HA5.out.below HB6); have HK6 := hid (HK5.out.below hFW hYV HB6)
       have HU6 : Hid (TmC K w6 [.bool xm, .slice xa xn xc, .slice xp xq xr] u) := HU5.out.below HB6
       clear HB6 HJ5 HA5 HK5 HU5 HCX5
       refine son 0 hH ?_; try simp only [nrm]
       refine son 1 hH ?_; try simp only [nrm]
       refine son 2 hH ?_; try simp only [nrm]
       refine son 3 hH ?_; try simp only [nrm]
       refine son 4 hH ?_; try simp only [nrm]
       refine son 5 hH ?_; try simp only [nrm]
       refine son 6 hH ?_; try simp only [nrm]
       have e3 : N - S2.length - 1 = pp := by have := HPP.out.1; omega
       obtain ⟨m2, ao2, n2, cap2, bo2, l2, cb2, hv2, hC2, hD2, hM2⟩ := HU6.out
       cases hv2
       have HJ7 := hid ((HJ6.out.drop (Nat.le_succ k)).put (t := u) hlt hC2 (hD2.mono (Nat.le_succ K)) hM2); rw [e3] at HJ7; clear hC2 hD2 hM2 e3; have HSP := HJ6.out.spot hppN; obtain ⟨⟨y0, y1, y2, d0, d1, d2⟩, f0, f1, f2⟩ := HSP
       have hgat : ∃ L, AtN w6 g L 56 ∧ Clean L := by obtain ⟨L, Y, h1, _⟩ := HJ6.out.ex; exact ⟨L, h1.at1, h1.cln⟩
       obtain ⟨LG, hg1, hg2⟩ := hgat
       refine step_one 7 rfl (by kernel_rfl) (fun KK hK => ?_)
       go_simp; clear d0 d1 d2 f0 f1 f2
       clear hH; refine hK.out _ _ ⟨HJ7.out.ea.c1, HJ7.out.e7.c1, HJ7.out.e8.c1, (cell_put3 _ _ _ (.inl (by omega))).trans HCX6.out.1, (cell_put3 _ _ _ (.inl (by omega))).trans HCX6.out.2.1, (cell_put3 _ _ _ (.inl (by omega))).trans HCX6.out.2.2⟩ fun hH => ?_; clear hK KK
       try simp only [nrm]
       refine anyH_world (fun w7 hW => ?_)
       have HJ8 : Hid (JSt w g off cp N (w.heap.size + 1) (w.heap.size + 1 + 1) ba w.heap.size (.func (.func G) #[] #[]) X Q K p q (u :: S2) k (k : Int) (pp : Int) w7) := by rw [hW]; exact HJ7.out
       have HA8 : Hid (TSt bt tm ta tn tc tp tq tr t.1 t.2 w7) := by rw [hW]; exact HA6.out.step (grown_put3 _ _ _ _ _ _) (fun r e => by cases e; exact (hg1.cleanB hg2).noInt) (fun r e => by cases e; have := HGT.out.1; omega)
       have HK8 : Hid (Trk W.heap.size Fx Y w7) := by rw [hW]; exact HK6.out.far hFW hYV hg1 HFG.out.1 (grown_put3 _ _ _ _ _ _)
       clear hW; clear HJ6 HA6 HK6 HJ7 hg1 hg2 HU6 HCX6
       refine wpAnyH_done (by kernel_rfl) ?_ _
       clear hH
       go_roundw
       case rel => (repeat apply Exists.intro); exact ⟨⟨z, u :: S2, k, rfl, by rw [show ((N - (u :: S2).length : Nat) : Int) = (pp : Int) from by have := HPP.out.1; rw [List.length_cons]; omega]; exact HJ8.out, HA8.out, HK8.out, by rw [Hid, ← HSC.out, slideT, if_pos (by rw [HZ.out]; exact hz0)], by have := HL.out; rw [Hid, List.length_cons]; omega, by rw [Hid]; omega⟩, rfl⟩
       case measure => rw [HLO.out, leftOf_eq HJ8.out.e7]; omega
     ·have hd8 : decide ((0 : Int) ≤ z) = true := decide_eq_true (by omega)
      gi_step; refine region_round (by rfl) (fun ⟨_, _, h⟩ => h) ?_
      go_wp2_with fail
      gi_wp2
      exact ⟨_, _, _, _, _, _, _, _, _, _, _, _, _, _, _, _, _, _, _, _, _, _, z, S2, k + 1, rfl, by rw [e1, HPP.out.2.1]; exact HJ2.out, HA2.out, HK2.out, by rw [Hid, ← HSC.out, take_rev1 HPP.out.2.2, ← HUU.out, slideT, if_neg (by rw [HZ.out]; omega), HZ.out], HL.out⟩
  ·rintro a V2 ⟨v31, v32, v33, v34, v35, v36, v37, v38, v39, v40, v41, v42, v43, v44, v45, v46, v47, v48, v49, v50, v51, v52, met, S2, left2, rfl, HJ, HA, HK, HSL, HL⟩
   clear J2 A2 K2
   gi_step; refine region_round (by rfl) (fun ⟨_, _, h⟩ => h) ?_
   go_wp2_with fail
   refine wpIn_world (fun V3 hW => ?_)
   have B3 : Below V2.heap.size V2 V3 := by rw [hW]; exact below_alloc _ _
   obtain ⟨bn, hbn⟩ : ∃ bn, bn = V2.heap.size := ⟨_, rfl⟩
   have HN3 : Hid (AtN V3 bn [.bool false, .slice none 0 0] 52) := by rw [hW, hbn]; exact AtN.new V2 [.bool false, .slice none 0 0] 52
   have HJ3 := hid (HJ.out.below B3); have HA3 := hid (HA.out.below B3); have HK3 := hid (HK.out.below hFW hYV B3)
   have hnW : W.heap.size ≤ bn := by rw [hbn]; exact Nat.le_trans hYV HK.out.kf.size
   have hgn : g < bn := by rw [hbn]; obtain ⟨L, Y, h1, _⟩ := HJ.out.ex; exact h1.at1.lt
   have hFn : ¬ Fx bn := fun h => by have := hFW _ h; omega
   have hwn : w.heap.size ≤ bn := by omega
   have HBN := hid (And.intro hgn (And.intro hFn hwn)); rw [← hbn]; clear hW B3 hbn HJ HA HK hnW hgn hFn hwn
   refine seq_mid (fun a V => ∃ (v31 v32 v33 v34 v35 v36 v37 v38 v39 v40 v41 v42 v43 v44 v45 v46 v47 v48 v49 v50 v51 v52 v53 v54 v55 v56 v57 v58 v59 v60 v61 : Value) (left3 : Nat) (nm : Bool) (na : Option Addr) (nn nc : Nat) (x : Int), a = { tmps := #[.slice ao n cap, .slice bo m cb, .func (.func G) #[] #[], undef, undef, .pointer (some ⟨w.heap.size, 0, none⟩), .slice none 0 0, .pointer (some ⟨w.heap.size + 1, 0, none⟩), .pointer (some ⟨w.heap.size + 1 + 1, 0, none⟩), .pointer (some ⟨ba, 0, none⟩), undef, .pointer (some ⟨bt, 0, none⟩), .int .i64 met, .pointer (some ⟨bn, 0, none⟩), .slice ao n cap, .int .i64 (n : Int), .slice ao n cap, .int .i64 (n : Int), .slice bo m cb, .int .i64 (m : Int), .int .i64 (N : Int), u21, u22, u23, u24, u25, u26, .slice bo m cb, .func (.func 120) #[] #[.pointer (some ⟨Bs, 0, none⟩)], .int .i64 ((m - 1 - j : Nat) : Int), .agg #[.bool tm, .slice ta tn tc, .slice tp tq tr], v31, v32, v33, v34, v35, v36, v37, v38, v39, v40, v41, v42, v43, v44, v45, v46, v47, v48, v49, v50, v51, v52, v53, v54, v55, v56, v57, v58, v59, v60, v61, undef, undef, undef, undef, undef, undef, undef, undef, undef, undef, undef, undef, undef, undef, undef, undef, undef, undef, undef, undef], defers := [] } ∧ Hid (JSt w g off cp N (w.heap.size + 1) (w.heap.size + 1 + 1) ba w.heap.size (.func (.func G) #[] #[]) X Q K p q S2 left3 (left3 : Int) ((N - S2.length : Nat) : Int) V) ∧ Hid (TSt bt tm ta tn tc tp tq tr t.1 t.2 V) ∧ Hid (Trk W.heap.size Fx Y V) ∧ Hid (AtN V bn [.bool nm, .slice na nn nc] 52) ∧ Hid (Cn V nm na nn nc x ∧ Bd x K) ∧ Hid (joinS f ((p.take left).reverse, S) t = ((p.take left3).reverse, if f x t.1 = 0 then S2 else (f x t.1, t.2) :: S2)) ∧ Hid (S2.length + left3 ≤ S.length + left)) ?_ ?_
   ·obtain ⟨b, hb⟩ : ∃ b, (met == 0) = b := ⟨_, rfl⟩
    rw [hb] at HSL
    cases b with
    | false =>
     gi_step; gi_step; refine region_round (by rfl) (fun ⟨_, _, h⟩ => h) ?_
     go_wp2_with fail
     gi_wp2
     exact ⟨_, _, _, _, _, _, _, _, _, _, _, _, _, _, _, _, _, _, _, _, _, _, _, _, _, _, _, _, _, _, _, left2, false, none, 0, 0, 0, rfl, HJ3.out, HA3.out, HK3.out, HN3.out, ⟨(zero_cx _).cn, bd0 K⟩, by rw [Hid]; unfold joinS; simp only [HSL.out, Bool.false_eq_true, if_false], by have := HL.out; rw [Hid]; omega⟩
    | true =>
     have hne := slide_true HSL.out
     obtain ⟨k, rfl⟩ : ∃ k, left2 = k + 1 := ⟨left2 - 1, by rcases Nat.eq_zero_or_pos left2 with e | e <;> first | (subst e; exact absurd rfl hne) | omega⟩
     clear hne
     have e1 : ((k + 1 : Nat) : Int) = (k : Int) + 1 := by omega
     rw [e1] at HJ3; have hkX := HJ3.out.ll
     have hkp : k < p.length := by rw [← HJ3.out.px.len]; omega
     have hfit := HJ3.out.fit
     have hkN : k < N := by omega
     have hwk : IntKind.i64.wrap (k : Int) = (k : Int) := IntWalk.i64_in _ ⟨by omega, by omega⟩
     obtain ⟨xm, xa, xn, xc, xp, xq, xr, hXv, hc, hCn, hBd, _⟩ := HJ3.out.get (k := k) (by omega)
     have HU := hid (And.intro hCn hBd); have HKP := hid hkp; have HCX3 := hid hc; clear hXv hc hCn hBd hkX hfit hkp; have c0 := HJ3.out.e7.c1; have f0 := HJ3.out.e7.f1
     gi_step; gi_step; refine region_round (by rfl) (fun ⟨_, _, h⟩ => h) ?_
     go_wp2_with fail
     gi_step
     gi_step; refine region_round (by rfl) (fun ⟨_, _, h⟩ => h) ?_
     go_wp2_with fail; clear c0 f0
     refine wpIn_world (fun V4 hW => ?_)
     have HJ4 : Hid (JSt w g off cp N (w.heap.size + 1) (w.heap.size + 1 + 1) ba w.heap.size (.func (.func G) #[] #[]) X Q K p q S2 (k + 1) (k : Int) ((N - S2.length : Nat) : Int) V4) := by rw [hW]; exact HJ3.out.set7 _
     have HA4 : Hid (TSt bt tm ta tn tc tp tq tr t.1 t.2 V4) := by rw [hW]; exact HA3.out.setI HJ3.out.e7 _
     have HK4 : Hid (Trk W.heap.size Fx Y V4) := by rw [hW]; exact HK3.out.far hFW hYV HJ3.out.e7 HFG.out.2.1 (grown_put1 _ _ 0 _)
     have HN4 : Hid (AtN V4 bn [.bool false, .slice none 0 0] 52) := by rw [hW]; exact HN3.out.far (HJ3.out.e7.ne HN3.out (by decide)) 0 _
     have HU4 : Hid (Cn V4 xm xa xn xc (p.getD k (0, [])).1 ∧ Bd (p.getD k (0, [])).1 K) := by rw [hW]; exact ⟨HU.out.1.setI HJ3.out.e7 _, HU.out.2⟩
     have HCX4 : Hid (V4.cell? ⟨g, off + k * 3, none⟩ = some (.bool xm) ∧ V4.cell? ⟨g, off + k * 3 + 1, none⟩ = some (.slice xa xn xc) ∧ V4.cell? ⟨g, off + k * 3 + 2, none⟩ = some (.slice xp xq xr)) := by rw [hW]; exact cells_far HJ3.out.g7.1 HCX3.out
     clear hW HJ3 HA3 HK3 HN3 HU HCX3; have c0 := HJ4.out.ea.c1; have c1 := HJ4.out.e7.c1; obtain ⟨d0, d1, d2⟩ := HCX4.out; obtain ⟨g0, g1⟩ := HN4.out.c2; have f0 := HN4.out.fz 0; have f1 := HN4.out.fz 1
     refine region_round (by rfl) (fun ⟨_, _, h⟩ => h) ?_
     go_wp2_with fail; clear c0 c1 d0 d1 d2 g0 g1 f0 f1
     gi_wp2
     refine mid_world (M := fun a V => ∃ (v31 v32 v33 v34 v35 v36 v37 v38 v39 v40 v41 v42 v43 v44 v45 v46 v47 v48 v49 v50 v51 v52 v53 v54 v55 v56 v57 v58 v59 v60 v61 : Value) (left3 : Nat) (nm : Bool) (na : Option Addr) (nn nc : Nat) (x : Int), a = { tmps := #[.slice ao n cap, .slice bo m cb, .func (.func G) #[] #[], undef, undef, .pointer (some ⟨w.heap.size, 0, none⟩), .slice none 0 0, .pointer (some ⟨w.heap.size + 1, 0, none⟩), .pointer (some ⟨w.heap.size + 1 + 1, 0, none⟩), .pointer (some ⟨ba, 0, none⟩), undef, .pointer (some ⟨bt, 0, none⟩), .int .i64 met, .pointer (some ⟨bn, 0, none⟩), .slice ao n cap, .int .i64 (n : Int), .slice ao n cap, .int .i64 (n : Int), .slice bo m cb, .int .i64 (m : Int), .int .i64 (N : Int), u21, u22, u23, u24, u25, u26, .slice bo m cb, .func (.func 120) #[] #[.pointer (some ⟨Bs, 0, none⟩)], .int .i64 ((m - 1 - j : Nat) : Int), .agg #[.bool tm, .slice ta tn tc, .slice tp tq tr], v31, v32, v33, v34, v35, v36, v37, v38, v39, v40, v41, v42, v43, v44, v45, v46, v47, v48, v49, v50, v51, v52, v53, v54, v55, v56, v57, v58, v59, v60, v61, undef, undef, undef, undef, undef, undef, undef, undef, undef, undef, undef, undef, undef, undef, undef, undef, undef, undef, undef, undef], defers := [] } ∧ Hid (JSt w g off cp N (w.heap.size + 1) (w.heap.size + 1 + 1) ba w.heap.size (.func (.func G) #[] #[]) X Q K p q S2 left3 (left3 : Int) ((N - S2.length : Nat) : Int) V) ∧ Hid (TSt bt tm ta tn tc tp tq tr t.1 t.2 V) ∧ Hid (Trk W.heap.size Fx Y V) ∧ Hid (AtN V bn [.bool nm, .slice na nn nc] 52) ∧ Hid (Cn V nm na nn nc x ∧ Bd x K) ∧ Hid (joinS f ((p.take left).reverse, S) t = ((p.take left3).reverse, if f x t.1 = 0 then S2 else (f x t.1, t.2) :: S2)) ∧ Hid (S2.length + left3 ≤ S.length + left)) (fun V5 hW => ?_)
     have HN5 : Hid (AtN V5 bn [.bool xm, .slice xa xn xc] 52) := by rw [hW]; exact (HN4.out.set 0 _).set 1 _
     have HJ5 : Hid (JSt w g off cp N (w.heap.size + 1) (w.heap.size + 1 + 1) ba w.heap.size (.func (.func G) #[] #[]) X Q K p q S2 (k + 1) (k : Int) ((N - S2.length : Nat) : Int) V5) := by rw [hW]; exact HJ4.out.far HN4.out (clean2 _ _ _ _) (Nat.ne_of_gt HBN.out.1) (by decide) HBN.out.2.2 (grown_put2 _ _ 0 _ _)
     have HA5 : Hid (TSt bt tm ta tn tc tp tq tr t.1 t.2 V5) := by rw [hW]; exact HA4.out.step (grown_put2 _ _ 0 _ _) (fun r e => by cases e; exact (HN4.out.cleanB (clean2 _ _ _ _)).noInt) (fun r e => by cases e; exact HN4.out.ne HA4.out.at1 (by decide))
     have HK5 : Hid (Trk W.heap.size Fx Y V5) := by rw [hW]; exact HK4.out.far hFW hYV HN4.out HBN.out.2.1 (grown_put2 _ _ 0 _ _)
     have HU5 : Hid (Cn V5 xm xa xn xc (p.getD k (0, [])).1 ∧ Bd (p.getD k (0, [])).1 K) := by rw [hW]; exact ⟨HU4.out.1.stepG (grown_put2 _ _ 0 _ _) (fun r e => by cases e; exact (HN4.out.cleanB (clean2 _ _ _ _)).noInt), HU4.out.2⟩
     exact ⟨_, _, _, _, _, _, _, _, _, _, _, _, _, _, _, _, _, _, _, _, _, _, _, _, _, _, _, _, _, _, _, k, xm, xa, xn, xc, (p.getD k (0, [])).1, rfl, HJ5.out.drop (Nat.le_succ k), HA5.out, HK5.out, HN5.out, HU5.out, by rw [Hid]; unfold joinS; simp only [HSL.out, if_true]; rw [take_rev1 HKP.out]; rfl, by have := HL.out; rw [Hid]; omega⟩
   ·clear HJ3 HA3 HK3 HN3 HSL
    rintro a V5 ⟨v31, v32, v33, v34, v35, v36, v37, v38, v39, v40, v41, v42, v43, v44, v45, v46, v47, v48, v49, v50, v51, v52, v53, v54, v55, v56, v57, v58, v59, v60, v61, left3, nm, na, nn, nc, x, rfl, HJ5, HA5, HK5, HN5, HX5, HST, HL3⟩; obtain ⟨y, hy⟩ : ∃ y, f x t.1 = y := ⟨_, rfl⟩
    have hyB : Bd y (K + 1) := by rw [← hy]; exact HFB.out _ _ HX5.out.2 HD.out
    rw [hy] at HST; have HY := hid hy
    have HYB := hid hyB; clear hy hyB; have c0 := HJ5.out.e5.c1; obtain ⟨c1, c2⟩ := HN5.out.c2; obtain ⟨d0, d1, d2⟩ := HA5.out.at1.c3
    gi_step; refine region_round (by rfl) (fun ⟨_, _, h⟩ => h) ?_
    go_wp2_with (go_at_fn G; refine (HFN.out _ _ _ _ _ _ _ _ x t.1 _ (HX5.out.1.cx HX5.out.2 (by omega)) (HA5.out.cn.cx HD.out (by omega))).mono ?_; rintro e w6 ⟨rm, ra, rn, rc, rfl, hR, hB⟩; have HJ6 := hid (HJ5.out.below hB); have HA6 := hid (HA5.out.below hB); have HK6 := hid (HK5.out.below hFW hYV hB); rw [HY.out] at hR; have HR6 := hid hR; clear hR hB HJ5 HA5 HK5 HN5 HX5 c0 c1 c2 d0 d1 d2; obtain ⟨d0, d1, d2⟩ := HA6.out.at1.c3; have f0 := HA6.out.at1.fz 0; have f1 := HA6.out.at1.fz 1)
    clear d0 d1 d2 f0 f1
    refine wpIn_world (fun V7 hW => ?_)
    have hni : ∀ r, some bt = some r → NoInt w6 r := fun r e => by cases e; exact (HA6.out.at1.cleanB (clean3 _ _ _ _ _ _ _)).noInt
    have HJ7 : Hid (JSt w g off cp N (w.heap.size + 1) (w.heap.size + 1 + 1) ba w.heap.size (.func (.func G) #[] #[]) X Q K p q S2 left3 (left3 : Int) ((N - S2.length : Nat) : Int) V7) := by rw [hW]; exact HJ6.out.far HA6.out.at1 (clean3 _ _ _ _ _ _ _) (Nat.ne_of_gt HGT.out.1) (by decide) HGT.out.2.2 (grown_put2 _ _ 0 _ _)
    have HA7 : Hid (TSt bt rm ra rn rc tp tq tr y t.2 V7) := by rw [hW]; exact ⟨(HA6.out.at1.set 0 _).set 1 _, HR6.out.stepG (grown_put2 _ _ 0 _ _) hni, HA6.out.ml.stepG (grown_put2 _ _ 0 _ _) hni⟩
    have HK7 : Hid (Trk W.heap.size Fx Y V7) := by rw [hW]; exact HK6.out.far hFW hYV HA6.out.at1 HGT.out.2.1 (grown_put2 _ _ 0 _ _)
    clear hW hni HJ6 HA6 HK6 HR6; obtain ⟨s, hs⟩ : ∃ s, y.sign = s := ⟨_, rfl⟩; obtain ⟨d0, d1, d2⟩ := HA7.out.at1.c3
    gi_step; refine region_round (by rfl) (fun ⟨_, _, h⟩ => h) ?_
    go_wp2_with fail
    refine (wsign_is s (HA7.out.cn.cx HYB.out (by omega)).nx hs).mono ?_
    rintro e w8 ⟨rfl, hB⟩; have HJ8 := hid (HJ7.out.below hB); have HA8 := hid (HA7.out.below hB); have HK8 := hid (HK7.out.below hFW hYV hB); clear hB HJ7 HA7 HK7 d0 d1 d2
    have hsz : W.heap.size ≤ w8.heap.size := Nat.le_trans hYV HK8.out.kf.size
    by_cases hy0 : y = 0
    ·have hs0 : s = 0 := by rw [← hs, hy0]; rfl
     subst hs0; have HY0 := hid hy0; clear hy0
     have hd0 : ((0 : Int) != 0) = false := rfl
     go_wp2_with fail
     gi_wp2
     exact ⟨HK8.out.kf, HK8.out.ft, hsz, S2, left3, HJ8.out, by rw [HF.out, HST.out, if_pos HY0.out], by have := HL3.out; have := HLE.out; omega⟩
    ·have hs0 : (s != 0) = true := by rw [← hs]; simp; exact hy0
     have HY0 := hid hy0; clear hy0
     have hlt : S2.length + left3 < N := by have := HL3.out; have := HLE.out; have := HJM.out; have := HNM.out; omega
     obtain ⟨pp, hpp⟩ : ∃ pp, N - S2.length = pp + 1 := ⟨N - S2.length - 1, by omega⟩
     have e2 : ((N - S2.length : Nat) : Int) = (pp : Int) + 1 := by omega
     have e3 : N - S2.length - 1 = pp := by omega
     rw [e2] at HJ8
     have hppN : pp < N := by omega
     have hwp : IntKind.i64.wrap (pp : Int) = (pp : Int) := IntWalk.i64_in _ ⟨by omega, by omega⟩
     have HPP := hid (And.intro e3 hpp); clear hpp e2 e3; have HTC := hid HA8.out; go_wp2_with fail; have c0 := HJ8.out.e8.c1; have f0 := HJ8.out.e8.f1
     gi_step
     gi_step; refine region_round (by rfl) (fun ⟨_, _, h⟩ => h) ?_
     go_wp2_with fail; clear c0 f0
     refine wpIn_world (fun V9 hW => ?_)
     have HJ9 : Hid (JSt w g off cp N (w.heap.size + 1) (w.heap.size + 1 + 1) ba w.heap.size (.func (.func G) #[] #[]) X Q K p q S2 left3 (left3 : Int) (pp : Int) V9) := by rw [hW]; exact HJ8.out.set8 _
     have HA9 : Hid (TSt bt rm ra rn rc tp tq tr y t.2 V9) := by rw [hW]; exact HA8.out.setI HJ8.out.e8 _
     have HK9 : Hid (Trk W.heap.size Fx Y V9) := by rw [hW]; exact HK8.out.far hFW hYV HJ8.out.e8 HFG.out.2.2 (grown_put1 _ _ 0 _)
     have hsz9 : W.heap.size ≤ V9.heap.size := Nat.le_trans hYV HK9.out.kf.size
     clear hW HJ8 HA8 HK8 hsz; have HP9 := hid (HJ9.out.put (t := (y, t.2)) hlt HA9.out.cn HYB.out HA9.out.ml); rw [HPP.out.1] at HP9
     have hgat : ∃ L, AtN V9 g L 56 ∧ Clean L := by obtain ⟨L, Y, h1, _⟩ := HJ9.out.ex; exact ⟨L, h1.at1, h1.cln⟩
     obtain ⟨LG, hg1, hg2⟩ := hgat; have HKP := hid (HK9.out.far hFW hYV hg1 HFG.out.1 (grown_put3 V9 g (off + pp * 3) (.bool rm) (.slice ra rn rc) (.slice tp tq tr))); clear hg1 hg2; have c0 := HJ9.out.ea.c1; have c1 := HJ9.out.e8.c1; obtain ⟨d0, d1, d2⟩ := HA9.out.at1.c3; obtain ⟨⟨y0, y1, y2, e0, e1, e2⟩, f0, f1, f2⟩ := HJ9.out.spot hppN
     refine region_round (by rfl) (fun ⟨_, _, h⟩ => h) ?_
     go_wp2_with fail
     refine ⟨HKP.out.kf, HKP.out.ft, Nat.le_trans hYV HKP.out.kf.size, (y, t.2) :: S2, left3, ?_, by rw [HF.out, HST.out, if_neg HY0.out], by have := HL3.out; have := HLE.out; rw [List.length_cons]; omega⟩
     rw [show ((N - ((y, t.2) :: S2).length : Nat) : Int) = (pp : Int) from by have := HPP.out.2; rw [List.length_cons]; omega]
     exact HP9.out
 case done =>
  rintro D V hD ⟨hVW, S, left, hS, hF, hle⟩ hK
  rw [List.take_of_length_le (by rw [List.length_reverse, HLQ.out]; exact Nat.le_refl _)] at hF
  obtain ⟨L, Y, h1, h2, h3, h4, h5⟩ := hS.ex; have hll := hS.ll; have hfit := hS.fit; have hYl := h5.len
  have hXl : (X.take left).length = left := by rw [List.length_take]; omega
  have HDL := hid (delete_any h1 h2 hXl h3 h4 (tms_notInt (fun v a h => tmC_notInt h) h5) (by omega) (by omega) hS.nc hN6)
  have hDg : D ≠ g := fun e => by subst e; have := h1.at1; unfold AtN at this; rw [hK] at this; cases this
  have HFIN : Hid (∀ L2 V2, Rm g off cp L2 V2 → Seg 3 L2 off (X.take left ++ Y) → V.grownBy V2 (some g) → ∀ V3, V2.grownBy V3 (some D) → (∃ o : Obj, V2.heap[D]? = some o ∧ o.isCells = false) → Pw B (K + 1) V3 (some ⟨g, off, none⟩) ((X.take left).length + Y.length) cp ((joinF f p q.reverse).1.reverse ++ (joinF f p q.reverse).2) ∧ (∃ row, w.grownBy V3 row ∧ (row = blk ao ∨ Below w.heap.size w V3)) ∧ (blk (some ⟨g, off, none⟩) = blk ao ∨ ∀ g', blk (some ⟨g, off, none⟩) = some g' → w.heap.size ≤ g')) := by
   intro L2 V2 hR2 hS2 hg2 V3 hg3 hob
   obtain ⟨o, ho1, ho2⟩ := hob
   have n2 : ∀ r, some g = some r → NoInt V r := fun r e => by cases e; exact (h1.at1.cleanB h1.cln).noInt
   have n3 : ∀ r, some D = some r → NoInt V2 r := fun r e => by cases e; exact noInt_obj ho1 ho2
   have hBg : B ≤ g := by
    rcases hgw with h | h
    ·obtain ⟨X0, hr, _⟩ := hp
     exact (hr.lt g h).1
    ·omega
   have hR3 : Rm g off cp L2 V3 := hR2.stepG hg3 (fun r e => by cases e; exact hDg)
   have hgw3 : w.grownBy V3 (some g) := grown_int (grown_trans hS.gr hg2) (by omega) hg3
   rw [hF]
   simp only [List.reverse_reverse]
   have hEx : Each 3 (X.take left) := fun vs hv => hS.hx vs (List.mem_of_mem_take hv)
   refine ⟨⟨X.take left ++ Y, ⟨.inr ⟨g, off, L2, rfl, hBg, hR3.at1, hR3.cln, hR3.room, by have := hS.nc; rw [hXl]; omega, hR3.big, by rw [hXl]; omega, by rw [List.length_append], hEx.append h4, hS2⟩⟩, ?_⟩, ?_, ?_⟩
   ·exact tms_stepG hg3 n3 (tms_stepG hg2 n2 (Tms.append ((tmsC_mono hS.px (Nat.le_succ K)).take left) h5))
   ·rcases hgw with h | h
    ·exact ⟨some g, hgw3, .inl h.symm⟩
    ·exact ⟨some g, hgw3, .inr (below_of_grown hgw3 h (Nat.le_refl _))⟩
   ·rcases hgw with h | h
    ·exact .inl h.symm
    ·exact .inr fun g2 e => by cases e; exact h
  have c0 := hS.ea.c1; have c1 := hS.e7.c1; have c2 := hS.e8.c1; have HKD := hid hK
  have hDV : D < V.heap.size := (Array.getElem?_eq_some_iff.1 hK).1
  clear hS hF hle hK h1 h2 h3 h4 h5 hYl hll hfit hXl
  dsimp only
  go_wp2_with fail
  refine HDL.out.mono ?_
  rintro e V2 ⟨L2, rfl, hR2, hS2, hgr⟩
  have hK2 : V2.heap[D]? = some (.deferred (some [])) := (hgr.block D hDV (fun e => hDg (Option.some.inj e))).trans HKD.out
  have HF2 := hid (HFIN.out L2 V2 hR2 hS2 hgr _ (grownBy_putObj' V2 D (.deferred none)) ⟨_, hK2, rfl⟩); clear hR2 hS2 hgr HFIN HDL c0 c1 c2; go_wp2_with fail
  refine ⟨by simp, .inl ⟨_, _, rfl, run_takeDeferred hK2, ?_⟩⟩
  have HF3 := HF2.out; rw [List.length_take] at HF3
  exact ⟨_, results_tmp rfl _ _ _, _, _, _, rfl, HF3⟩
end Go.Proofs.YtmmgipcacceakaaGreat

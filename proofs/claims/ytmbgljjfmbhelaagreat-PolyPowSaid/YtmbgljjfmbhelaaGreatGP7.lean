/- PlDiv, PlOver -/
import Derived.Test.YtmbgljjfmbhelaaGreatGP6
set_option maxHeartbeats 40000000
set_option maxRecDepth 100000
namespace Go.Proofs.YtmbgljjfmbhelaaGreat
open Lib (hid)
open Go.RowKit
structure QC (w : World) (KM : Nat) (po : Option Addr) (pn pc : Nat) (P : List Term) (K : Nat) (so : Option Addr) (n cap : Nat) (X : List (List Value)) (ps : List (List Term)) (V : World) : Prop where
 pw : Pw w.heap.size KM V po pn pc P
 pl : Pile w.heap.size K V so n cap X ps
 off : Off X (blk po)
 bw : Below w.heap.size w V
section
variable {w : World} {KM : Nat} {po : Option Addr} {pn pc : Nat} {P : List Term} {K : Nat} {so : Option Addr} {n cap : Nat} {X : List (List Value)} {ps : List (List Term)} {V V' : World}
theorem QC.below (h : QC w KM po pn pc P K so n cap X ps V) (hb : Below V.heap.size V V') : QC w KM po pn pc P K so n cap X ps V' :=
 ⟨h.pw.below hb, h.pl.below hb, h.off, h.bw.trans (hb.mono h.bw.size)⟩
theorem QC.apart (h : QC w KM po pn pc P K so n cap X ps V) : ∀ r, blk so = some r → blk po ≠ some r := fun r hr e => by
 obtain ⟨L, hL⟩ := h.pw.at1 r e
 rcases h.pl.row.parts with ⟨h2, _⟩ | ⟨g', cur, h2, _, _, _, hh⟩
 ·rw [h2] at hr; cases hr
 ·rw [h2] at hr
  have e' : g' = r := Option.some.inj hr
  subst e'
  unfold AtN at hL
  rw [hh] at hL
  cases hL
theorem QC.farP (h : QC w KM po pn pc P K so n cap X ps V) (hG : V.grownBy V' (blk so)) : Pw w.heap.size KM V' po pn pc P := h.pw.stepG hG h.pl.noInt h.apart
theorem QC.taken (h : QC w KM po pn pc P K so n cap X ps V) (hG : V.grownBy V' (blk so)) (hB : Below w.heap.size V V') {X' : List (List Value)} {ps' : List (List Term)} (hP : Pile w.heap.size K V' so n cap X' ps') (hl : ∀ vs ∈ X', ∀ g, blkV vs = some g → ∃ v0 ∈ X, blkV v0 = some g) : QC w KM po pn pc P K so n cap X' ps' V' :=
 ⟨h.farP hG, hP, fun g hg v hv e => by obtain ⟨v0, h0, e0⟩ := hl v hv g e; exact h.off g hg v0 h0 e0, h.bw.trans hB⟩
theorem QC.falls (h : QC w KM po pn pc P K so n cap X ps V) : ∀ p ∈ ps, fall p := fun p hp => by
 obtain ⟨i, hi, rfl⟩ := List.mem_iff_getElem.1 hp
 obtain ⟨_, _, _, _, _, _, _, _, _, h⟩ := h.pl.get (k := i) (by rw [← h.pl.len.2]; exact hi)
 rwa [getD_of [] hi] at h
theorem QC.lts (h : QC w KM po pn pc P K so n cap X ps V) : (∀ v ∈ X, ∀ g, blkV v = some g → g < V.heap.size) ∧ ∀ g, blk po = some g → g < V.heap.size := ⟨lt_mem h.pl.mem, fun g hg => (h.pw.lt g hg).2⟩
theorem QC.box (h : QC w KM po pn pc P K so n cap X ps V) {b : Nat} {L : List Value} (hA : AtN V b L 53) (hc : Clean L) (hl : (∀ v ∈ X, ∀ g, blkV v = some g → g < b) ∧ ∀ g, blk po = some g → g < b) (hwb : w.heap.size ≤ b) (hG : V.grownBy V' (some b)) : QC w KM po pn pc P K so n cap X ps V' :=
 ⟨h.pw.stepG hG (fun r e => by cases e; exact (hA.cleanB hc).noInt) (fun r e e2 => by cases e; have := hl.2 _ e2; omega), h.pl.far hA (hA.cleanB hc).noInt (fun g e v hv e2 => by cases e; have := hl.1 v hv _ e2; omega) hG, h.off, h.bw.grown hG h.bw.size (fun r e => by cases e; exact hwb)⟩
theorem Pile.stepG {B : Nat} {row : Option Nat} (h : Pile B K V so n cap X ps) (hG : V.grownBy V' row) (hn : ∀ r, row = some r → NoInt V r) (ho : Off X row) (hs : ∀ r, row = some r → blk so ≠ some r) : Pile B K V' so n cap X ps :=
 ⟨h.row.keep fun a ha => hG.block a.block (by rcases h.row.parts with ⟨h1, _⟩ | ⟨g', cur, h1, _, hlt, _⟩ <;> rw [h1] at ha <;> cases ha; exact hlt) (fun e => hs a.block e.symm (by rw [ha]; rfl)), zz138 hG hn h.mem ho, h.apart⟩
theorem QC.pushed (h : QC w KM po pn pc P K so n cap X ps V) {ro : Option Addr} {rc : Nat} {P' : List Term} (h1 : Pw w.heap.size KM V' ro (pn + 1) rc P') (h2 : V.grownBy V' (blk po)) (h3 : blk ro = blk po ∨ ∀ g', blk ro = some g' → V.heap.size ≤ g') : QC w KM ro (pn + 1) rc P' K so n cap X ps V' := by
 refine ⟨h1, h.pl.stepG h2 h.pw.noInt h.off (fun r e e2 => h.apart r e2 e), fun g hg v hv e => ?_, h.bw.grown h2 h.bw.size (fun r e => (h.pw.lt r e).1)⟩
 rcases h3 with h3 | h3
 ·exact h.off g (h3 ▸ hg) v hv e
 ·have := h3 g hg
  have := h.lts.1 v hv g e
  omega
theorem QC.newRow (h : QC w KM po pn pc P K so n cap X ps V) {Kr : Nat} {ro : Option Addr} {rn rc : Nat} {r : List Term} (hX : Pw V.heap.size Kr V' ro rn rc r) {b : Nat} (hb : b < V.heap.size) : Off X (blk ro) ∧ ∀ g, blk ro = some g → blk po ≠ some g ∧ g ≠ b := by
 refine ⟨fun g hg v hv e => ?_, fun g hg => ⟨fun e => ?_, fun e => ?_⟩⟩ <;> have h1 := (hX.lt g hg).1
 ·have := h.lts.1 v hv g e
  omega
 ·have := h.lts.2 g e
  omega
 ·omega
theorem QC.offP (h : QC w KM po pn pc P K so n cap X ps V) {b : Nat} (hl : ∀ v ∈ X, ∀ g, blkV v = some g → g < b) : OffP X (fun g => blk po = some g ∨ g = b) := fun g hg v hv e => by
 rcases hg with hg | hg
 ·exact h.off g hg v hv e
 ·have := hl v hv g e
  omega
theorem QC.rowNe (h : QC w KM po pn pc P K so n cap X ps V) {b : Nat} {L : List Value} (hA : AtN V b L 53) : ∀ g, g = b → blk so ≠ some g := fun g hg e => by
 subst hg
 rcases h.pl.row.parts with ⟨h2, _⟩ | ⟨g', cur, h2, _, _, _, hh⟩
 ·rw [h2] at e; cases e
 ·rw [h2] at e
  have e' : g' = g := Option.some.inj e
  subst e'
  unfold AtN at hA
  rw [hh] at hA
  cases hA
theorem Pc.tailE {K b off cap m : Nat} {w : World} {t : Term} {r : List Term} (h : Pc K w (some ⟨b, off, none⟩) (m + 1) cap (t :: r)) (hc : cap = 1) : Pc K w (some ⟨b, off, none⟩) m (cap - 1) r := by
 obtain ⟨vss, hG, hT⟩ := h.ex; have hl := hG.le
 cases vss with
 | nil => exact hT.elim
 | cons v vss =>
  have := hG.dropEq 1 (by omega) (by omega)
  exact ⟨vss, by simpa using this, hT.2⟩
theorem Pc.tailN {K b off cap m : Nat} {w : World} {t : Term} {r : List Term} (h : Pc K w (some ⟨b, off, none⟩) (m + 1) cap (t :: r)) (hc : cap ≠ 1) : Pc K w (some ⟨b, off + 3, none⟩) m (cap - 1) r := by
 obtain ⟨vss, hG, hT⟩ := h.ex
 cases vss with
 | nil => exact hT.elim
 | cons v vss =>
  have := hG.dropNe 1 (by omega) hc
  exact ⟨vss, by simpa using this, hT.2⟩
end
theorem step_facts {c c' : Int} {M ms room : List (Int × Int)} {q0 : Term} {qr R R' : List Term} {ps' : List (List Term)} {k : Nat} (hf : (c, M).1.tmod q0.1 = 0 ∧ ((c', ms), true).1.1 = (c, M).1.tdiv q0.1 ∧ mayM 0 ((c', ms), true).1.2 = true ∧ mulM q0.2 ((c', ms), true).1.2 = (c, M).2 ∧ ∀ v, expo ((c', ms), true).1.2 v ≤ expo room v)
  (hx : partT (c, M) q0 room = ((c', ms), true) ∧ R = (c, M) :: R' ∧ fall R' ∧ ∀ ρ, ev R' ρ = evs ps' ρ) (hq : fall (q0 :: qr)) (hfit : ∀ x, mayM 0 x = true → (∀ v, expo x v ≤ expo room v) → ∀ s ∈ q0 :: qr, mayM 0 (mulM s.2 x) = true) (hb : Bd c k) (hc0 : c ≠ 0) :
  Bd c' k ∧ (partT (c, M) q0 room = ((c', ms), true) ∧ R = (c, M) :: R' ∧ fall R' ∧ ∀ ρ, ev R' ρ = evs ps' ρ) ∧ (fall (rowT qr (-c', ms)) ∧ (∀ ρ, ev (rowT qr (-c', ms)) ρ = ev qr ρ * (-c' * evM ms ρ)) ∧ (rowT qr (-c', ms)).length = qr.length) ∧ ∀ s ∈ qr, joinR (fun x y => x + y) 8 s.2 ms = (mulM s.2 ms, 0) := by
 obtain ⟨h1, h2, h3, h4, h5⟩ := hf
 dsimp only at h1 h2 h3 h4 h5
 have hm := fun s (hs : s ∈ qr) => hfit ms h3 h5 s (by simp [hs])
 have hn : -c' ≠ 0 := fun e => by
  have h6 := Int.mul_tdiv_cancel_of_tmod_eq_zero h1; rw [← h2] at h6
  have : c' = 0 := by omega
  rw [this] at h6
  simp at h6
  exact hc0 h6.symm
 exact ⟨by rw [h2]; exact hb.tdiv, hx, zz163 (t := (-c', ms)) hn h3 hq.2.2.2 hm, fun s hs => zz86 (zz58 hq s (by simp [hs])) h3 (hm s hs)⟩
structure QP (F Kq m KM LM : Nat) (q0 : Term) (qr : List Term) (room : List (Int × Int)) (res : List Term × Bool) (fu pn n K : Nat) (P R : List Term) (ps : List (List Term)) : Prop where
 fr : fall R
 ev : ∀ ρ, ev R ρ = evs ps ρ
 dv : divT q0 qr room fu R P = some res
 pf : pn + fu ≤ F
 nf : n + fu ≤ F + 1
 kf : K + n + fu * (Kq + F + 3) ≤ KM
 lf : lens ps + fu * m ≤ LM
section
variable {F Kq m KM LM : Nat} {q0 : Term} {qr : List Term} {room : List (Int × Int)} {res : List Term × Bool} {fu pn n K : Nat} {P R : List Term} {ps : List (List Term)}
theorem QP.fin (h : QP F Kq m KM LM q0 qr room res fu pn n K P R ps) (h0 : ∀ p ∈ ps, p = []) : res = (P, true) := by
 have hR := rest_nil h.fr h0 h.ev; have hd := h.dv; rw [hR] at hd
 cases fu with
 | zero => simp [divT] at hd
 | succ f => simpa [divT] using hd.symm
theorem QP.same (h : QP F Kq m KM LM q0 qr room res fu pn n K P R ps) {c : Int} {ps' : List (List Term)} (he : c = 0 → ∀ ρ, Go.Proofs.YtmbgljjfmbhelaaGreat.ev R ρ = evs ps' ρ) (hc : c = 0) (hl : lens ps' < lens ps) : QP F Kq m KM LM q0 qr room res fu pn n K P R ps' :=
 { h with ev := he hc, lf := by have := h.lf; omega }
theorem QP.none {f : Nat} (h : QP F Kq m KM LM q0 qr room res (f + 1) pn n K P R ps) {a : Term} {x : Term} {R' : List Term} (hx : partT a q0 room = (x, false)) (hR : R = a :: R') : res = ([], false) := by
 have hd := h.dv; rw [hR] at hd
 simp only [divT, hx] at hd
 simpa using hd.symm
theorem QP.next {f : Nat} (h : QP F Kq m KM LM q0 qr room res (f + 1) pn n K P R ps) {c c' : Int} {M ms : List (Int × Int)} {R' : List Term} {ps' ps3 : List (List Term)} {K3 n3 : Nat} (hx : partT (c, M) q0 room = ((c', ms), true) ∧ R = (c, M) :: R' ∧ fall R' ∧ ∀ ρ, Go.Proofs.YtmbgljjfmbhelaaGreat.ev R' ρ = evs ps' ρ) (hrow : fall (rowT qr (-c', ms))) (hw2 : K3 + n3 ≤ Kq + (K + n) + n + 1) (hw3 : n3 ≤ n + 1)
  (hw4 : ∀ ρ, evs ps3 ρ = evs ps' ρ + Go.Proofs.YtmbgljjfmbhelaaGreat.ev (rowT qr (-c', ms)) ρ) (hw5 : lens ps3 ≤ lens ps' + qr.length) (hl : lens ps' < lens ps) (hm : qr.length = m) : QP F Kq m KM LM q0 qr room res f (pn + 1) n3 K3 (P ++ [(c', ms)]) (addT R' (rowT qr (-c', ms))) ps3 := by
 obtain ⟨h1, h2, h3, h4⟩ := hx; have hs := zz3 h3 (zz59 hrow); have hd := h.dv; rw [h2] at hd
 simp only [divT, h1] at hd
 have hnf := h.nf; have hkf := h.kf; have hlf := h.lf; rw [Nat.add_mul, Nat.one_mul] at hkf hlf
 exact ⟨hs.1, fun ρ => by rw [hs.2, hw4, h4], by simpa using hd, by have := h.pf; omega, by omega, by omega, by omega⟩
end
def QI (w : World) (F Kq m KM LM : Nat) (q0 : Term) (qr : List Term) (room : List (Int × Int)) (res : List Term × Bool) (s8 s9 : Value) (V : World) (k : Nat) : Prop :=
 ∃ fu po pn pc P so n cap X ps K R, s8 = .slice po pn pc ∧ s9 = .slice so n cap ∧ k = fu * 2000000 + lens ps ∧ QC w KM po pn pc P K so n cap X ps V ∧ QP F Kq m KM LM q0 qr room res fu pn n K P R ps
theorem QI.start {w w0 : World} {F Kp Kq m KM LM : Nat} {q0 : Term} {qr : List Term} {room : List (Int × Int)} {res : List Term × Bool} {co : Option Addr} {kn kc n : Nat} {p : List Term} {T : TypeId} (h : Pw w.heap.size Kp w0 co kn kc p) (hB : Below w.heap.size w w0) (hf : fall p) (hd : divT q0 qr room F p [] = some res) (hKM : Kp + 1 + F * (Kq + F + 3) = KM) (hLM : n + F * m = LM) (hn : p.length = n) (hT : T = 23) :
  QI w F Kq m KM LM q0 qr room res (.slice none 0 0) (.slice (some ⟨w0.heap.size, 0, none⟩) 1 1) (w0.alloc (.cells #[.slice co kn kc] T)) (F * 2000000 + lens [p]) := by
 subst hT; have hb := zz13 w0 (.cells #[.slice co kn kc] 23)
 have hA : AtN (w0.alloc (.cells #[.slice co kn kc] 23)) w0.heap.size [.slice co kn kc] 23 := AtN.new w0 [.slice co kn kc] _
 have hG : Go1 w.heap.size 23 1 (w0.alloc (.cells #[.slice co kn kc] 23)) (some ⟨w0.heap.size, 0, none⟩) 1 1 [[.slice co kn kc]] :=
  ⟨⟨rfl, .inr ⟨w0.heap.size, 1, #[.slice co kn kc], rfl, hB.size, hA, Nat.le_refl _, by unfold maxLen; omega, rfl, rfl⟩⟩, rfl, by omega, Each.mk1 rfl (fun v hv => by simp at hv; subst hv; rfl), fun g hg => by simp only [Value.ownBlock, Option.some.injEq] at hg; subst hg; exact hA.cleanB (clean1 _ _ _)⟩
 refine ⟨F, none, 0, 0, [], some ⟨w0.heap.size, 0, none⟩, 1, 1, [[.slice co kn kc]], [p], Kp, p, rfl, rfl, rfl, ⟨Pw.zero _ _ _, ⟨hG, ⟨⟨co, kn, kc, rfl, h.below hb, hf⟩, trivial⟩, List.pairwise_singleton _ _⟩, (fun g hg => by cases hg), hB.alloc hB.size _⟩, ⟨hf, fun ρ => by simp [evs], hd, by omega, by omega, by omega, by simp only [lens]; omega⟩⟩
def QuotOk (KM : Nat) (w : World) (res : List Term × Bool) (e : Ending) (V : World) : Prop := ∃ ro rn rc, e = .returned (.tuple #[.slice ro rn rc, .bool res.2]) ∧ Pw w.heap.size KM V ro rn rc res.1 ∧ Below w.heap.size w V
theorem quot_any {Kp Kq F m KM LM : Nat} {ao : Option Addr} {n cap : Nat} {qb qf cq : Nat} {p : List Term} {q0 : Term} {qr : List Term} {ro : Option Addr} {rn rc : Nat} {room : List (Int × Int)} {res : List Term × Bool} {w : World} (hp : Pc Kp w ao n cap p) (hq : Pc Kq w (some ⟨qb, qf, none⟩) (m + 1) cq (q0 :: qr)) (hr : Ml w ro rn rc room) (hfp : fall p) (hfq : fall (q0 :: qr)) (hroom : mayM 0 room = true)
  (hfit : ∀ x, mayM 0 x = true → (∀ v, expo x v ≤ expo room v) → ∀ s ∈ q0 :: qr, mayM 0 (mulM s.2 x) = true) (hd : divT q0 qr room F p [] = some res) (hKM : Kp + 1 + F * (Kq + F + 3) = KM) (hKM2 : KM ≤ 800000) (hLM : n + F * m = LM) (hLM2 : LM ≤ 1000000) (hF : F ≤ 1000) :
  Calls Tryz.prog 102 #[.slice ao n cap, .slice (some ⟨qb, qf, none⟩) (m + 1) cq, .slice ro rn rc] w (QuotOk KM w res) := by
 obtain ⟨i1, hi1, hy0, hy1, hy2⟩ := info_parts Tryz.info_poly; have HQ := hid hq; have HR := hid hr; have FQ := hid hfq; have HFT := hid (And.intro hroom hfit)
 have HCN : Hid (True ∧ KM ≤ 800000 ∧ LM ≤ 1000000 ∧ F ≤ 1000) := ⟨trivial, hKM2, hLM2, hF⟩
 have HI : Hid (Pc Kp w ao n cap p ∧ fall p ∧ divT q0 qr room F p [] = some res ∧ Kp + 1 + F * (Kq + F + 3) = KM ∧ n + F * m = LM) := ⟨hp, hfp, hd, hKM, hLM⟩
 have hn6 : n ≤ 1000000 := by omega
 clear hp hq hr hfp hfq hroom hfit hd hKM hKM2 hLM hLM2 hF
 go_enter Tryz.func102, Tryz.ntmps102
 go_wp2_with fail; refine (clonePoly_any HI.out.1 hn6).mono ?_
 rintro e w0 ⟨co, kn, kc, rfl, h1, hB⟩; have HN := hid (And.intro h1 hB); clear h1 hB
 go_upto_region 3 with (fail)
 refine zz232 (fun W hW => ?_)
 have HST : Hid (QI w F Kq m KM LM q0 qr room res (.slice none 0 0) (.slice (some ⟨w0.heap.size, 0, none⟩) 1 1) W (F * 2000000 + lens [p])) := by
  rw [hW]
  exact QI.start HN.out.1 HN.out.2 HI.out.2.1 HI.out.2.2.1 HI.out.2.2.2.1 HI.out.2.2.2.2 HI.out.1.len rfl
 clear hW HN HI
 go_loopw [8, 9] (fun s8 s9 wr => ∃ k, QI w F Kq m KM LM q0 qr room res s8 s9 wr k) (fun s8 s9 wr => leastN (QI w F Kq m KM LM q0 qr room res s8 s9 wr))
 case atStart => exact ⟨_, HST.out⟩
 case round =>
  clear HST; obtain ⟨k1, hk1⟩ := hrel; have hL := zz97 hk1; obtain ⟨fu, po, pn, pc, P, so, n2, cap2, X, ps, K1, R, rfl, rfl, he, hC, hP⟩ := hL.1; clear hL hk1; have HC := hid hC; have HP := hid hP; have HE := hid he; clear hC hP he
  have HTK := hid (take_any HC.out.pl (by have := HP.out.kf; have := HCN.out.2.1; omega) HC.out.bw.size)
  go_wp2_with fail
  refine HTK.out.mono ?_
  rintro e w1 ⟨hB, hG, lm, la, ln, lc, mo, mn, mc, f, rfl, hcase⟩; clear HTK
  rcases hcase with ⟨rfl, h0⟩ | ⟨rfl, c, M, X', ps', hC, hBd, hMl, hmay, hPl, hev, hlt, hln, hmem, hlx⟩
  ·have HPW := hid (HC.out.farP hG)
   have HBW := hid (HC.out.bw.trans hB); have HRS := hid (HP.out.fin h0); clear hG hB h0 HC HP; go_wp2_with fail
   go_ret2
   refine ⟨po, pn, pc, ?_, by rw [HRS.out]; exact HPW.out.below (zz13 _ _), HBW.out.trans ((zz13 _ _).mono HBW.out.size)⟩
   rw [HRS.out]
   rfl
  ·have HC1 : Hid (QC w KM po pn pc P K1 so n2 cap2 X' ps' w1) := HC.out.taken hG hB hPl hlx
   have HT1 : Hid (Cn w1 lm la ln lc c ∧ Ml w1 mo mn mc M) := ⟨hC, hMl⟩
   have HV := hid (And.intro hBd (And.intro hmay (And.intro hev (And.intro hlt (And.intro hln hmem))))); clear hC hBd hMl hmay hPl hev hlt hln hmem hlx hG hB HC
   go_upto_region 4 with (fail)
   refine zz232 (fun W hW => ?_)
   obtain ⟨a1, hB⟩ := box1 w1 [.bool lm, .slice la ln lc, .slice mo mn mc] 53; obtain ⟨b10, hb10⟩ : ∃ b, b = w1.heap.size := ⟨_, rfl⟩; rw [← hW, ← hb10] at a1; rw [← hW] at hB; rw [← hb10]
   have hbw : w.heap.size ≤ b10 := by rw [hb10]; exact HC1.out.bw.size
   have HA := hid a1; have HC2 := hid (HC1.out.below hB)
   have HT2 : Hid (Cn W lm la ln lc c ∧ Ml W mo mn mc M) := ⟨HT1.out.1.below hB, HT1.out.2.below hB⟩
   clear hW a1 hB HC1 HT1 hb10; obtain ⟨s, hs⟩ : ∃ s, c.sign = s := ⟨_, rfl⟩; obtain ⟨Z, hZ⟩ : ∃ Z, (s == 0) = Z := ⟨_, rfl⟩; obtain ⟨c0, c1, c2⟩ := HA.out.c3
   have hkk : K1 + n2 ≤ 1000000 := by have := HP.out.kf; have := HCN.out.2.1; omega
   go_wp2_with fail; refine (zz234 s (HT2.out.1.cx HV.out.1 hkk).nx hs).mono ?_
   rintro e w3 ⟨rfl, hB⟩; clear c0 c1 c2; have HC3 := hid (HC2.out.below hB); have HA3 := hid (HA.out.below hB)
   have HT3 : Hid (Cn w3 lm la ln lc c ∧ Ml w3 mo mn mc M) := ⟨HT2.out.1.below hB, HT2.out.2.below hB⟩
   clear hB HC2 HA HT2
   have hrl := rest_lead HP.out.fr HC3.out.falls HV.out.2.1 HV.out.2.2.2.1 (fun ρ => by rw [HP.out.ev, HV.out.2.2.1])
   cases Z with
   | true =>
    have hc0 : c = 0 := Int.sign_eq_zero_iff_zero.1 (by rw [hs]; simpa using hZ)
    have HP2 := hid (HP.out.same hrl.1 hc0 HV.out.2.2.2.2.1); clear hrl; go_wp2_with fail
    go_roundw
    case rel => exact ⟨_, fu, po, pn, pc, P, so, n2, cap2, X', ps', K1, R, rfl, rfl, rfl, HC3.out, HP2.out⟩
    case measure => exact Nat.lt_of_le_of_lt ((zz97 (P := QI w F Kq m KM LM q0 qr room res _ _ w3) ⟨fu, po, pn, pc, P, so, n2, cap2, X', ps', K1, R, rfl, rfl, rfl, HC3.out, HP2.out⟩).2 _ ⟨fu, po, pn, pc, P, so, n2, cap2, X', ps', K1, R, rfl, rfl, rfl, HC3.out, HP2.out⟩) (by rw [HE.out]; have := HV.out.2.2.2.2.1; omega)
   | false =>
    go_upto_region 7 with (fail)
    have hc0 : c ≠ 0 := fun e => by rw [e] at hs; rw [← hs] at hZ; simp at hZ
    obtain ⟨R', hR, hfR, hevR⟩ := hrl.2 hc0
    obtain ⟨f, rfl⟩ : ∃ f, fu = f + 1 := by cases fu with | zero => have := HP.out.dv; simp [divT] at this | succ f => exact ⟨f, rfl⟩
    obtain ⟨qb', qf', xm, xa, xn, xc, xp, xq, xr, hbo, hbl, hcq, hqC, hqB, hqM⟩ := HQ.out.at (k := 0) (by omega)
    cases hbo
    rw [Nat.zero_mul, Nat.add_zero] at hcq
    have hqC : Cn w xm xa xn xc q0.1 := hqC
    have hqB : Bd q0.1 Kq := hqB
    have hqM : Ml w xp xq xr q0.2 := hqM
    have HCQ := hid hcq; have HQ0 := hid (And.intro hqC (And.intro hqB hqM))
    have HQL : Hid (qr.length = m) := by have := HQ.out.len; simp at this; exact this
    obtain ⟨⟨c', er⟩, hex⟩ : ∃ x, exactT c q0.1 = x := ⟨_, rfl⟩
    obtain ⟨⟨ms, fo⟩, hov⟩ : ∃ x, joinR (fun x y => x - y) 5 M q0.2 = x := ⟨_, rfl⟩
    obtain ⟨⟨rs, go⟩, hpt⟩ : ∃ x, joinR (fun x y => x - y) 5 room ms = x := ⟨_, rfl⟩
    obtain ⟨E, hE⟩ : ∃ E, (er == 0) = E := ⟨_, rfl⟩; obtain ⟨Fl, hF⟩ : ∃ E, (fo == 0) = E := ⟨_, rfl⟩; obtain ⟨G, hG⟩ : ∃ E, (go == 0) = E := ⟨_, rfl⟩; obtain ⟨ok, hok⟩ : ∃ z, (E && Fl && G) = z := ⟨_, rfl⟩
    have hpart : partT (c, M) q0 room = ((c', ms), ok) := by unfold partT; simp only [hex, hov, hpt, hE, hF, hG, hok]
    have hq1 : q0.1 ≠ 0 := FQ.out.1
    have HPA := hid (And.intro hpart (And.intro hR (And.intro hfR hevR))); have HEQ := hid (And.intro (And.intro hq1 hex) (And.intro hov (And.intro hpt (And.intro hE (And.intro hF hG))))); have HOK := hid hok; have HC0 := hid hc0; clear hrl hR hfR hevR hcq hqC hqB hqM hex hov hpt hE hF hG hpart hq1 hok hc0 hZ hs
    refine wp_region_held_drew (S := (fun w' => (w'.cell? ⟨b10, 0, none⟩ = some (.bool lm) ∧ w'.cell? ⟨b10, 1, none⟩ = some (.slice la ln lc) ∧ w'.cell? ⟨b10, 2, none⟩ = some (.slice mo mn mc)) ∧ w'.cell? ⟨qb, qf, none⟩ = some (.bool xm) ∧ w'.cell? ⟨qb, qf + 1, none⟩ = some (.slice xa xn xc) ∧ w'.cell? ⟨qb, qf + 2, none⟩ = some (.slice xp xq xr))) (by kernel_rfl) ⟨HA3.out.c3, HCQ.out _ HC3.out.bw.drew⟩ (fun hH => ?_)
    refine zz9 (fun w4 hW => ?_)
    have dr := (Below.refl w3.heap.size w3).drew
    have HC4 : Hid (QC w KM po pn pc P K1 so n2 cap2 X' ps' w4) := by rw [hW]; exact HC3.out.below dr
    have HA4 : Hid (AtN w4 b10 [.bool lm, .slice la ln lc, .slice mo mn mc] 53) := by rw [hW]; exact HA3.out.below dr
    have HT4 : Hid (Cn w4 lm la ln lc c ∧ Ml w4 mo mn mc M) := by rw [hW]; exact ⟨HT3.out.1.below dr, HT3.out.2.below dr⟩
    rw [← hW] at hH; clear HC3 HA3 HT3 dr
    clear hW
    refine son 0 hH ?_; try simp only [nrm]
    refine son 1 hH ?_; try simp only [nrm]
    refine son 2 hH ?_; try simp only [nrm]
    refine son 3 hH ?_; try simp only [nrm]
    refine son 4 hH ?_; try simp only [nrm]
    refine wpAnyH_ready (rs := [5, 9]) (by kernel_rfl) (by simp) (zz154 rfl (fun KK hK => ?_) (zz154 rfl (fun KK hK => ?_) (AllReadyH.nil)))
    ·have hpc := part_any (w := w4) ⟨(HT4.out.1.cx HV.out.1 hkk).nx, HT4.out.2⟩ ⟨((HQ0.out.1.below HC4.out.bw).cx HQ0.out.2.1 (by have := HP.out.kf; have := HCN.out.2.1; rw [Nat.add_mul, Nat.one_mul] at *; omega)).nx, HQ0.out.2.2.below HC4.out.bw⟩ (HR.out.below HC4.out.bw) HEQ.out.1 HEQ.out.2.1 HEQ.out.2.2.1 HEQ.out.2.2.2.1 HEQ.out.2.2.2.2.1 HEQ.out.2.2.2.2.2
     rw [HOK.out] at hpc; have HPT := hid hpc
     clear hpc; go_simp; refine (HPT.out).mono ?_; rintro e w5 ⟨cm, ca, cn, cc, ma, mn2, mc2, rfl, hX, hM, hB⟩; have HC5 := hid (HC4.out.below hB); have HA5 := hid (HA4.out.below hB)
     have HN5 : Hid (Cn w5 cm ca cn cc c' ∧ Ml w5 ma mn2 mc2 ms) := ⟨hX, hM⟩
     clear hX hM hB HC4 HA4 HPT HT4; go_wp2_with fail
     clear hH; refine hK.out _ _ ⟨HA5.out.c3, HCQ.out _ HC5.out.bw⟩ fun hH => ?_; clear hK KK
     try simp only [nrm]
     refine son 6 hH ?_; try simp only [nrm]
     refine son 7 hH ?_; try simp only [nrm]
     refine son 8 hH ?_; try simp only [nrm]
     refine zz176 9 rfl (by kernel_rfl) (fun KK hK => ?_)
     go_simp
     clear hH; refine hK.out _ _ ⟨(HA5.out.below (zz13 _ _)).c3, HCQ.out _ (HC5.out.bw.trans ((zz13 _ _).mono HC5.out.bw.size))⟩ fun hH => ?_; clear hK KK
     try simp only [nrm]
     obtain ⟨b12, hb12⟩ : ∃ b, b = w5.heap.size := ⟨_, rfl⟩
     refine zz9 (fun w6 hW => ?_)
     have hb6 : Below w5.heap.size w5 w6 := by rw [hW]; exact zz13 _ _
     have HX6 : Hid (AtN w6 b12 [.bool false, .slice none 0 0, .slice none 0 0] 53) := by rw [hW, hb12]; exact AtN.new w5 [.bool false, .slice none 0 0, .slice none 0 0] 53
     have HC6 := hid (HC5.out.below hb6); have HA6 := hid (HA5.out.below hb6)
     have HN6 : Hid (Cn w6 cm ca cn cc c' ∧ Ml w6 ma mn2 mc2 ms) := ⟨HN5.out.1.below hb6, HN5.out.2.below hb6⟩
     have HLB : Hid ((∀ v ∈ X', ∀ g, blkV v = some g → g < b12) ∧ (∀ g, blk po = some g → g < b12) ∧ w.heap.size ≤ b12 ∧ b10 < b12) := by rw [hb12]; exact ⟨HC5.out.lts.1, HC5.out.lts.2, HC5.out.bw.size, HA5.out.lt⟩
     rw [← hW] at hH; clear HC5 HA5 hb6 HN5
     rw [← hb12]; clear hb12
     clear hW
     refine zz176 10 rfl (by kernel_rfl) (fun KK hK => ?_)
     obtain ⟨d0, d1, d2⟩ := HX6.out.c3; obtain ⟨f0, f1, f2⟩ := HX6.out.f3; go_simp; clear d0 d1 d2 f0 f1 f2
     clear hH; refine hK.out _ _ ⟨AtN.c3 (T := 53) (HA6.out.keep (zz149 (Nat.ne_of_lt HLB.out.2.2.2) _ _ _)), HCQ.out _ (HC6.out.bw.trans (zz14 (zz78 _ _ 0 _ _ _) HLB.out.2.2.1 HC6.out.bw.size))⟩ fun hH => ?_; clear hK KK
     try simp only [nrm]
     refine zz9 (fun V7 hW => ?_)
     have hg7 : w6.grownBy V7 (some b12) := by rw [hW]; exact zz78 _ _ 0 _ _ _
     have hn7 : ∀ r, some b12 = some r → NoInt w6 r := fun r e => by cases e; exact (HX6.out.cleanB (clean3 _ _ _ _ _ _ _)).noInt
     have HX7 : Hid (AtN V7 b12 [.bool cm, .slice ca cn cc, .slice ma mn2 mc2] 53) := by rw [hW]; exact ((HX6.out.set 0 _).set 1 _).set 2 _
     have HC7 := hid (HC6.out.box HX6.out (clean3 _ _ _ _ _ _ _) ⟨HLB.out.1, HLB.out.2.1⟩ HLB.out.2.2.1 hg7)
     have HN7 : Hid (Cn V7 cm ca cn cc c' ∧ Ml V7 ma mn2 mc2 ms) := ⟨HN6.out.1.stepG hg7 hn7, HN6.out.2.stepG hg7 hn7⟩
     rw [← hW] at hH; clear hg7 hn7 HX6 HC6 HA6 HN6
     clear hW
     refine son 11 hH ?_; try simp only [nrm]
     refine wpAnyH_done (by kernel_rfl) ?_ _
     clear hH
     cases ok with
     | false =>
      have HRS := hid (HP.out.none HPA.out.1 HPA.out.2.1); go_wp2_with fail
      go_ret2
      refine ⟨none, 0, 0, ?_, by rw [HRS.out]; exact Pw.zero _ _ _, HC7.out.bw⟩
      rw [HRS.out]
      rfl
     | true =>
      have hpf := part_fits (a := (c, M)) (b := q0) HV.out.2.1 FQ.out.2.1 HFT.out.1 (by rw [HPA.out.1])
      rw [HPA.out.1] at hpf; have HFF := hid (step_facts hpf HPA.out FQ.out HFT.out.2 HV.out.1 HC0.out)
      clear hpf
      obtain ⟨v8, W8, hr8, hps⟩ := zz148 (t := (c', ms)) HC7.out.pw HC7.out.bw.size (by have := HP.out.pf; have := HCN.out.2.2.2; omega) HN7.out.1 (HFF.out.1.mono (by have := HP.out.kf; omega)) HN7.out.2 53 23
      obtain ⟨c0, c1, c2⟩ := HX7.out.c3; have HPU := hid hps; clear hps
      go_wp2_with (at_builtin; refine zz224 rfl (.tmp 40) (.tmp 42) 23 23 rfl _ _ rfl rfl hr8 ?_)
      clear c0 c1 c2 hr8; obtain ⟨po8, pc8, rfl, hp1, hp2, hp3⟩ := HPU.out
      have HC8 : Hid (QC w KM po8 (pn + 1) pc8 (P ++ [(c', ms)]) K1 so n2 cap2 X' ps' W8) := HC7.out.pushed hp1 hp2 hp3
      have HA8 : Hid (AtN W8 b12 [.bool cm, .slice ca cn cc, .slice ma mn2 mc2] 53) := HX7.out.stepG hp2 (fun r e e2 => by have := HLB.out.2.1 r e; omega)
      have HN8 : Hid (Cn W8 cm ca cn cc c' ∧ Ml W8 ma mn2 mc2 ms) := ⟨HN7.out.1.stepG hp2 HC7.out.pw.noInt, HN7.out.2.stepG hp2 HC7.out.pw.noInt⟩
      clear hp1 hp2 hp3 HPU HC7 HX7 HN7
      by_cases hc1 : cq = 1
      ·have HQT := hid (HQ.out.tailE hc1)
       have hm1 : (1 : Int) ≤ (m : Int) + 1 := by omega
       have hc2 : (cq = 1) = True := eq_true hc1
       clear hc1
       refine wp_region_held_drew (S := (fun w' => w'.cell? ⟨b12, 0, none⟩ = some (.bool cm) ∧ w'.cell? ⟨b12, 1, none⟩ = some (.slice ca cn cc) ∧ w'.cell? ⟨b12, 2, none⟩ = some (.slice ma mn2 mc2))) (by kernel_rfl) HA8.out.c3 (fun hH => ?_)
       refine zz9 (fun w9 hW => ?_)
       have dr := (Below.refl W8.heap.size W8).drew
       have HC9 : Hid (QC w KM po8 (pn + 1) pc8 (P ++ [(c', ms)]) K1 so n2 cap2 X' ps' w9) := by rw [hW]; exact HC8.out.below dr
       have HA9 : Hid (AtN w9 b12 [.bool cm, .slice ca cn cc, .slice ma mn2 mc2] 53) := by rw [hW]; exact HA8.out.below dr
       have HN9 : Hid (Cn w9 cm ca cn cc c' ∧ Ml w9 ma mn2 mc2 ms) := by rw [hW]; exact ⟨HN8.out.1.below dr, HN8.out.2.below dr⟩
       rw [← hW] at hH; clear HC8 HA8 HN8 dr
       clear hW
       refine son 0 hH ?_; try simp only [nrm]
       refine son 1 hH ?_; try simp only [nrm]
       refine son 2 hH ?_; try simp only [nrm]
       refine son 3 hH ?_; try simp only [nrm]
       refine son 4 hH ?_; try simp only [nrm]
       refine son 6 hH ?_; try simp only [nrm]
       refine son 7 hH ?_; try simp only [nrm]
       refine zz176 5 rfl (by kernel_rfl) (fun KK hK => ?_)
       go_simp; refine (zz220 (HN9.out.1.cx HFF.out.1 hkk).nx).mono ?_
       rintro e w10 ⟨nm, na, nn, nc, rfl, hX, hB⟩; have HC10 := hid (HC9.out.below hB); have HA10 := hid (HA9.out.below hB)
       have HN10 : Hid (Cn w10 nm na nn nc (-c') ∧ Ml w10 ma mn2 mc2 ms) := ⟨hX, HN9.out.2.below hB⟩
       clear hX hB HC9 HA9 HN9; go_wp2_with fail
       clear hH; refine hK.out _ _ HA10.out.c3 fun hH => ?_; clear hK KK
       try simp only [nrm]
       refine son 8 hH ?_; try simp only [nrm]
       have HRW := hid (row_any (L := K1 + n2) (t := (-c', ms)) (HQT.out.below HC10.out.bw) (by have h1 := HP.out.lf; have h2 := HCN.out.2.2.1; rw [Nat.add_mul, Nat.one_mul] at h1; omega) (by have h1 := HP.out.kf; have h2 := HCN.out.2.1; rw [Nat.add_mul, Nat.one_mul] at h1; omega) hkk HN10.out.1 HFF.out.1.neg' HN10.out.2 HFF.out.2.2.2)
       refine zz176 9 rfl (by kernel_rfl) (fun KK hK => ?_)
       go_simp; refine (HRW.out).mono ?_
       rintro e w11 ⟨ao9, an9, ac9, rfl, hX, hB⟩; have HC11 := hid (HC10.out.below hB); have HA11 := hid (HA10.out.below hB)
       have HRO : Hid (Pw w.heap.size (Kq + (K1 + n2)) w11 ao9 an9 ac9 (rowT qr (-c', ms))) := hX.mono HC10.out.bw.size (Nat.le_refl _)
       have HOF : Hid (Off X' (blk ao9) ∧ (∀ g, blk ao9 = some g → blk po8 ≠ some g ∧ g ≠ b12)) := HC10.out.newRow hX HA10.out.lt
       clear hX hB HC10 HA10 HN10 HRW; go_wp2_with fail
       clear hH; refine hK.out _ _ HA11.out.c3 fun hH => ?_; clear hK KK
       try simp only [nrm]
       have HWI := hid (with_fr (HC11.out.pl.mono (show K1 ≤ Kq + (K1 + n2) by omega)) HRO.out HFF.out.2.2.1.1 HOF.out.1 (by rw [HFF.out.2.2.1.2.2]; have h1 := HP.out.lf; have h2 := HV.out.2.2.2.2.1; have h3 := HCN.out.2.2.1; have h4 := HQL.out; rw [Nat.add_mul, Nat.one_mul] at h1; omega) (by have h1 := HP.out.kf; have h2 := HP.out.nf; have h3 := HCN.out.2.1; rw [Nat.add_mul, Nat.one_mul] at h1; omega) HC11.out.bw.size (fun g => blk po8 = some g ∨ g = b12) (HC11.out.offP HLB.out.1) (fun g hg e => by rcases hg with hg | hg; exact (HOF.out.2 g e).1 hg; exact (HOF.out.2 g e).2 hg) (fun g hg e => by rcases hg with hg | hg; exact HC11.out.apart g e hg; exact HC11.out.rowNe HA11.out g hg e) (fun g hg => by rcases hg with hg | hg; exact (HC11.out.pw.lt g hg).2; rw [hg]; exact HA11.out.lt))
       refine zz176 10 rfl (by kernel_rfl) (fun KK hK => ?_)
       go_simp; refine (HWI.out).mono ?_
       rintro e w12 ⟨so3, n3, cap3, X3, ps3, K3, rfl, hw1, hw2, hw3, hw4, hw5, hw6, hw7, hw8⟩
       have HC12 : Hid (QC w KM po8 (pn + 1) pc8 (P ++ [(c', ms)]) K3 so3 n3 cap3 X3 ps3 w12) := ⟨HC11.out.pw.fr hw8 (fun g hg => .inl hg), hw1, fun g hg => hw7 g (.inl hg), HC11.out.bw.trans hw6⟩
       have HA12 : Hid (AtN w12 b12 [.bool cm, .slice ca cn cc, .slice ma mn2 mc2] 53) := HA11.out.keep (hw8.row b12 (.inr rfl))
       have HP12 := hid (HP.out.next HFF.out.2.1 HFF.out.2.2.1.1 hw2 hw3 hw4 (by rw [HFF.out.2.2.1.2.2] at hw5; exact hw5) HV.out.2.2.2.2.1 HQL.out)
       have HLT := hid HV.out.2.2.2.2.1
       have HL5 : Hid (lens ps3 ≤ 1000000) := by have := HP12.out.lf; have := HCN.out.2.2.1; exact by rw [Hid]; omega
       clear hw1 hw2 hw3 hw4 hw5 hw6 hw7 hw8 HC11 HA11 HWI HRO HOF; go_wp2_with fail
       clear hH; refine hK.out _ _ HA12.out.c3 fun hH => ?_; clear hK KK
       try simp only [nrm]
       refine son 11 hH ?_; try simp only [nrm]
       refine wpAnyH_done (by kernel_rfl) ?_ _
       go_wp2_with fail
       go_roundw
       case rel => exact ⟨_, f, po8, pn + 1, pc8, _, so3, n3, cap3, X3, ps3, K3, _, rfl, rfl, rfl, HC12.out, HP12.out⟩
       case measure => exact Nat.lt_of_le_of_lt ((zz97 (P := QI w F Kq m KM LM q0 qr room res _ _ w12) ⟨f, po8, pn + 1, pc8, _, so3, n3, cap3, X3, ps3, K3, _, rfl, rfl, rfl, HC12.out, HP12.out⟩).2 _ ⟨f, po8, pn + 1, pc8, _, so3, n3, cap3, X3, ps3, K3, _, rfl, rfl, rfl, HC12.out, HP12.out⟩) (by rw [HE.out]; have := HL5.out; rw [Nat.add_mul]; omega)
      ·have HQT := hid (HQ.out.tailN hc1)
       have hm1 : (1 : Int) ≤ (m : Int) + 1 := by omega
       refine wp_region_held_drew (S := (fun w' => w'.cell? ⟨b12, 0, none⟩ = some (.bool cm) ∧ w'.cell? ⟨b12, 1, none⟩ = some (.slice ca cn cc) ∧ w'.cell? ⟨b12, 2, none⟩ = some (.slice ma mn2 mc2))) (by kernel_rfl) HA8.out.c3 (fun hH => ?_)
       refine zz9 (fun w9 hW => ?_)
       have dr := (Below.refl W8.heap.size W8).drew
       have HC9 : Hid (QC w KM po8 (pn + 1) pc8 (P ++ [(c', ms)]) K1 so n2 cap2 X' ps' w9) := by rw [hW]; exact HC8.out.below dr
       have HA9 : Hid (AtN w9 b12 [.bool cm, .slice ca cn cc, .slice ma mn2 mc2] 53) := by rw [hW]; exact HA8.out.below dr
       have HN9 : Hid (Cn w9 cm ca cn cc c' ∧ Ml w9 ma mn2 mc2 ms) := by rw [hW]; exact ⟨HN8.out.1.below dr, HN8.out.2.below dr⟩
       rw [← hW] at hH; clear HC8 HA8 HN8 dr
       clear hW
       refine son 0 hH ?_; try simp only [nrm]
       refine son 1 hH ?_; try simp only [nrm]
       refine son 2 hH ?_; try simp only [nrm]
       refine son 3 hH ?_; try simp only [nrm]
       refine son 4 hH ?_; try simp only [nrm]
       refine son 6 hH ?_; try simp only [nrm]
       refine son 7 hH ?_; try simp only [nrm]
       refine zz176 5 rfl (by kernel_rfl) (fun KK hK => ?_)
       go_simp; refine (zz220 (HN9.out.1.cx HFF.out.1 hkk).nx).mono ?_
       rintro e w10 ⟨nm, na, nn, nc, rfl, hX, hB⟩; have HC10 := hid (HC9.out.below hB); have HA10 := hid (HA9.out.below hB)
       have HN10 : Hid (Cn w10 nm na nn nc (-c') ∧ Ml w10 ma mn2 mc2 ms) := ⟨hX, HN9.out.2.below hB⟩
       clear hX hB HC9 HA9 HN9; go_wp2_with fail
       clear hH; refine hK.out _ _ HA10.out.c3 fun hH => ?_; clear hK KK
       try simp only [nrm]
       refine son 8 hH ?_; try simp only [nrm]
       have HRW := hid (row_any (L := K1 + n2) (t := (-c', ms)) (HQT.out.below HC10.out.bw) (by have h1 := HP.out.lf; have h2 := HCN.out.2.2.1; rw [Nat.add_mul, Nat.one_mul] at h1; omega) (by have h1 := HP.out.kf; have h2 := HCN.out.2.1; rw [Nat.add_mul, Nat.one_mul] at h1; omega) hkk HN10.out.1 HFF.out.1.neg' HN10.out.2 HFF.out.2.2.2)
       refine zz176 9 rfl (by kernel_rfl) (fun KK hK => ?_)
       go_simp; refine (HRW.out).mono ?_
       rintro e w11 ⟨ao9, an9, ac9, rfl, hX, hB⟩; have HC11 := hid (HC10.out.below hB); have HA11 := hid (HA10.out.below hB)
       have HRO : Hid (Pw w.heap.size (Kq + (K1 + n2)) w11 ao9 an9 ac9 (rowT qr (-c', ms))) := hX.mono HC10.out.bw.size (Nat.le_refl _)
       have HOF : Hid (Off X' (blk ao9) ∧ (∀ g, blk ao9 = some g → blk po8 ≠ some g ∧ g ≠ b12)) := HC10.out.newRow hX HA10.out.lt
       clear hX hB HC10 HA10 HN10 HRW; go_wp2_with fail
       clear hH; refine hK.out _ _ HA11.out.c3 fun hH => ?_; clear hK KK
       try simp only [nrm]
       have HWI := hid (with_fr (HC11.out.pl.mono (show K1 ≤ Kq + (K1 + n2) by omega)) HRO.out HFF.out.2.2.1.1 HOF.out.1 (by rw [HFF.out.2.2.1.2.2]; have h1 := HP.out.lf; have h2 := HV.out.2.2.2.2.1; have h3 := HCN.out.2.2.1; have h4 := HQL.out; rw [Nat.add_mul, Nat.one_mul] at h1; omega) (by have h1 := HP.out.kf; have h2 := HP.out.nf; have h3 := HCN.out.2.1; rw [Nat.add_mul, Nat.one_mul] at h1; omega) HC11.out.bw.size (fun g => blk po8 = some g ∨ g = b12) (HC11.out.offP HLB.out.1) (fun g hg e => by rcases hg with hg | hg; exact (HOF.out.2 g e).1 hg; exact (HOF.out.2 g e).2 hg) (fun g hg e => by rcases hg with hg | hg; exact HC11.out.apart g e hg; exact HC11.out.rowNe HA11.out g hg e) (fun g hg => by rcases hg with hg | hg; exact (HC11.out.pw.lt g hg).2; rw [hg]; exact HA11.out.lt))
       refine zz176 10 rfl (by kernel_rfl) (fun KK hK => ?_)
       go_simp; refine (HWI.out).mono ?_
       rintro e w12 ⟨so3, n3, cap3, X3, ps3, K3, rfl, hw1, hw2, hw3, hw4, hw5, hw6, hw7, hw8⟩
       have HC12 : Hid (QC w KM po8 (pn + 1) pc8 (P ++ [(c', ms)]) K3 so3 n3 cap3 X3 ps3 w12) := ⟨HC11.out.pw.fr hw8 (fun g hg => .inl hg), hw1, fun g hg => hw7 g (.inl hg), HC11.out.bw.trans hw6⟩
       have HA12 : Hid (AtN w12 b12 [.bool cm, .slice ca cn cc, .slice ma mn2 mc2] 53) := HA11.out.keep (hw8.row b12 (.inr rfl))
       have HP12 := hid (HP.out.next HFF.out.2.1 HFF.out.2.2.1.1 hw2 hw3 hw4 (by rw [HFF.out.2.2.1.2.2] at hw5; exact hw5) HV.out.2.2.2.2.1 HQL.out)
       have HLT := hid HV.out.2.2.2.2.1
       have HL5 : Hid (lens ps3 ≤ 1000000) := by have := HP12.out.lf; have := HCN.out.2.2.1; exact by rw [Hid]; omega
       clear hw1 hw2 hw3 hw4 hw5 hw6 hw7 hw8 HC11 HA11 HWI HRO HOF; go_wp2_with fail
       clear hH; refine hK.out _ _ HA12.out.c3 fun hH => ?_; clear hK KK
       try simp only [nrm]
       refine son 11 hH ?_; try simp only [nrm]
       refine wpAnyH_done (by kernel_rfl) ?_ _
       go_wp2_with fail
       go_roundw
       case rel => exact ⟨_, f, po8, pn + 1, pc8, _, so3, n3, cap3, X3, ps3, K3, _, rfl, rfl, rfl, HC12.out, HP12.out⟩
       case measure => exact Nat.lt_of_le_of_lt ((zz97 (P := QI w F Kq m KM LM q0 qr room res _ _ w12) ⟨f, po8, pn + 1, pc8, _, so3, n3, cap3, X3, ps3, K3, _, rfl, rfl, rfl, HC12.out, HP12.out⟩).2 _ ⟨f, po8, pn + 1, pc8, _, so3, n3, cap3, X3, ps3, K3, _, rfl, rfl, rfl, HC12.out, HP12.out⟩) (by rw [HE.out]; have := HL5.out; rw [Nat.add_mul]; omega)
    ·go_simp
     clear hH; refine hK.out _ _ ⟨(HA4.out.below (zz13 _ _)).c3, HCQ.out _ (HC4.out.bw.trans ((zz13 _ _).mono HC4.out.bw.size))⟩ fun hH => ?_; clear hK KK
     try simp only [nrm]
     obtain ⟨b12, hb12⟩ : ∃ b, b = w4.heap.size := ⟨_, rfl⟩
     refine zz9 (fun w6 hW => ?_)
     have hb6 : Below w4.heap.size w4 w6 := by rw [hW]; exact zz13 _ _
     have HX6 : Hid (AtN w6 b12 [.bool false, .slice none 0 0, .slice none 0 0] 53) := by rw [hW, hb12]; exact AtN.new w4 [.bool false, .slice none 0 0, .slice none 0 0] 53
     have HC6 := hid (HC4.out.below hb6); have HA6 := hid (HA4.out.below hb6)
     have HT6 : Hid (Cn w6 lm la ln lc c ∧ Ml w6 mo mn mc M) := ⟨HT4.out.1.below hb6, HT4.out.2.below hb6⟩
     have HLB : Hid ((∀ v ∈ X', ∀ g, blkV v = some g → g < b12) ∧ (∀ g, blk po = some g → g < b12) ∧ w.heap.size ≤ b12 ∧ b10 < b12) := by rw [hb12]; exact ⟨HC4.out.lts.1, HC4.out.lts.2, HC4.out.bw.size, HA4.out.lt⟩
     rw [← hW] at hH; clear HC4 HA4 hb6 HT4
     rw [← hb12]; clear hb12
     clear hW
     have hpc := part_any (w := w6) ⟨(HT6.out.1.cx HV.out.1 hkk).nx, HT6.out.2⟩ ⟨((HQ0.out.1.below HC6.out.bw).cx HQ0.out.2.1 (by have := HP.out.kf; have := HCN.out.2.1; rw [Nat.add_mul, Nat.one_mul] at *; omega)).nx, HQ0.out.2.2.below HC6.out.bw⟩ (HR.out.below HC6.out.bw) HEQ.out.1 HEQ.out.2.1 HEQ.out.2.2.1 HEQ.out.2.2.2.1 HEQ.out.2.2.2.2.1 HEQ.out.2.2.2.2.2
     rw [HOK.out] at hpc; have HPT := hid hpc
     clear hpc
     refine zz176 5 rfl (by kernel_rfl) (fun KK hK => ?_)
     go_simp; refine (HPT.out).mono ?_
     rintro e w5 ⟨cm, ca, cn, cc, ma, mn2, mc2, rfl, hX, hM, hB⟩; have HC5 := hid (HC6.out.below hB); have HA5 := hid (HA6.out.below hB)
     have HN5 : Hid (Cn w5 cm ca cn cc c' ∧ Ml w5 ma mn2 mc2 ms) := ⟨hX, hM⟩
     have HX5 := hid (HX6.out.below hB); clear hX hM hB HC6 HA6 HPT HX6 HT6; go_wp2_with fail
     clear hH; refine hK.out _ _ ⟨HA5.out.c3, HCQ.out _ HC5.out.bw⟩ fun hH => ?_; clear hK KK
     try simp only [nrm]
     refine son 6 hH ?_; try simp only [nrm]
     refine son 7 hH ?_; try simp only [nrm]
     refine son 8 hH ?_; try simp only [nrm]
     refine zz176 10 rfl (by kernel_rfl) (fun KK hK => ?_)
     obtain ⟨d0, d1, d2⟩ := HX5.out.c3; obtain ⟨f0, f1, f2⟩ := HX5.out.f3; go_simp; clear d0 d1 d2 f0 f1 f2
     clear hH; refine hK.out _ _ ⟨AtN.c3 (T := 53) (HA5.out.keep (zz149 (Nat.ne_of_lt HLB.out.2.2.2) _ _ _)), HCQ.out _ (HC5.out.bw.trans (zz14 (zz78 _ _ 0 _ _ _) HLB.out.2.2.1 HC5.out.bw.size))⟩ fun hH => ?_; clear hK KK
     try simp only [nrm]
     refine zz9 (fun V7 hW => ?_)
     have hg7 : w5.grownBy V7 (some b12) := by rw [hW]; exact zz78 _ _ 0 _ _ _
     have hn7 : ∀ r, some b12 = some r → NoInt w5 r := fun r e => by cases e; exact (HX5.out.cleanB (clean3 _ _ _ _ _ _ _)).noInt
     have HX7 : Hid (AtN V7 b12 [.bool cm, .slice ca cn cc, .slice ma mn2 mc2] 53) := by rw [hW]; exact ((HX5.out.set 0 _).set 1 _).set 2 _
     have HC7 := hid (HC5.out.box HX5.out (clean3 _ _ _ _ _ _ _) ⟨HLB.out.1, HLB.out.2.1⟩ HLB.out.2.2.1 hg7)
     have HN7 : Hid (Cn V7 cm ca cn cc c' ∧ Ml V7 ma mn2 mc2 ms) := ⟨HN5.out.1.stepG hg7 hn7, HN5.out.2.stepG hg7 hn7⟩
     rw [← hW] at hH; clear hg7 hn7 HX5 HC5 HA5 HN5
     clear hW
     refine son 11 hH ?_; try simp only [nrm]
     refine wpAnyH_done (by kernel_rfl) ?_ _
     clear hH
     cases ok with
     | false =>
      have HRS := hid (HP.out.none HPA.out.1 HPA.out.2.1); go_wp2_with fail
      go_ret2
      refine ⟨none, 0, 0, ?_, by rw [HRS.out]; exact Pw.zero _ _ _, HC7.out.bw⟩
      rw [HRS.out]
      rfl
     | true =>
      have hpf := part_fits (a := (c, M)) (b := q0) HV.out.2.1 FQ.out.2.1 HFT.out.1 (by rw [HPA.out.1])
      rw [HPA.out.1] at hpf; have HFF := hid (step_facts hpf HPA.out FQ.out HFT.out.2 HV.out.1 HC0.out)
      clear hpf
      obtain ⟨v8, W8, hr8, hps⟩ := zz148 (t := (c', ms)) HC7.out.pw HC7.out.bw.size (by have := HP.out.pf; have := HCN.out.2.2.2; omega) HN7.out.1 (HFF.out.1.mono (by have := HP.out.kf; omega)) HN7.out.2 53 23
      obtain ⟨c0, c1, c2⟩ := HX7.out.c3; have HPU := hid hps; clear hps
      go_wp2_with (at_builtin; refine zz224 rfl (.tmp 40) (.tmp 42) 23 23 rfl _ _ rfl rfl hr8 ?_)
      clear c0 c1 c2 hr8; obtain ⟨po8, pc8, rfl, hp1, hp2, hp3⟩ := HPU.out
      have HC8 : Hid (QC w KM po8 (pn + 1) pc8 (P ++ [(c', ms)]) K1 so n2 cap2 X' ps' W8) := HC7.out.pushed hp1 hp2 hp3
      have HA8 : Hid (AtN W8 b12 [.bool cm, .slice ca cn cc, .slice ma mn2 mc2] 53) := HX7.out.stepG hp2 (fun r e e2 => by have := HLB.out.2.1 r e; omega)
      have HN8 : Hid (Cn W8 cm ca cn cc c' ∧ Ml W8 ma mn2 mc2 ms) := ⟨HN7.out.1.stepG hp2 HC7.out.pw.noInt, HN7.out.2.stepG hp2 HC7.out.pw.noInt⟩
      clear hp1 hp2 hp3 HPU HC7 HX7 HN7
      by_cases hc1 : cq = 1
      ·have HQT := hid (HQ.out.tailE hc1)
       have hm1 : (1 : Int) ≤ (m : Int) + 1 := by omega
       have hc2 : (cq = 1) = True := eq_true hc1
       clear hc1
       refine wp_region_held_drew (S := (fun w' => w'.cell? ⟨b12, 0, none⟩ = some (.bool cm) ∧ w'.cell? ⟨b12, 1, none⟩ = some (.slice ca cn cc) ∧ w'.cell? ⟨b12, 2, none⟩ = some (.slice ma mn2 mc2))) (by kernel_rfl) HA8.out.c3 (fun hH => ?_)
       refine zz9 (fun w9 hW => ?_)
       have dr := (Below.refl W8.heap.size W8).drew
       have HC9 : Hid (QC w KM po8 (pn + 1) pc8 (P ++ [(c', ms)]) K1 so n2 cap2 X' ps' w9) := by rw [hW]; exact HC8.out.below dr
       have HA9 : Hid (AtN w9 b12 [.bool cm, .slice ca cn cc, .slice ma mn2 mc2] 53) := by rw [hW]; exact HA8.out.below dr
       have HN9 : Hid (Cn w9 cm ca cn cc c' ∧ Ml w9 ma mn2 mc2 ms) := by rw [hW]; exact ⟨HN8.out.1.below dr, HN8.out.2.below dr⟩
       rw [← hW] at hH; clear HC8 HA8 HN8 dr
       clear hW
       refine son 0 hH ?_; try simp only [nrm]
       refine son 1 hH ?_; try simp only [nrm]
       refine son 2 hH ?_; try simp only [nrm]
       refine son 3 hH ?_; try simp only [nrm]
       refine son 4 hH ?_; try simp only [nrm]
       refine son 6 hH ?_; try simp only [nrm]
       refine son 7 hH ?_; try simp only [nrm]
       refine zz176 5 rfl (by kernel_rfl) (fun KK hK => ?_)
       go_simp; refine (zz220 (HN9.out.1.cx HFF.out.1 hkk).nx).mono ?_
       rintro e w10 ⟨nm, na, nn, nc, rfl, hX, hB⟩; have HC10 := hid (HC9.out.below hB); have HA10 := hid (HA9.out.below hB)
       have HN10 : Hid (Cn w10 nm na nn nc (-c') ∧ Ml w10 ma mn2 mc2 ms) := ⟨hX, HN9.out.2.below hB⟩
       clear hX hB HC9 HA9 HN9; go_wp2_with fail
       clear hH; refine hK.out _ _ HA10.out.c3 fun hH => ?_; clear hK KK
       try simp only [nrm]
       refine son 8 hH ?_; try simp only [nrm]
       have HRW := hid (row_any (L := K1 + n2) (t := (-c', ms)) (HQT.out.below HC10.out.bw) (by have h1 := HP.out.lf; have h2 := HCN.out.2.2.1; rw [Nat.add_mul, Nat.one_mul] at h1; omega) (by have h1 := HP.out.kf; have h2 := HCN.out.2.1; rw [Nat.add_mul, Nat.one_mul] at h1; omega) hkk HN10.out.1 HFF.out.1.neg' HN10.out.2 HFF.out.2.2.2)
       refine zz176 9 rfl (by kernel_rfl) (fun KK hK => ?_)
       go_simp; refine (HRW.out).mono ?_
       rintro e w11 ⟨ao9, an9, ac9, rfl, hX, hB⟩; have HC11 := hid (HC10.out.below hB); have HA11 := hid (HA10.out.below hB)
       have HRO : Hid (Pw w.heap.size (Kq + (K1 + n2)) w11 ao9 an9 ac9 (rowT qr (-c', ms))) := hX.mono HC10.out.bw.size (Nat.le_refl _)
       have HOF : Hid (Off X' (blk ao9) ∧ (∀ g, blk ao9 = some g → blk po8 ≠ some g ∧ g ≠ b12)) := HC10.out.newRow hX HA10.out.lt
       clear hX hB HC10 HA10 HN10 HRW; go_wp2_with fail
       clear hH; refine hK.out _ _ HA11.out.c3 fun hH => ?_; clear hK KK
       try simp only [nrm]
       have HWI := hid (with_fr (HC11.out.pl.mono (show K1 ≤ Kq + (K1 + n2) by omega)) HRO.out HFF.out.2.2.1.1 HOF.out.1 (by rw [HFF.out.2.2.1.2.2]; have h1 := HP.out.lf; have h2 := HV.out.2.2.2.2.1; have h3 := HCN.out.2.2.1; have h4 := HQL.out; rw [Nat.add_mul, Nat.one_mul] at h1; omega) (by have h1 := HP.out.kf; have h2 := HP.out.nf; have h3 := HCN.out.2.1; rw [Nat.add_mul, Nat.one_mul] at h1; omega) HC11.out.bw.size (fun g => blk po8 = some g ∨ g = b12) (HC11.out.offP HLB.out.1) (fun g hg e => by rcases hg with hg | hg; exact (HOF.out.2 g e).1 hg; exact (HOF.out.2 g e).2 hg) (fun g hg e => by rcases hg with hg | hg; exact HC11.out.apart g e hg; exact HC11.out.rowNe HA11.out g hg e) (fun g hg => by rcases hg with hg | hg; exact (HC11.out.pw.lt g hg).2; rw [hg]; exact HA11.out.lt))
       refine zz176 10 rfl (by kernel_rfl) (fun KK hK => ?_)
       go_simp; refine (HWI.out).mono ?_
       rintro e w12 ⟨so3, n3, cap3, X3, ps3, K3, rfl, hw1, hw2, hw3, hw4, hw5, hw6, hw7, hw8⟩
       have HC12 : Hid (QC w KM po8 (pn + 1) pc8 (P ++ [(c', ms)]) K3 so3 n3 cap3 X3 ps3 w12) := ⟨HC11.out.pw.fr hw8 (fun g hg => .inl hg), hw1, fun g hg => hw7 g (.inl hg), HC11.out.bw.trans hw6⟩
       have HA12 : Hid (AtN w12 b12 [.bool cm, .slice ca cn cc, .slice ma mn2 mc2] 53) := HA11.out.keep (hw8.row b12 (.inr rfl))
       have HP12 := hid (HP.out.next HFF.out.2.1 HFF.out.2.2.1.1 hw2 hw3 hw4 (by rw [HFF.out.2.2.1.2.2] at hw5; exact hw5) HV.out.2.2.2.2.1 HQL.out)
       have HLT := hid HV.out.2.2.2.2.1
       have HL5 : Hid (lens ps3 ≤ 1000000) := by have := HP12.out.lf; have := HCN.out.2.2.1; exact by rw [Hid]; omega
       clear hw1 hw2 hw3 hw4 hw5 hw6 hw7 hw8 HC11 HA11 HWI HRO HOF; go_wp2_with fail
       clear hH; refine hK.out _ _ HA12.out.c3 fun hH => ?_; clear hK KK
       try simp only [nrm]
       refine son 11 hH ?_; try simp only [nrm]
       refine wpAnyH_done (by kernel_rfl) ?_ _
       go_wp2_with fail
       go_roundw
       case rel => exact ⟨_, f, po8, pn + 1, pc8, _, so3, n3, cap3, X3, ps3, K3, _, rfl, rfl, rfl, HC12.out, HP12.out⟩
       case measure => exact Nat.lt_of_le_of_lt ((zz97 (P := QI w F Kq m KM LM q0 qr room res _ _ w12) ⟨f, po8, pn + 1, pc8, _, so3, n3, cap3, X3, ps3, K3, _, rfl, rfl, rfl, HC12.out, HP12.out⟩).2 _ ⟨f, po8, pn + 1, pc8, _, so3, n3, cap3, X3, ps3, K3, _, rfl, rfl, rfl, HC12.out, HP12.out⟩) (by rw [HE.out]; have := HL5.out; rw [Nat.add_mul]; omega)
      ·have HQT := hid (HQ.out.tailN hc1)
       have hm1 : (1 : Int) ≤ (m : Int) + 1 := by omega
       refine wp_region_held_drew (S := (fun w' => w'.cell? ⟨b12, 0, none⟩ = some (.bool cm) ∧ w'.cell? ⟨b12, 1, none⟩ = some (.slice ca cn cc) ∧ w'.cell? ⟨b12, 2, none⟩ = some (.slice ma mn2 mc2))) (by kernel_rfl) HA8.out.c3 (fun hH => ?_)
       refine zz9 (fun w9 hW => ?_)
       have dr := (Below.refl W8.heap.size W8).drew
       have HC9 : Hid (QC w KM po8 (pn + 1) pc8 (P ++ [(c', ms)]) K1 so n2 cap2 X' ps' w9) := by rw [hW]; exact HC8.out.below dr
       have HA9 : Hid (AtN w9 b12 [.bool cm, .slice ca cn cc, .slice ma mn2 mc2] 53) := by rw [hW]; exact HA8.out.below dr
       have HN9 : Hid (Cn w9 cm ca cn cc c' ∧ Ml w9 ma mn2 mc2 ms) := by rw [hW]; exact ⟨HN8.out.1.below dr, HN8.out.2.below dr⟩
       rw [← hW] at hH; clear HC8 HA8 HN8 dr
       clear hW
       refine son 0 hH ?_; try simp only [nrm]
       refine son 1 hH ?_; try simp only [nrm]
       refine son 2 hH ?_; try simp only [nrm]
       refine son 3 hH ?_; try simp only [nrm]
       refine son 4 hH ?_; try simp only [nrm]
       refine son 6 hH ?_; try simp only [nrm]
       refine son 7 hH ?_; try simp only [nrm]
       refine zz176 5 rfl (by kernel_rfl) (fun KK hK => ?_)
       go_simp; refine (zz220 (HN9.out.1.cx HFF.out.1 hkk).nx).mono ?_
       rintro e w10 ⟨nm, na, nn, nc, rfl, hX, hB⟩; have HC10 := hid (HC9.out.below hB); have HA10 := hid (HA9.out.below hB)
       have HN10 : Hid (Cn w10 nm na nn nc (-c') ∧ Ml w10 ma mn2 mc2 ms) := ⟨hX, HN9.out.2.below hB⟩
       clear hX hB HC9 HA9 HN9; go_wp2_with fail
       clear hH; refine hK.out _ _ HA10.out.c3 fun hH => ?_; clear hK KK
       try simp only [nrm]
       refine son 8 hH ?_; try simp only [nrm]
       have HRW := hid (row_any (L := K1 + n2) (t := (-c', ms)) (HQT.out.below HC10.out.bw) (by have h1 := HP.out.lf; have h2 := HCN.out.2.2.1; rw [Nat.add_mul, Nat.one_mul] at h1; omega) (by have h1 := HP.out.kf; have h2 := HCN.out.2.1; rw [Nat.add_mul, Nat.one_mul] at h1; omega) hkk HN10.out.1 HFF.out.1.neg' HN10.out.2 HFF.out.2.2.2)
       refine zz176 9 rfl (by kernel_rfl) (fun KK hK => ?_)
       go_simp; refine (HRW.out).mono ?_
       rintro e w11 ⟨ao9, an9, ac9, rfl, hX, hB⟩; have HC11 := hid (HC10.out.below hB); have HA11 := hid (HA10.out.below hB)
       have HRO : Hid (Pw w.heap.size (Kq + (K1 + n2)) w11 ao9 an9 ac9 (rowT qr (-c', ms))) := hX.mono HC10.out.bw.size (Nat.le_refl _)
       have HOF : Hid (Off X' (blk ao9) ∧ (∀ g, blk ao9 = some g → blk po8 ≠ some g ∧ g ≠ b12)) := HC10.out.newRow hX HA10.out.lt
       clear hX hB HC10 HA10 HN10 HRW; go_wp2_with fail
       clear hH; refine hK.out _ _ HA11.out.c3 fun hH => ?_; clear hK KK
       try simp only [nrm]
       have HWI := hid (with_fr (HC11.out.pl.mono (show K1 ≤ Kq + (K1 + n2) by omega)) HRO.out HFF.out.2.2.1.1 HOF.out.1 (by rw [HFF.out.2.2.1.2.2]; have h1 := HP.out.lf; have h2 := HV.out.2.2.2.2.1; have h3 := HCN.out.2.2.1; have h4 := HQL.out; rw [Nat.add_mul, Nat.one_mul] at h1; omega) (by have h1 := HP.out.kf; have h2 := HP.out.nf; have h3 := HCN.out.2.1; rw [Nat.add_mul, Nat.one_mul] at h1; omega) HC11.out.bw.size (fun g => blk po8 = some g ∨ g = b12) (HC11.out.offP HLB.out.1) (fun g hg e => by rcases hg with hg | hg; exact (HOF.out.2 g e).1 hg; exact (HOF.out.2 g e).2 hg) (fun g hg e => by rcases hg with hg | hg; exact HC11.out.apart g e hg; exact HC11.out.rowNe HA11.out g hg e) (fun g hg => by rcases hg with hg | hg; exact (HC11.out.pw.lt g hg).2; rw [hg]; exact HA11.out.lt))
       refine zz176 10 rfl (by kernel_rfl) (fun KK hK => ?_)
       go_simp; refine (HWI.out).mono ?_
       rintro e w12 ⟨so3, n3, cap3, X3, ps3, K3, rfl, hw1, hw2, hw3, hw4, hw5, hw6, hw7, hw8⟩
       have HC12 : Hid (QC w KM po8 (pn + 1) pc8 (P ++ [(c', ms)]) K3 so3 n3 cap3 X3 ps3 w12) := ⟨HC11.out.pw.fr hw8 (fun g hg => .inl hg), hw1, fun g hg => hw7 g (.inl hg), HC11.out.bw.trans hw6⟩
       have HA12 : Hid (AtN w12 b12 [.bool cm, .slice ca cn cc, .slice ma mn2 mc2] 53) := HA11.out.keep (hw8.row b12 (.inr rfl))
       have HP12 := hid (HP.out.next HFF.out.2.1 HFF.out.2.2.1.1 hw2 hw3 hw4 (by rw [HFF.out.2.2.1.2.2] at hw5; exact hw5) HV.out.2.2.2.2.1 HQL.out)
       have HLT := hid HV.out.2.2.2.2.1
       have HL5 : Hid (lens ps3 ≤ 1000000) := by have := HP12.out.lf; have := HCN.out.2.2.1; exact by rw [Hid]; omega
       clear hw1 hw2 hw3 hw4 hw5 hw6 hw7 hw8 HC11 HA11 HWI HRO HOF; go_wp2_with fail
       clear hH; refine hK.out _ _ HA12.out.c3 fun hH => ?_; clear hK KK
       try simp only [nrm]
       refine son 11 hH ?_; try simp only [nrm]
       refine wpAnyH_done (by kernel_rfl) ?_ _
       go_wp2_with fail
       go_roundw
       case rel => exact ⟨_, f, po8, pn + 1, pc8, _, so3, n3, cap3, X3, ps3, K3, _, rfl, rfl, rfl, HC12.out, HP12.out⟩
       case measure => exact Nat.lt_of_le_of_lt ((zz97 (P := QI w F Kq m KM LM q0 qr room res _ _ w12) ⟨f, po8, pn + 1, pc8, _, so3, n3, cap3, X3, ps3, K3, _, rfl, rfl, rfl, HC12.out, HP12.out⟩).2 _ ⟨f, po8, pn + 1, pc8, _, so3, n3, cap3, X3, ps3, K3, _, rfl, rfl, rfl, HC12.out, HP12.out⟩) (by rw [HE.out]; have := HL5.out; rw [Nat.add_mul]; omega)
open Lib (hid)
def degT (p : List Term) : List (Int × Int) := p.foldl (fun m t => joinL (fun x y => max x y) (orM m) (orM t.2)) []
theorem degT_is : ∀ {l p : List Term} {m : List (Int × Int)}, IsDeg l m → (∀ t ∈ p, mayM 0 t.2 = true) → IsDeg (l ++ p) (p.foldl (fun m t => joinL (fun x y => max x y) (orM m) (orM t.2)) m)
 | l, [], m, h, _ => by simpa using h
 | l, t :: p, m, h, hp => by
  have := degT_is (p := p) (h.next (hp t (by simp))) (fun s hs => hp s (by simp [hs]))
  rw [List.append_assoc] at this
  exact this
theorem IsDeg.le {l : List Term} {a b : List (Int × Int)} (ha : IsDeg l a) (hb : IsDeg l b) (v : Int) : expo a v ≤ expo b v := by
 rcases ha.att v with h | ⟨t, ht, h⟩
 ·rw [h]; exact (may_bd hb.may v).1
 ·rw [← h]; exact hb.all t ht v
theorem IsDeg.unique {l : List Term} {a b : List (Int × Int)} (ha : IsDeg l a) (hb : IsDeg l b) : a = b := zz113 ha.may hb.may fun v => by
 have := ha.le hb v
 have := hb.le ha v
 omega
theorem degT_eq {p : List Term} {m : List (Int × Int)} (hp : fall p) (h : IsDeg p m) : m = degT p := h.unique (by have := degT_is IsDeg.nil (zz58 hp); simpa [degT] using this)
def roomT (p q : List Term) : List (Int × Int) × Int := joinR (fun x y => x - y) 5 (degT p) (degT q)
theorem room_fit {p q : List Term} (hp : fall p) (hq : fall q) {room : List (Int × Int)} (h : roomT p q = (room, 0)) : mayM 0 room = true ∧ ∀ x, mayM 0 x = true → (∀ v, expo x v ≤ expo room v) → ∀ s ∈ q, mayM 0 (mulM s.2 x) = true := by
 have ha : IsDeg p (degT p) := by have := degT_is IsDeg.nil (zz58 hp); simpa [degT] using this
 have hb : IsDeg q (degT q) := by have := degT_is IsDeg.nil (zz58 hq); simpa [degT] using this
 have h1 := zz55 ha.may hb.may (show (joinR (fun x y => x - y) 5 (degT p) (degT q)).2 = 0 by have : roomT p q = _ := h; unfold roomT at this; rw [this])
 have h2 : (joinR (fun x y => x - y) 5 (degT p) (degT q)).1 = room := by have : roomT p q = _ := h; unfold roomT at this; rw [this]
 rw [h2] at h1
 refine ⟨h1.1, fun x hx hle s hs => ?_⟩
 rw [zz112 (zz58 hq s hs) hx]
 intro v
 have h3 := hb.all s hs v; have h4 := hle v; rw [h1.2 v] at h4; have h5 := may_bd ha.may v
 omega
theorem divT_no {q0 : Term} {qr : List Term} {room : List (Int × Int)} {r : List Term} : ∀ {F : Nat} {R P : List Term}, divT q0 qr room F R P = some (r, false) → r = []
 | 0, _, _, h => by simp [divT] at h
 | _ + 1, [], _, h => by simp [divT] at h
 | F + 1, a :: R, P, h => by
  unfold divT at h
  split at h
  ·exact divT_no h
  ·simpa using h.symm
section
variable {K : Nat} {ao bo : Option Addr} {n cap m cb : Nat} {p q : List Term} {w : World}
theorem pover_run {q0 : Term} {qr : List Term} {room : List (Int × Int)} {r : List Term} {F KM LM : Nat} {ok : Bool} {er : Int} (her : (ok = true ∧ er = 0) ∨ (ok = false ∧ er = 5)) (hp : Pc K w ao (n + 1) cap p) (hq : Pc K w bo (m + 1) cb (q0 :: qr)) (hfp : fall p) (hfq : fall (q0 :: qr)) (hK : K ≤ 1000) (hr : roomT p (q0 :: qr) = (room, 0)) (hd : divT q0 qr room F p [] = some (r, ok))
  (hKM : K + 1 + F * (K + F + 3) = KM) (hKM2 : KM ≤ 800000) (hLM : n + 1 + F * m = LM) (hLM2 : LM ≤ 1000000) (hF : F ≤ 1000) :
  Calls Tryz.prog 38 #[.slice ao (n + 1) cap, .slice bo (m + 1) cb] w (PE KM w r er) := by
 have HP := hid hp; have HQ := hid hq; have FP := hid hfp; have FQ := hid hfq; have HR := hid hr; have HD := hid hd
 have hm6 : m + 1 ≤ 1000000 := by
  have hF0 : 0 < F := by cases F with | zero => simp [divT] at hd | succ f => omega
  have : 1 * m ≤ F * m := Nat.mul_le_mul_right _ hF0
  omega
 have hz1 : (((n + 1 : Nat) : Int) == 0) = false := by simp; omega
 have hz2 : (((m + 1 : Nat) : Int) == 0) = false := by simp; omega
 have hz3 : ((n : Int) + 1 == 0) = false := by simp; omega
 have hz4 : ((m : Int) + 1 == 0) = false := by simp; omega
 clear hp hq hfp hfq hr hd
 go_enter Tryz.func38, Tryz.ntmps38
 go_wp2_with fail; refine (zz108 HP.out FP.out hK).mono ?_
 rintro e w1 ⟨rfl, hB⟩; have HB1 := hid hB; have HP1 := hid (HP.out.below hB); have HQ1 := hid (HQ.out.below hB); clear hB HP HQ; go_wp2_with fail; refine (zz108 HQ1.out FQ.out hK).mono ?_; rintro e w2 ⟨rfl, hB⟩; have HB2 := hid (Below.steps HB1.out hB); have HP2 := hid (HP1.out.below hB); have HQ2 := hid (HQ1.out.below hB); clear hB HP1 HQ1 HB1; go_wp2_with fail
 refine (zz45 HP2.out FP.out (by omega)).mono ?_
 rintro e w3 ⟨xo, xn, xc, xm, rfl, h1, h2, hB⟩; obtain rfl := degT_eq FP.out h2; have HB3 := hid (Below.steps HB2.out hB); have HX := hid h1; have HP3 := hid (HP2.out.below hB); have HQ3 := hid (HQ2.out.below hB); clear h1 h2 hB HP2 HQ2 HB2; go_wp2_with fail; refine (zz45 HQ3.out FQ.out hm6).mono ?_; rintro e w4 ⟨yo, yn, yc, ym, rfl, h1, h2, hB⟩; obtain rfl := degT_eq FQ.out h2; have HB4 := hid (Below.steps HB3.out hB); have HY := hid h1; have HX4 := hid (HX.out.below hB); have HP4 := hid (HP3.out.below hB)
 have HQ4 := hid (HQ3.out.below hB); clear h1 h2 hB HX HP3 HQ3 HB3; go_wp2_with fail; refine (over_is room 0 HX4.out HY.out HR.out).mono ?_; rintro e w5 ⟨zo, zn, zc, rfl, h1, hB⟩; have HB5 := hid (Below.steps HB4.out hB); have HZ := hid h1; have HP5 := hid (HP4.out.below hB); have HQ5 := hid (HQ4.out.below hB); clear h1 hB HX4 HY HB4 HP4 HQ4
 obtain ⟨qb, qf, hqo⟩ : ∃ qb qf, bo = some ⟨qb, qf, none⟩ := by
  obtain ⟨b, off, _, _, _, _, _, _, _, h, _⟩ := HQ5.out.at (k := 0) (by omega)
  exact ⟨b, off, h⟩
 subst hqo; have hrf := room_fit FP.out FQ.out HR.out; have HQU := hid (quot_any HP5.out HQ5.out HZ.out FP.out FQ.out hrf.1 hrf.2 HD.out hKM hKM2 hLM hLM2 hF); clear hrf; go_wp2_with fail
 refine HQU.out.mono ?_
 rintro e w6 ⟨ro, rn, rc, rfl, h1, hB⟩
 have HRE : Hid (Pc KM w6 ro rn rc r ∧ Below w.heap.size w w6) := ⟨h1.pc, Below.steps HB5.out hB⟩
 clear h1 hB HQU HP5 HQ5 HZ HB5
 rcases her with ⟨rfl, rfl⟩ | ⟨rfl, rfl⟩
 ·go_wp2_with fail
  go_ret2
  exact ⟨ro, rn, rc, rfl, HRE.out.1, HRE.out.2⟩
 ·have HNO := hid (divT_no HD.out)
  go_wp2_with fail
  go_ret2
  exact ⟨none, 0, 0, rfl, by rw [HNO.out]; exact Pc.zero _ _, HRE.out.2⟩
end
end Go.Proofs.YtmbgljjfmbhelaaGreat

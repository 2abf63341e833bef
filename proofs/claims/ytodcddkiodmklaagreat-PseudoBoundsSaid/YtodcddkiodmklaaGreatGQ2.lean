/- PsM, PsN, PsE, PsR, PsV, PsZ, PsK, PsB -/
import Derived.Test.YtodcddkiodmklaaGreatGMt
import Derived.Test.YtodcddkiodmklaaGreatGQ1
import Derived.Test.YtodcddkiodmklaaGreatVKn
set_option maxHeartbeats 40000000
set_option maxRecDepth 100000
namespace Go.Proofs.YtodcddkiodmklaaGreat
open Go.RowKit
def oStep (o : Option MS) : Option MS := o.map MS.step
def oStepE (o : Option MS) : Int := match o with | none => 0 | some s => s.stepE
def kl (p : List Term) : List (List Nat) := p.map fun t => limbs t.1.natAbs
def oKeep (o : Option MS) (p : List Term) : Option MS := o.map fun s => s.keep (kl p)
def oKeepE (o : Option MS) (p : List Term) : Int := match o with | none => 0 | some s => s.keepE (kl p)
theorem zz126 {o : Option MS} {p : List Term} (h : oKeepE o p = 0) : oKeep o p = o := by
 cases o with
 | none => rfl
 | some s =>
  simp only [oKeepE, MS.keepE] at h
  simp only [oKeep, Option.map_some, MS.keep]
  split at h
  ·omega
  ·rename_i h1
   rw [if_neg h1]
   split at h
   ·omega
   ·rename_i h2
    rw [if_neg h2]
def MvIs [Ol] (w : World) (mv : Value) (b0 : Option Nat) (o : Option MS) : Prop :=
 (mv = .pointer none ∧ b0 = none ∧ o = none) ∨ ∃ b s, mv = .pointer (some ⟨b, 0, none⟩) ∧ b0 = some b ∧ o = some s ∧ Cells w b (mc s) ∧ s.Ok ∧ Ol.lo ≤ b
theorem MvIs.lt [Ol] {w : World} {mv : Value} {b0 : Option Nat} {o : Option MS} (h : MvIs w mv b0 o) : ∀ b, b0 = some b → b < w.heap.size := by
 rintro b rfl
 rcases h with ⟨_, h, _⟩ | ⟨b', s, _, h, _, hc, _⟩
 ·cases h
 ·cases h; exact hc.lt
theorem MvIs.keep [Ol] {w w' : World} {mv : Value} {b0 : Option Nat} {o : Option MS} (h : MvIs w mv b0 o) (hk : ∀ b, b0 = some b → w'.heap[b]? = w.heap[b]?) : MvIs w' mv b0 o := by
 rcases h with h | ⟨b, s, h1, h2, h3, hc, h4⟩
 ·exact .inl h
 ·exact .inr ⟨b, s, h1, h2, h3, hc.keep (hk b h2), h4⟩
theorem MvIs.below [Ol] {w w' : World} {mv : Value} {b0 : Option Nat} {o : Option MS} (h : MvIs w mv b0 o) (hB : Below w.heap.size w w') : MvIs w' mv b0 o := h.keep fun b hb => hB.block b (h.lt b hb)
structure FarO [Ol] (w w' : World) (b0 : Option Nat) : Prop where
 g : w.grownBy w' b0
 far : ∀ b, b0 = some b → FarB w w' b
theorem FarO.none [Ol] {w w' : World} {b0 : Option Nat} (h : FarO w w' b0) (h0 : b0 = Option.none) : Below w.heap.size w w' := by
 subst h0
 exact ⟨h.g.os, h.g.tape, h.g.output, h.g.size, fun k hk => h.g.block k hk (by simp)⟩
theorem FarO.trans [Ol] {w v u : World} {b0 : Option Nat} (h : FarO w v b0) (k : FarO v u b0) : FarO w u b0 :=
 ⟨zz82 h.g k.g, fun b hb => ⟨(h.far b hb).kp, zz82 (h.far b hb).g (k.far b hb).g, fun ad x hx => (k.far b hb).u ad x ((h.far b hb).u ad x hx)⟩⟩
theorem mc_bad [Ol] {w : World} {b : Nat} {s : MS} (h : Cells w b (mc s)) (hlo : Ol.lo ≤ b) : ∀ c, Kp w c → c ≠ b := fun c hc => by
 obtain ⟨T, hq, hh⟩ := h
 exact hc.far hlo hh (hq (.inl rfl)) ⟨.int .i64 s.fu, by simp [mc, mcl], rfl⟩
theorem FarO.of_below [Ol] {w w' : World} {mv : Value} {b0 : Option Nat} {o : Option MS} (h : MvIs w mv b0 o) (hB : Below w.heap.size w w') : FarO w w' b0 := by
 refine ⟨zz74 _ hB, fun b hb => ⟨?_, zz74 _ hB, fun ad x hx => by rw [hB.cell (World.block_lt_of_cell? w _ hx)]; exact hx⟩⟩
 rcases h with ⟨_, h, _⟩ | ⟨b', s, _, h, _, hc, _, hl⟩
 ·rw [h] at hb; cases hb
 ·rw [h] at hb; cases hb; exact mc_bad hc hl
theorem Pc.farO [Ol] {K : Nat} {w w' : World} {ao : Option Addr} {n cap : Nat} {p : List Term} {b0 : Option Nat} (h : Pc K w ao n cap p) (hF : FarO w w' b0) : Pc K w' ao n cap p := by
 cases h0 : b0 with
 | none => exact h.below (hF.none h0)
 | some b => exact h.farB (hF.far b h0)
theorem Pc.lp [Ol] {K : Nat} {w : World} {ao : Option Addr} {n cap : Nat} {p : List Term} (h : Pc K w ao n cap p) : Lp w ao n cap (kl p) := by
 obtain ⟨vss, h1, h2⟩ := h.ex
 refine ⟨vss, h1, Tms.map (fun t => limbs t.1.natAbs) (fun v a _ h => ?_) h2⟩
 obtain ⟨m, ao, n, cap, bo, k, cb, e1, e2, _, _⟩ := h
 exact ⟨m, ao, n, cap, bo, k, cb, e1, e2.sl⟩
theorem mc_u {w w' : World} {b : Nat} {s t : MS} (h : Cells w b (mc s)) (h' : Cells w' b (mc t)) (hw : s.wh = t.wh) (hG : w.grownBy w' (some b)) : ∀ (ad : Addr) (x : Int), w.cell? ad = some (.int .u32 x) → w'.cell? ad = some (.int .u32 x) := fun ad x hx => by
 by_cases hb : ad.block = b
 ·obtain ⟨b', o, sp⟩ := ad
  obtain rfl : b' = b := hb
  have hs : sp = none := World.cell?_spot hx
  subst hs; rw [h.cell] at hx; rw [h'.cell]
  simp only [mc, mcl, hw] at hx ⊢
  rcases o with _ | _ | _ | _ | _ | _ | _ | _ | _ | _ | _ | o
  all_goals first
   | (simp at hx; done)
   | exact hx
 ·exact hG.cell hx fun e => hb (Option.some.inj e)
theorem mc_far [Ol] {w w' : World} {b : Nat} {s t : MS} (h : Cells w b (mc s)) (h' : Cells w' b (mc t)) (hw : s.wh = t.wh) (hG : w.grownBy w' (some b)) (hlo : Ol.lo ≤ b) : FarB w w' b := ⟨mc_bad h hlo, hG, mc_u h h' hw hG⟩
def StepO [Ol] (w : World) (mv : Value) (b0 : Option Nat) (o : Option MS) (e : Ending) (w' : World) : Prop := e = .returned (.int .i64 (oStepE o)) ∧ MvIs w' mv b0 (oStep o) ∧ w.grownBy w' b0 ∧ (oStepE o = 0 → FarO w w' b0)
theorem ostep_any [Ol] {w : World} {mv : Value} {b0 : Option Nat} {o : Option MS} (h : MvIs w mv b0 o) : Calls Tryz.prog 76 #[mv] w (StepO w mv b0 o) := by
 rcases h with ⟨rfl, rfl, rfl⟩ | ⟨b, s, rfl, rfl, rfl, hc, hk, hl⟩
 ·refine mstep_nil.mono fun e w' h => ?_
  obtain ⟨rfl, rfl⟩ := h
  exact ⟨rfl, .inl ⟨rfl, rfl, rfl⟩, World.grownBy.refl _ _, fun _ => ⟨World.grownBy.refl _ _, fun b hb => by cases hb⟩⟩
 ·refine (mstep_any hc hk).mono fun e w' h => ?_
  obtain ⟨rfl, hC, hG⟩ := h
  refine ⟨rfl, .inr ⟨b, _, rfl, rfl, rfl, hC, hk.step, hl⟩, hG, fun he => ⟨hG, fun b' hb' => ?_⟩⟩
  cases hb'
  refine mc_far hc hC ?_ hG hl
  have he' : s.stepE = 0 := he
  unfold MS.stepE at he'
  unfold MS.step
  split at he'
  ·omega
  ·rename_i h1; rw [if_neg h1]
def KeepO [Ol] (w : World) (mv : Value) (b0 : Option Nat) (o : Option MS) (p : List Term) (e : Ending) (w' : World) : Prop := e = .returned (.int .i64 (oKeepE o p)) ∧ MvIs w' mv b0 (oKeep o p) ∧ w.grownBy w' b0 ∧ (oKeepE o p = 0 → FarO w w' b0)
theorem okeep_any [Ol] {w : World} {mv : Value} {b0 : Option Nat} {o : Option MS} (h : MvIs w mv b0 o) {K : Nat} {ao : Option Addr} {n cap : Nat} {p : List Term} (hp : Pc K w ao n cap p) : Calls Tryz.prog 75 #[mv, .slice ao n cap] w (KeepO w mv b0 o p) := by
 rcases h with ⟨rfl, rfl, rfl⟩ | ⟨b, s, rfl, rfl, rfl, hc, hk, hl⟩
 ·refine mkeep_nil.mono fun e w' h => ?_
  obtain ⟨rfl, hB⟩ := h
  exact ⟨rfl, .inl ⟨rfl, rfl, rfl⟩, zz74 _ hB, fun _ => ⟨zz74 _ hB, fun b hb => by cases hb⟩⟩
 ·refine (mkeep_any hc hp.lp).mono fun e w' h => ?_
  obtain ⟨rfl, hC, hG⟩ := h
  refine ⟨rfl, .inr ⟨b, _, rfl, rfl, rfl, hC, hk.keep _, hl⟩, hG, fun he => ⟨hG, fun b' hb' => ?_⟩⟩
  cases hb'
  have h1 := zz126 (o := some s) (p := p) he
  simp only [oKeep, Option.map_some, Option.some.injEq] at h1
  rw [h1] at hC
  exact mc_far hc hC rfl hG hl
def oN (o : Option MS) : Nat → Option MS
 | 0 => o
 | n + 1 => oStep (oN o n)
def qk (kq : Bool) (q : List Term) : List Term := if kq = true then q else []
structure Out where
 q : List Term
 r : List Term
 s : Nat
 e : Int
 o : Option MS
section
variable (g f : List Term) (v : Int) (kq : Bool) (o : Option MS)
def Goes (j : Nat) : Prop := degP g v ≤ degP (itP g v f j).2 v ∧ oStepE (oN o j) = 0 ∧ oKeepE (oN o (j + 1)) (itP g v f (j + 1)).2 = 0 ∧ oKeepE (oN o (j + 1)) (qk kq (itP g v f (j + 1)).1) = 0
def EndAt (n : Nat) (u : Out) : Prop :=
 (degP (itP g v f n).2 v < degP g v ∧ u = ⟨qk kq (itP g v f n).1, (itP g v f n).2, n, 0, oN o n⟩) ∨
 (degP g v ≤ degP (itP g v f n).2 v ∧ ((oStepE (oN o n) ≠ 0 ∧ u = ⟨[], [], 0, oStepE (oN o n), oStep (oN o n)⟩) ∨
  (oStepE (oN o n) = 0 ∧ ((oKeepE (oN o (n + 1)) (itP g v f (n + 1)).2 ≠ 0 ∧ u = ⟨[], [], 0, oKeepE (oN o (n + 1)) (itP g v f (n + 1)).2, oKeep (oN o (n + 1)) (itP g v f (n + 1)).2⟩) ∨
   (oKeepE (oN o (n + 1)) (itP g v f (n + 1)).2 = 0 ∧ oKeepE (oN o (n + 1)) (qk kq (itP g v f (n + 1)).1) ≠ 0 ∧ u = ⟨[], [], 0, oKeepE (oN o (n + 1)) (qk kq (itP g v f (n + 1)).1), oKeep (oN o (n + 1)) (qk kq (itP g v f (n + 1)).1)⟩)))))
def Ends (u : Out) : Prop := ∃ n, (∀ j, j < n → Goes g f v kq o j) ∧ EndAt g f v kq o n u
end
section
variable {g f : List Term} {v : Int} {kq : Bool} {o : Option MS}
theorem Goes.no_end {n : Nat} {u : Out} (h : Goes g f v kq o n) (k : EndAt g f v kq o n u) : False := by
 obtain ⟨h1, h2, h3, h4⟩ := h
 rcases k with ⟨k1, _⟩ | ⟨_, ⟨k2, _⟩ | ⟨_, ⟨k3, _⟩ | ⟨_, k4, _⟩⟩⟩
 ·omega
 ·exact k2 h2
 ·exact k3 h3
 ·exact k4 h4
theorem EndAt.unique {n : Nat} {u u' : Out} (h : EndAt g f v kq o n u) (k : EndAt g f v kq o n u') : u = u' := by
 rcases h with ⟨h1, rfl⟩ | ⟨h1, ⟨h2, rfl⟩ | ⟨h2, ⟨h3, rfl⟩ | ⟨h3, h4, rfl⟩⟩⟩ <;> rcases k with ⟨k1, rfl⟩ | ⟨k1, ⟨k2, rfl⟩ | ⟨k2, ⟨k3, rfl⟩ | ⟨k3, k4, rfl⟩⟩⟩
 all_goals first
  | rfl
  | (exfalso; omega)
theorem Ends.unique {u u' : Out} (h : Ends g f v kq o u) (k : Ends g f v kq o u') : u = u' := by
 obtain ⟨n, h1, h2⟩ := h; obtain ⟨m, k1, k2⟩ := k
 rcases Nat.lt_trichotomy n m with h | h | h
 ·exact ((k1 n h).no_end h2).elim
 ·subst h; exact h2.unique k2
 ·exact ((h1 m h).no_end k2).elim
theorem zz73 {n : Nat} (h : ∀ j, j < n → Goes g f v kq o j) : Long g v f n := fun j hj => (h j hj).1
end
open Lib (hid)
def FirstW [Ol] (w : World) (mv : Value) (b0 : Option Nat) (o : Option MS) (r q : List Term) (e : Ending) (w' : World) : Prop :=
 ∃ E o', e = .returned (.int .i64 E) ∧ MvIs w' mv b0 o' ∧ w.grownBy w' b0 ∧ ((E = 0 ∧ o' = o ∧ oKeepE o r = 0 ∧ oKeepE o q = 0 ∧ FarO w w' b0) ∨ (oKeepE o r ≠ 0 ∧ E = oKeepE o r ∧ o' = oKeep o r) ∨ (oKeepE o r = 0 ∧ oKeepE o q ≠ 0 ∧ E = oKeepE o q ∧ o' = oKeep o q))
theorem first_any [Ol] {K L : Nat} {mv : Value} {b0 : Option Nat} {o : Option MS} {ro qo : Option Addr} {rn rc qn qc : Nat} {r q : List Term} {w : World} (hM : MvIs w mv b0 o) (hL : AtN w L [.slice ro rn rc, .slice qo qn qc] 23) (hLb : some L ≠ b0) (hr : Pc K w ro rn rc r) (hq : Pc K w qo qn qc q) :
  Calls Tryz.prog 79 #[.func (.func 75) #[mv] #[], .slice (some ⟨L, 0, none⟩) 2 2] w (FirstW w mv b0 o r q) := by
 have HI0 := hid hM; have HL := hid (And.intro hLb hL); have HR := hid hr; have HQ := hid hq; clear hM hL hLb hr hq
 go_enter Tryz.func79, Tryz.ntmps79
 go_wp2
 go_loopw [10] (fun i wr => ∃ k : Nat, i = .int .i64 k ∧ k ≤ 2 ∧ Hid (MvIs wr mv b0 o ∧ FarO w wr b0 ∧ (1 ≤ k → oKeepE o r = 0) ∧ (2 ≤ k → oKeepE o q = 0))) (fun i _ => 2 - (intOf i).toNat)
 case atStart => exact ⟨0, rfl, by omega, HI0.out, FarO.of_below HI0.out (Below.refl _ _), (fun h => by omega), fun h => by omega⟩
 case round =>
  clear HI0; obtain ⟨k, rfl, hk, HI⟩ := hrel
  rcases (show k = 0 ∨ k = 1 ∨ k = 2 by omega) with rfl | rfl | rfl
  ·have hLc : wr.cell? ⟨L, 0, none⟩ = some (.slice ro rn rc) := (HL.out.2.keep (HI.out.2.1.g.block _ HL.out.2.lt HL.out.1)).cell 0
   obtain ⟨E, hE⟩ : ∃ E, oKeepE o r = E := ⟨_, rfl⟩; have HE := hid hE; clear hE; go_wp2_with fail; refine (okeep_any HI.out.1 (HR.out.farO HI.out.2.1)).mono ?_; rintro e w2 ⟨rfl, hM2, hG2, hF2⟩; rw [HE.out] at hF2 ⊢; have H2 := hid (And.intro hM2 (And.intro hG2 hF2)); clear hM2 hG2 hF2 hLc
   by_cases h0 : E = 0
   ·subst h0
    have hok := zz126 HE.out; go_wp2_with fail
    go_roundw
    case rel => exact ⟨1, by go_num, by omega, by have := H2.out.1; rwa [hok] at this, HI.out.2.1.trans (H2.out.2.2 (by first | rfl | trivial)), (fun _ => HE.out), fun h => by omega⟩
    case measure => simp [intOf]
   ·have hd : (E == 0) = false := by simpa using h0
    go_wp2_with fail
    go_ret
    exact ⟨E, _, rfl, H2.out.1, zz82 HI.out.2.1.g H2.out.2.1, .inr (.inl ⟨by rw [HE.out]; exact h0, HE.out.symm, rfl⟩)⟩
  ·have hLc : wr.cell? ⟨L, 1, none⟩ = some (.slice qo qn qc) := (HL.out.2.keep (HI.out.2.1.g.block _ HL.out.2.lt HL.out.1)).cell 1
   obtain ⟨E, hE⟩ : ∃ E, oKeepE o q = E := ⟨_, rfl⟩; have HE := hid hE; clear hE; go_wp2_with fail; refine (okeep_any HI.out.1 (HQ.out.farO HI.out.2.1)).mono ?_; rintro e w2 ⟨rfl, hM2, hG2, hF2⟩; rw [HE.out] at hF2 ⊢; have H2 := hid (And.intro hM2 (And.intro hG2 hF2)); clear hM2 hG2 hF2 hLc
   by_cases h0 : E = 0
   ·subst h0
    have hok := zz126 HE.out; go_wp2_with fail
    go_roundw
    case rel => exact ⟨2, by go_num, by omega, by have := H2.out.1; rwa [hok] at this, HI.out.2.1.trans (H2.out.2.2 (by first | rfl | trivial)), (fun _ => HI.out.2.2.1 (by omega)), fun _ => HE.out⟩
    case measure => simp [intOf]
   ·have hd : (E == 0) = false := by simpa using h0
    go_wp2_with fail
    go_ret
    exact ⟨E, _, rfl, H2.out.1, zz82 HI.out.2.1.g H2.out.2.1, .inr (.inr ⟨HI.out.2.2.1 (by omega), by rw [HE.out]; exact h0, HE.out.symm, rfl⟩)⟩
  ·go_wp2_with fail
   go_ret
   exact ⟨0, o, rfl, HI.out.1, HI.out.2.1.g, .inl ⟨rfl, rfl, HI.out.2.2.1 (by omega), HI.out.2.2.2 (by omega), HI.out.2.1⟩⟩
open Lib (hid)
def dz : List Value := dcl 0 0 none 0 0 none 0 0 false none 0 0 none 0 0 0
def dva (a b : Int) (ho : Option Addr) (hn hc : Nat) (ta : Option Addr) (tn tc : Nat) (hq : Bool) (qo : Option Addr) (qn qc : Nat) (ro : Option Addr) (rn rc : Nat) (s : Int) : Value :=
 .agg #[.int .i64 a, .int .i64 b, .slice ho hn hc, .slice ta tn tc, .bool hq, .slice qo qn qc, .slice ro rn rc, .int .i64 s]
def RunW [Ol] (w : World) (mv : Value) (b0 : Option Nat) (P : Out → Prop) (K : Nat) (e : Ending) (w' : World) : Prop :=
 ∃ (u : Out) (a b : Int) (ho : Option Addr) (hn hc : Nat) (ta : Option Addr) (tn tc : Nat) (hq : Bool) (qo : Option Addr) (qn qc : Nat) (ro : Option Addr) (rn rc : Nat), P u ∧ e = .returned (.tuple #[dva a b ho hn hc ta tn tc hq qo qn qc ro rn rc (u.s : Int), .int .i64 u.e]) ∧ Pc K w' qo qn qc u.q ∧ Pc K w' ro rn rc u.r ∧ MvIs w' mv b0 u.o ∧ w.grownBy w' b0
def put8 (w : World) (b : Nat) (v0 v1 v2 v3 v4 v5 v6 v7 : Value) : World := (((((((w.setCell ⟨b, 0, none⟩ v0).setCell ⟨b, 1, none⟩ v1).setCell ⟨b, 2, none⟩ v2).setCell ⟨b, 3, none⟩ v3).setCell ⟨b, 4, none⟩ v4).setCell ⟨b, 5, none⟩ v5).setCell ⟨b, 6, none⟩ v6).setCell ⟨b, 7, none⟩ v7
theorem zz80 (w : World) (b : Nat) (v0 v1 v2 v3 v4 v5 v6 v7 : Value) : w.grownBy (put8 w b v0 v1 v2 v3 v4 v5 v6 v7) (some b) :=
 zz82 (zz82 (zz82 (zz82 (zz82 (zz82 (zz82 (zz77 _ _ _ _) (zz77 _ _ _ _)) (zz77 _ _ _ _)) (zz77 _ _ _ _)) (zz77 _ _ _ _)) (zz77 _ _ _ _)) (zz77 _ _ _ _)) (zz77 _ _ _ _)
theorem AtN.put8 {w : World} {b : Nat} {u0 u1 u2 u3 u4 u5 u6 u7 : Value} {T : TypeId} (h : AtN w b [u0, u1, u2, u3, u4, u5, u6, u7] T) (v0 v1 v2 v3 v4 v5 v6 v7 : Value) : AtN (Go.Proofs.YtodcddkiodmklaaGreat.put8 w b v0 v1 v2 v3 v4 v5 v6 v7) b [v0, v1, v2, v3, v4, v5, v6, v7] T :=
 (((((((h.set 0 v0).set 1 v1).set 2 v2).set 3 v3).set 4 v4).set 5 v5).set 6 v6).set 7 v7
theorem AtN.c8 {w : World} {b : Nat} {u0 u1 u2 u3 u4 u5 u6 u7 : Value} {T : TypeId} (h : AtN w b [u0, u1, u2, u3, u4, u5, u6, u7] T) : w.cell? ⟨b, 0, none⟩ = some u0 ∧ w.cell? ⟨b, 1, none⟩ = some u1 ∧ w.cell? ⟨b, 2, none⟩ = some u2 ∧ w.cell? ⟨b, 3, none⟩ = some u3 ∧ w.cell? ⟨b, 4, none⟩ = some u4 ∧ w.cell? ⟨b, 5, none⟩ = some u5 ∧ w.cell? ⟨b, 6, none⟩ = some u6 ∧ w.cell? ⟨b, 7, none⟩ = some u7 := ⟨h.cell 0, h.cell 1, h.cell 2, h.cell 3, h.cell 4, h.cell 5, h.cell 6, h.cell 7⟩
theorem AtN.f8 {w : World} {b : Nat} {vs : List Value} {T : TypeId} (h : AtN w b vs T) : w.frozen? ⟨b, 0, none⟩ = false ∧ w.frozen? ⟨b, 1, none⟩ = false ∧ w.frozen? ⟨b, 2, none⟩ = false ∧ w.frozen? ⟨b, 3, none⟩ = false ∧ w.frozen? ⟨b, 4, none⟩ = false ∧ w.frozen? ⟨b, 5, none⟩ = false ∧ w.frozen? ⟨b, 6, none⟩ = false ∧ w.frozen? ⟨b, 7, none⟩ = false := ⟨h.fz 0, h.fz 1, h.fz 2, h.fz 3, h.fz 4, h.fz 5, h.fz 6, h.fz 7⟩
theorem run_bad1 [Ol] {mv : Value} {b0 : Option Nat} {o : Option MS} {fo go_ : Option Addr} {fn fc gn gc : Nat} {fs : List Raw} {v : Int} {kq : Bool} {w : World} (hM : MvIs w mv b0 o) (hp : Pr w fo fn fc fs) (hl : ∀ t ∈ fs, t.1.2.length ≤ 1000) (h : mayR fs = false) :
  Calls Tryz.prog 36 #[mv, .slice fo fn fc, .slice go_ gn gc, .int .i64 v, .bool kq] w (RunW w mv b0 (fun u => u = ⟨[], [], 0, 2, o⟩) 0) := by
 have HP := hid hp; have HM := hid hM; clear hp hM
 go_enter Tryz.func36, Tryz.ntmps36
 go_upto_region 1 with (fail)
 refine zz233 (fun W hW => ?_)
 obtain ⟨Z, hZ⟩ : ∃ Z, Z = w.heap.size := ⟨_, rfl⟩
 have HZ : Hid (AtN W Z dz 80 ∧ Below w.heap.size w W ∧ w.heap.size ≤ Z) := by
  rw [hZ]
  exact ⟨by rw [hW]; exact AtN.new w dz 80, by rw [hW]; exact zz13 _ _, Nat.le_refl _⟩
 rw [← hZ]; clear hW hZ
 go_wp2_with fail; refine (zz147 false (HP.out.below HZ.out.2.1) hl h).mono ?_
 rintro e w1 ⟨rfl, hB⟩
 have HZ1 : Hid (AtN w1 Z dz 80 ∧ Below w.heap.size w w1 ∧ w.heap.size ≤ Z) := ⟨HZ.out.1.below hB, Below.steps HZ.out.2.1 hB, HZ.out.2.2⟩
 clear hB HZ; obtain ⟨d0, d1, d2, d3, d4, d5, d6, d7⟩ := HZ1.out.1.c8; obtain ⟨f0, f1, f2, f3, f4, f5, f6, f7⟩ := HZ1.out.1.f8; go_wp2_with fail; clear d0 d1 d2 d3 d4 d5 d6 d7 f0 f1 f2 f3 f4 f5 f6 f7
 refine zz149 (Q := bodyPost _ _ _ _ _) (fun W3 hW => ?_)
 have A : AtN W3 Z dz 80 := by rw [hW]; exact HZ1.out.1.put8 _ _ _ _ _ _ _ _
 have hG : w1.grownBy W3 (some Z) := by rw [hW]; exact zz80 _ _ _ _ _ _ _ _ _ _
 have hB : Below w.heap.size w W3 := HZ1.out.2.1.trans (zz15 hG HZ1.out.2.2 HZ1.out.2.1.size)
 have HR : Hid (RunW w mv b0 (fun u => u = ⟨[], [], 0, 2, o⟩) 0 (.returned (.tuple #[dva 0 0 none 0 0 none 0 0 false none 0 0 none 0 0 0, .int .i64 2])) W3) := ⟨⟨[], [], 0, 2, o⟩, _, _, _, _, _, _, _, _, _, _, _, _, _, _, _, rfl, rfl, Pc.zero _ _, Pc.zero _ _, HM.out.below hB, zz74 _ hB⟩
 clear hW hG hB; obtain ⟨d0, d1, d2, d3, d4, d5, d6, d7⟩ := A.c8
 refine bodyPost_ret (v := .tuple #[dva 0 0 none 0 0 none 0 0 false none 0 0 none 0 0 0, .int .i64 2]) (by simp [results, Tryz.results36, go_sem, d0, d1, d2, d3, d4, d5, d6, d7, dva]) rfl HR.out
theorem run_bad2 [Ol] {mv : Value} {b0 : Option Nat} {o : Option MS} {fo go_ : Option Addr} {fn fc gn gc : Nat} {fs : List Raw} {v : Int} {kq : Bool} {w : World} (hM : MvIs w mv b0 o) (hp : Pr w fo fn fc fs) (hl : ∀ t ∈ fs, t.1.2.length ≤ 1000) (h : mayR fs = true) {gs : List Raw} (hg : Pr w go_ gn gc gs) (hlg : ∀ t ∈ gs, t.1.2.length ≤ 1000) (hd : degP (plnR gs) v = 0) :
  Calls Tryz.prog 36 #[mv, .slice fo fn fc, .slice go_ gn gc, .int .i64 v, .bool kq] w (RunW w mv b0 (fun u => u = ⟨[], [], 0, 2, o⟩) 0) := by
 have HP := hid hp; have HM := hid hM; have HG := hid hg; have HD := hid hd; clear hp hM hg hd
 go_enter Tryz.func36, Tryz.ntmps36
 go_upto_region 1 with (fail)
 refine zz233 (fun W hW => ?_)
 obtain ⟨Z, hZ⟩ : ∃ Z, Z = w.heap.size := ⟨_, rfl⟩
 have HZ : Hid (AtN W Z dz 80 ∧ Below w.heap.size w W ∧ w.heap.size ≤ Z) := by
  rw [hZ]
  exact ⟨by rw [hW]; exact AtN.new w dz 80, by rw [hW]; exact zz13 _ _, Nat.le_refl _⟩
 rw [← hZ]; clear hW hZ
 go_wp2_with fail; refine (zz147 true (HP.out.below HZ.out.2.1) hl h).mono ?_
 rintro e w0 ⟨rfl, hB⟩; have HB0 := hid hB; clear hB; go_wp2_with fail; refine (vDegree_any v 0 ((HG.out.below HZ.out.2.1).below HB0.out) hlg HD.out).mono ?_; rintro e w1 ⟨rfl, hB1⟩; have hB := Below.steps HB0.out hB1; clear hB1 HB0
 have HZ1 : Hid (AtN w1 Z dz 80 ∧ Below w.heap.size w w1 ∧ w.heap.size ≤ Z) := ⟨HZ.out.1.below hB, Below.steps HZ.out.2.1 hB, HZ.out.2.2⟩
 clear hB HZ; obtain ⟨d0, d1, d2, d3, d4, d5, d6, d7⟩ := HZ1.out.1.c8; obtain ⟨f0, f1, f2, f3, f4, f5, f6, f7⟩ := HZ1.out.1.f8; go_wp2_with fail; clear d0 d1 d2 d3 d4 d5 d6 d7 f0 f1 f2 f3 f4 f5 f6 f7
 refine zz149 (Q := bodyPost _ _ _ _ _) (fun W3 hW => ?_)
 have A : AtN W3 Z dz 80 := by rw [hW]; exact HZ1.out.1.put8 _ _ _ _ _ _ _ _
 have hG : w1.grownBy W3 (some Z) := by rw [hW]; exact zz80 _ _ _ _ _ _ _ _ _ _
 have hB : Below w.heap.size w W3 := HZ1.out.2.1.trans (zz15 hG HZ1.out.2.2 HZ1.out.2.1.size)
 have HR : Hid (RunW w mv b0 (fun u => u = ⟨[], [], 0, 2, o⟩) 0 (.returned (.tuple #[dva 0 0 none 0 0 none 0 0 false none 0 0 none 0 0 0, .int .i64 2])) W3) := ⟨⟨[], [], 0, 2, o⟩, _, _, _, _, _, _, _, _, _, _, _, _, _, _, _, rfl, rfl, Pc.zero _ _, Pc.zero _ _, HM.out.below hB, zz74 _ hB⟩
 clear hW hG hB; obtain ⟨d0, d1, d2, d3, d4, d5, d6, d7⟩ := A.c8
 refine bodyPost_ret (v := .tuple #[dva 0 0 none 0 0 none 0 0 false none 0 0 none 0 0 0, .int .i64 2]) (by simp [results, Tryz.results36, go_sem, d0, d1, d2, d3, d4, d5, d6, d7, dva]) rfl HR.out
open Lib (hid)
theorem zz76 {w V W : World} {b0 : Option Nat} {D : Nat} (h : w.grownBy V b0) (k : V.grownBy W (some D)) (hD : w.heap.size ≤ D) : w.grownBy W b0 :=
 ⟨k.os.trans h.os, k.tape.trans h.tape, k.output.trans h.output, Nat.le_trans h.size k.size, fun i hi hne => (k.block i (Nat.lt_of_lt_of_le hi h.size) (fun e => by cases e; omega)).trans (h.block i hi hne)⟩
theorem Pc.bds [Ol] {K : Nat} {w : World} {ao : Option Addr} {n cap : Nat} {p : List Term} (h : Pc K w ao n cap p) : ∀ t ∈ p, Bd t.1 K := fun t ht => by
 obtain ⟨i, hi, rfl⟩ := List.mem_iff_getElem.1 ht
 obtain ⟨_, _, _, _, _, _, _, _, _, _, _, _, _, hb, _⟩ := h.at (k := i) (by rw [← h.len]; exact hi)
 rwa [getD_of _ hi] at hb
theorem hd_bds {K : Nat} {p : List Term} {v : Int} (h : ∀ t ∈ p, Bd t.1 K) : ∀ t ∈ hdP p v, Bd t.1 K := fun t ht => by
 obtain ⟨s, hs, _, rfl⟩ := hd_mem ht
 exact h s hs
theorem parts_far [Ol] {a : Int} {ho ta : Option Addr} {hn hc tn tc : Nat} {w w' : World} {X : Nat} (hlo : Ol.lo ≤ X) (hA : AtN w X [.int .i64 a, .slice ho hn hc, .slice ta tn tc] 78) (hG : w.grownBy w' (some X)) : FarB w w' X :=
 FarB.mk' hlo hA (by decide) ⟨.int .i64 a, by simp, rfl⟩ (fun u hu => by simp at hu; rcases hu with rfl | rfl | rfl <;> rfl) hG
theorem qk_step {kq : Bool} {g r q : List Term} {v : Int} : (if kq = true then stQ g v (qk kq q) r else qk kq q) = qk kq (stQ g v q r) := by cases kq <;> rfl
theorem qk_fall {kq : Bool} {q : List Term} (h : fall q) : fall (qk kq q) := by cases kq <;> first | exact h | trivial
theorem qk_eb {kq : Bool} {q : List Term} {E : Int} (h : EB q E) : EB (qk kq q) E := by cases kq <;> first | exact h | (intro t ht; cases ht)
structure RunI [Ol] (w : World) (g f : List Term) (v : Int) (kq : Bool) (o : Option MS) (mv : Value) (b0 : Option Nat) (K Z D : Nat) (ho : Option Addr) (hn hc : Nat) (ta : Option Addr) (tn tc : Nat) (n X : Nat) (V : World) : Prop where
 z : AtN V Z dz 80
 d : ∃ qo qn qc ro rn rc, AtN V D (dcl v (degP g v) ho hn hc ta tn tc kq qo qn qc ro rn rc (n : Int)) 80 ∧ Pc K V qo qn qc (qk kq (itP g v f n).1) ∧ Pc K V ro rn rc (itP g v f n).2
 x : ∃ xo xn xc yo yn yc, AtN V X [.int .i64 (degP (itP g v f n).2 v), .slice xo xn xc, .slice yo yn yc] 78 ∧ Pc K V xo xn xc (hdP (itP g v f n).2 v) ∧ Pc K V yo yn yc (tlP (itP g v f n).2 v)
 h : Pc K V ho hn hc (hdP g v)
 t : Pc K V ta tn tc (tlP g v)
 m : MvIs V mv b0 (oN o n)
 gr : w.grownBy V b0
 go : ∀ j, j < n → Goes g f v kq o j
 dx : D < X
theorem run_any [Ol] {K N : Nat} {E F : Int} {mv : Value} {b0 : Option Nat} {o : Option MS} {fo go_ : Option Addr} {fn fc gn gc : Nat} {f g : List Term} {v : Int} {kq : Bool} {w : World} (hM : MvIs w mv b0 o) (hf : Pc K w fo fn fc f) (hg : Pc K w go_ gn gc g) (hd : DivOk g f v E F N)
  (hsz : ∀ n, Long g v f n → SzOk g (qk kq (itP g v f n).1) (itP g v f n).2 K) (hK : K ≤ 890) (hN : N ≤ 1000) (hlo : Ol.lo ≤ w.heap.size) :
  Calls Tryz.prog 36 #[mv, .slice fo fn fc, .slice go_ gn gc, .int .i64 v, .bool kq] w (RunW w mv b0 (Ends g f v kq o) K) := by
 have HDV := hid hd; have HSZ := hid hsz; have HM0 := hid hM; have HPs := hid (And.intro hf hg); have HLO := hid hlo
 have hsz0 := hsz 0 (fun j hj => by omega)
 have hfn : fn ≤ 100000 := by have h1 := hsz0.ll; have h2 := hf.len; exact (show f.length ≤ 100000 from h1) |> fun h => by omega
 have hgn : gn ≤ 100 := by have h1 := hsz0.lg; have h2 := hg.len; omega
 obtain ⟨z, hz⟩ : ∃ z, degP g v = z := ⟨_, rfl⟩
 have HZV : Hid (degP g v = z ∧ z ≠ 0) := ⟨hz, by have := hd.h1; omega⟩
 have hz0 : (z == 0) = false := by have := HZV.out.2; simpa using this
 have hmf : ∀ (fn : Fn) (first cap : Array Value) (w : World), (Instr.makeFunc fn first cap).run Tryz.prog w = .ok (.func fn first cap) w := fun _ _ _ _ => rfl
 clear hd hsz hM hf hg hlo hsz0 hz
 go_enter Tryz.func36, Tryz.ntmps36
 go_upto_region 1 with (fail)
 refine zz233 (fun W hW => ?_)
 obtain ⟨Z, hZ⟩ : ∃ Z, Z = w.heap.size := ⟨_, rfl⟩
 have HV0 : Hid ((AtN W Z dz 80) ∧ (Pc K W fo fn fc f) ∧ (Pc K W go_ gn gc g) ∧ (MvIs W mv b0 o) ∧ w.grownBy W b0) := by
  have hB : Below w.heap.size w W := by rw [hW]; exact zz13 _ _
  exact ⟨by rw [hW, hZ]; exact AtN.new w dz 80, HPs.out.1.below hB, HPs.out.2.below hB, HM0.out.below hB, zz74 _ hB⟩
 have HZE : Hid (w.heap.size ≤ Z ∧ Z < W.heap.size ∧ w.heap.size ≤ W.heap.size) := ⟨by omega, HV0.out.1.lt, by rw [hW]; simp⟩
 have HNE : Hid (∀ c, w.heap.size ≤ c → some c ≠ b0) := fun c hc e => by have := HM0.out.lt c e.symm; omega
 rw [← hZ]; clear hW hZ HPs HM0
 go_wp2_with fail
 refine (zz105 HV0.out.2.1 HDV.out.ff (by omega)).mono ?_
 rintro e w1 ⟨rfl, hB⟩
 have HV1 : Hid ((AtN w1 Z dz 80) ∧ (Pc K w1 fo fn fc f) ∧ (Pc K w1 go_ gn gc g) ∧ (MvIs w1 mv b0 o) ∧ w.grownBy w1 b0) := ⟨HV0.out.1.below hB, HV0.out.2.1.below hB, HV0.out.2.2.1.below hB, HV0.out.2.2.2.1.below hB, zz82 HV0.out.2.2.2.2 (zz74 _ hB)⟩
 have HS1 := hid (Nat.le_trans HZE.out.2.2 hB.size); clear hB HV0; go_wp2_with fail
 refine (vDegreeC_any v z HV1.out.2.2.1 HDV.out.fg (by omega) HZV.out.1).mono ?_
 rintro e w2 ⟨rfl, hB⟩
 have HV2 : Hid ((AtN w2 Z dz 80) ∧ (Pc K w2 fo fn fc f) ∧ (Pc K w2 go_ gn gc g) ∧ (MvIs w2 mv b0 o) ∧ w.grownBy w2 b0) := ⟨HV1.out.1.below hB, HV1.out.2.1.below hB, HV1.out.2.2.1.below hB, HV1.out.2.2.2.1.below hB, zz82 HV1.out.2.2.2.2 (zz74 _ hB)⟩
 have HS2 := hid (Nat.le_trans HS1.out hB.size); clear hB HV1 HS1; go_wp2_with fail
 refine (padd_any HV2.out.2.1 (Pc.zero K w2) HDV.out.ff trivial (by omega) (by omega)).mono ?_
 rintro e w3 ⟨ro, rn, rc, rfl, hR, hB⟩; have hR2 := hR.lower (K := K) (p := f) (Pc.bds HV2.out.2.1)
 have HV3 : Hid ((AtN w3 Z dz 80) ∧ (Pc K w3 fo fn fc f) ∧ (Pc K w3 go_ gn gc g) ∧ (MvIs w3 mv b0 o) ∧ (Pc K w3 ro rn rc f) ∧ w.grownBy w3 b0) := ⟨HV2.out.1.below hB, HV2.out.2.1.below hB, HV2.out.2.2.1.below hB, HV2.out.2.2.2.1.below hB, hR2, zz82 HV2.out.2.2.2.2 (zz74 _ hB)⟩
 have HS3 := hid (Nat.le_trans HS2.out hB.size); have hgb := hd_bds (v := v) (Pc.bds HV3.out.2.2.1); have HGB := hid hgb; have hfb := hd_bds (v := v) (Pc.bds HV3.out.2.1); have HFB := hid hfb; clear hB hR hR2 hgb hfb HV2 HS2; go_wp2_with fail
 refine (zz141 v HV3.out.2.2.1 HDV.out.fg HDV.out.hv (by omega) (by omega) (Nat.le_trans HLO.out HS3.out)).mono ?_
 rintro e w4 ⟨ho, hn, hc, ta, tn, tc, rfl, hH, hT, hB⟩; have hH2 := hH.lower HGB.out
 have HV4 : Hid ((AtN w4 Z dz 80) ∧ (MvIs w4 mv b0 o) ∧ (Pc K w4 ro rn rc f) ∧ (Pc K w4 ho hn hc (hdP g v)) ∧ (Pc K w4 ta tn tc (tlP g v)) ∧ w.grownBy w4 b0) := ⟨HV3.out.1.below hB, HV3.out.2.2.2.1.below hB, HV3.out.2.2.2.2.1.below hB, hH2, hT, zz82 HV3.out.2.2.2.2.2 (zz74 _ hB)⟩
 have HS4 := hid (Nat.le_trans HS3.out hB.size); have hzlt := HV4.out.1.lt; clear hB hH hH2 hT HV3 HS3
 go_upto_region 6 with (fail)
 refine zz233 (fun W5 hW => ?_)
 obtain ⟨D, hD⟩ : ∃ D, D = w4.heap.size := ⟨_, rfl⟩
 have HV5 : Hid ((AtN W5 Z dz 80) ∧ (MvIs W5 mv b0 o) ∧ (Pc K W5 ro rn rc f) ∧ (Pc K W5 ho hn hc (hdP g v)) ∧ (Pc K W5 ta tn tc (tlP g v)) ∧ (AtN W5 D (dcl v (degP g v) ho hn hc ta tn tc kq none 0 0 ro rn rc 0) 80) ∧ w.grownBy W5 b0) := by
  have hB : Below w4.heap.size w4 W5 := by rw [hW]; exact zz13 _ _
  exact ⟨HV4.out.1.below hB, HV4.out.2.1.below hB, HV4.out.2.2.1.below hB, HV4.out.2.2.2.1.below hB, HV4.out.2.2.2.2.1.below hB, by rw [hW, hD]; exact AtN.new w4 _ _, zz82 HV4.out.2.2.2.2.2 (zz74 _ hB)⟩
 have HF0 : Hid (w.heap.size ≤ Z ∧ w.heap.size ≤ D ∧ Z < D) := ⟨HZE.out.1, by rw [hD]; exact HS4.out, by rw [hD]; exact hzlt⟩
 have HS5 : Hid (w.heap.size ≤ W5.heap.size) := by rw [hW]; exact Nat.le_trans HS4.out (zz13 _ _).size
 rw [← hD]
 have c6 : W5.cell? ⟨D, 6, none⟩ = some (.slice ro rn rc) := HV5.out.2.2.2.2.2.1.cell 6
 clear hW hD hzlt HV4 HS4; go_wp2_with fail
 refine (zz141 v HV5.out.2.2.1 HDV.out.ff HDV.out.hv (by have := HV5.out.2.2.1.len; have := (HSZ.out 0 (fun j hj => by omega)).ll; exact (show f.length ≤ 100000 from this) |> fun h => by omega) (by omega) (Nat.le_trans HLO.out HS5.out)).mono ?_
 rintro e w6 ⟨xo, xn, xc, yo, yn, yc, rfl, hH, hT, hB⟩; have hH2 := hH.lower HFB.out
 have HV6 : Hid ((AtN w6 Z dz 80) ∧ (MvIs w6 mv b0 o) ∧ (Pc K w6 ro rn rc f) ∧ (Pc K w6 ho hn hc (hdP g v)) ∧ (Pc K w6 ta tn tc (tlP g v)) ∧ (AtN w6 D (dcl v (degP g v) ho hn hc ta tn tc kq none 0 0 ro rn rc 0) 80) ∧ (Pc K w6 xo xn xc (hdP f v)) ∧ (Pc K w6 yo yn yc (tlP f v)) ∧ w.grownBy w6 b0) := ⟨HV5.out.1.below hB, HV5.out.2.1.below hB, HV5.out.2.2.1.below hB, HV5.out.2.2.2.1.below hB, HV5.out.2.2.2.2.1.below hB, HV5.out.2.2.2.2.2.1.below hB, hH2, hT, zz82 HV5.out.2.2.2.2.2.2 (zz74 _ hB)⟩
 have HS6 := hid (Nat.le_trans HS5.out hB.size); have hdlt := HV6.out.2.2.2.2.2.1.lt; clear hB hH hH2 hT c6 HV5 HS5
 have HK0 : Hid (∀ W, W = w6.alloc (.cells #[.int .i64 (degP f v), .slice xo xn xc, .slice yo yn yc] 78) → RunI w g f v kq o mv b0 K Z D ho hn hc ta tn tc 0 w6.heap.size W) := fun W hW => by
  have hB : Below w6.heap.size w6 W := by rw [hW]; exact zz13 _ _
  have e : qk kq (itP g v f 0).1 = [] := by cases kq <;> rfl
  exact ⟨HV6.out.1.below hB, ⟨none, 0, 0, ro, rn, rc, HV6.out.2.2.2.2.2.1.below hB, by rw [e]; exact Pc.zero K W, HV6.out.2.2.1.below hB⟩, ⟨xo, xn, xc, yo, yn, yc, by rw [hW]; exact AtN.new w6 _ _, HV6.out.2.2.2.2.2.2.1.below hB, HV6.out.2.2.2.2.2.2.2.1.below hB⟩, HV6.out.2.2.2.1.below hB, HV6.out.2.2.2.2.1.below hB, HV6.out.2.1.below hB, zz82 HV6.out.2.2.2.2.2.2.2.2 (zz74 _ hB), fun j hj => by omega, hdlt⟩
 clear hdlt HS6 HFB HV6
 go_wp2
 go_loopw [16] (fun s16 wr => ∃ n X : Nat, s16 = .pointer (some ⟨X, 0, none⟩) ∧ Hid (RunI w g f v kq o mv b0 K Z D ho hn hc ta tn tc n X wr)) (fun _ wr => N + 1 - (intOf ((wr.cell? ⟨D, 7, none⟩).getD (.int .i64 0))).toNat)
 case atStart => exact ⟨0, _, rfl, HK0.out _ rfl⟩
 case round =>
  clear HK0; obtain ⟨n, X, rfl, HI⟩ := hrel; have HGO := hid HI.out.go
  have HXG : Hid (D < X) := HI.out.dx
  have hlong : Long g v f n := zz73 HGO.out
  have hit := HDV.out.it n hlong; have hnN := HDV.out.steps hlong; have hsz := HSZ.out n hlong; obtain ⟨qo, qn, qc, ro, rn, rc, hD, hQ, hR⟩ := HI.out.d; obtain ⟨xo, xn, xc, yo, yn, yc, hX, hRH, hRT⟩ := HI.out.x
  have HV0 : Hid ((AtN wr Z dz 80) ∧ (AtN wr D (dcl v (degP g v) ho hn hc ta tn tc kq qo qn qc ro rn rc (n : Int)) 80) ∧ (AtN wr X [.int .i64 (degP (itP g v f n).2 v), .slice xo xn xc, .slice yo yn yc] 78) ∧ (Pc K wr ho hn hc (hdP g v)) ∧ (Pc K wr ta tn tc (tlP g v)) ∧ (Pc K wr qo qn qc (qk kq (itP g v f n).1)) ∧ (Pc K wr ro rn rc (itP g v f n).2) ∧ (Pc K wr xo xn xc (hdP (itP g v f n).2 v)) ∧ (Pc K wr yo yn yc (tlP (itP g v f n).2 v)) ∧ (MvIs wr mv b0 (oN o n)) ∧ w.grownBy wr b0) := ⟨HI.out.z, hD, hX, HI.out.h, HI.out.t, hQ, hR, hRH, hRT, HI.out.m, HI.out.gr⟩
  have HIT := hid hit; have HS := hid hsz; clear HI hlong hit hsz hD hQ hR hX hRH hRT; obtain ⟨y, hy⟩ : ∃ y, degP (itP g v f n).2 v = y := ⟨_, rfl⟩; have HY := hid hy
  have x0 : wr.cell? ⟨X, 0, none⟩ = some (.int .i64 y) := by rw [← hy]; exact HV0.out.2.2.1.cell 0
  have e1 : wr.cell? ⟨D, 1, none⟩ = some (.int .i64 (degP g v)) := HV0.out.2.1.cell 1
  clear hy
  have HWR : Hid (wr.cell? ⟨D, 7, none⟩ = some (.int .i64 (n : Int))) := HV0.out.2.1.cell 7
  by_cases hyd : degP g v ≤ y
  ·have hge : decide (degP g v ≤ y) = true := decide_eq_true hyd
   have hln : degP g v ≤ degP (itP g v f n).2 v := by rw [HY.out]; exact hyd
   have hst := HDV.out.stepOk HIT.out hln; have HST := hid hst.1; have HLN := hid hln; clear hst hln; obtain ⟨E1, hE⟩ : ∃ E1, oStepE (oN o n) = E1 := ⟨_, rfl⟩; have HE := hid hE; clear hE; go_wp2_with fail; refine (ostep_any HV0.out.2.2.2.2.2.2.2.2.2.1).mono ?_; rintro e w1 ⟨rfl, hM1, hG1, hF1⟩; rw [HE.out] at hF1 ⊢
   by_cases h0 : E1 = 0
   ·subst h0
    have hFO := hF1 (by first | rfl | trivial)
    have HV1 : Hid ((AtN w1 Z dz 80) ∧ (AtN w1 D (dcl v (degP g v) ho hn hc ta tn tc kq qo qn qc ro rn rc (n : Int)) 80) ∧ (AtN w1 X [.int .i64 (degP (itP g v f n).2 v), .slice xo xn xc, .slice yo yn yc] 78) ∧ (Pc K w1 ho hn hc (hdP g v)) ∧ (Pc K w1 ta tn tc (tlP g v)) ∧ (Pc K w1 qo qn qc (qk kq (itP g v f n).1)) ∧ (Pc K w1 ro rn rc (itP g v f n).2) ∧ (Pc K w1 xo xn xc (hdP (itP g v f n).2 v)) ∧ (Pc K w1 yo yn yc (tlP (itP g v f n).2 v)) ∧ (MvIs w1 mv b0 (oN o (n + 1))) ∧ w.grownBy w1 b0) := ⟨HV0.out.1.keep (hFO.g.block _ HV0.out.1.lt (HNE.out _ HF0.out.1)), HV0.out.2.1.keep (hFO.g.block _ HV0.out.2.1.lt (HNE.out _ HF0.out.2.1)), HV0.out.2.2.1.keep (hFO.g.block _ HV0.out.2.2.1.lt (HNE.out _ (by have := HXG.out; have := HF0.out; omega))), HV0.out.2.2.2.1.farO hFO, HV0.out.2.2.2.2.1.farO hFO, HV0.out.2.2.2.2.2.1.farO hFO, HV0.out.2.2.2.2.2.2.1.farO hFO, HV0.out.2.2.2.2.2.2.2.1.farO hFO, HV0.out.2.2.2.2.2.2.2.2.1.farO hFO, hM1, zz82 HV0.out.2.2.2.2.2.2.2.2.2.2 hFO.g⟩
    clear hM1 hG1 hF1 hFO x0 e1 HV0
    have x0 : w1.cell? ⟨X, 0, none⟩ = some (.int .i64 y) := by rw [← HY.out]; exact HV1.out.2.2.1.cell 0
    have x1 : w1.cell? ⟨X, 1, none⟩ = some (.slice xo xn xc) := HV1.out.2.2.1.cell 1
    have x2 : w1.cell? ⟨X, 2, none⟩ = some (.slice yo yn yc) := HV1.out.2.2.1.cell 2
    go_wp2_with fail
    have hstep := step_any HV1.out.2.1 HV1.out.2.2.2.1 HV1.out.2.2.2.2.1 HV1.out.2.2.2.2.2.1 HV1.out.2.2.2.2.2.2.2.1 HV1.out.2.2.2.2.2.2.2.2.1 HST.out (qk_fall HIT.out.fq) (qk_eb HIT.out.eq) HS.out (by omega) (Nat.le_trans HLO.out HF0.out.2.1) (by omega)
    rw [HY.out] at hstep
    refine hstep.mono ?_
    rintro e w2 ⟨q2o, q2n, q2c, r2o, r2n, r2c, rfl, hD2, hR2, hQ2, hG2⟩; rw [qk_step] at hQ2; have hFB := dcl_far (Nat.le_trans HLO.out HF0.out.2.1) HV1.out.2.1 hG2
    have HV2 : Hid ((AtN w2 Z dz 80) ∧ (AtN w2 D (dcl v (degP g v) ho hn hc ta tn tc kq q2o q2n q2c r2o r2n r2c ((n + 1 : Nat) : Int)) 80) ∧ (AtN w2 X [.int .i64 (degP (itP g v f n).2 v), .slice xo xn xc, .slice yo yn yc] 78) ∧ (Pc K w2 ho hn hc (hdP g v)) ∧ (Pc K w2 ta tn tc (tlP g v)) ∧ (Pc K w2 q2o q2n q2c (qk kq (itP g v f (n + 1)).1)) ∧ (Pc K w2 r2o r2n r2c (itP g v f (n + 1)).2) ∧ (MvIs w2 mv b0 (oN o (n + 1))) ∧ w.grownBy w2 b0) := ⟨HV1.out.1.keep (hG2.block _ HV1.out.1.lt (fun e => by cases e; have := HF0.out; have := HXG.out; omega)), hD2, HV1.out.2.2.1.keep (hG2.block _ HV1.out.2.2.1.lt (fun e => by cases e; have := HF0.out; have := HXG.out; omega)), HV1.out.2.2.2.1.farB hFB, HV1.out.2.2.2.2.1.farB hFB, hQ2, hR2, HV1.out.2.2.2.2.2.2.2.2.2.1.keep (fun b hb => hG2.block b (HV1.out.2.2.2.2.2.2.2.2.2.1.lt b hb) (fun e => HNE.out _ HF0.out.2.1 (by rw [← e]; exact hb.symm))), zz76 HV1.out.2.2.2.2.2.2.2.2.2.2 hG2 HF0.out.2.1⟩
    clear hstep hD2 hR2 hQ2 hG2 hFB x0 x1 x2 HV1
    have c6 : w2.cell? ⟨D, 6, none⟩ = some (.slice r2o r2n r2c) := HV2.out.2.1.cell 6
    have c5 : w2.cell? ⟨D, 5, none⟩ = some (.slice q2o q2n q2c) := HV2.out.2.1.cell 5
    go_wp2_with fail; obtain ⟨V3, hV3⟩ : ∃ V3, V3 = w2.alloc (.cells #[.slice r2o r2n r2c, .slice q2o q2n q2c] 23) := ⟨_, rfl⟩
    rw [← hV3]; obtain ⟨L, hL⟩ : ∃ L, L = w2.heap.size := ⟨_, rfl⟩
    rw [← hL]; have hDl := HV2.out.2.1.lt
    have HV3 : Hid ((AtN V3 Z dz 80) ∧ (AtN V3 D (dcl v (degP g v) ho hn hc ta tn tc kq q2o q2n q2c r2o r2n r2c ((n + 1 : Nat) : Int)) 80) ∧ (AtN V3 X [.int .i64 (degP (itP g v f n).2 v), .slice xo xn xc, .slice yo yn yc] 78) ∧ (Pc K V3 ho hn hc (hdP g v)) ∧ (Pc K V3 ta tn tc (tlP g v)) ∧ (Pc K V3 q2o q2n q2c (qk kq (itP g v f (n + 1)).1)) ∧ (Pc K V3 r2o r2n r2c (itP g v f (n + 1)).2) ∧ (MvIs V3 mv b0 (oN o (n + 1))) ∧ (AtN V3 L [.slice r2o r2n r2c, .slice q2o q2n q2c] 23) ∧ w.grownBy V3 b0) := by
     have hB : Below w2.heap.size w2 V3 := by rw [hV3]; exact zz13 _ _
     exact ⟨HV2.out.1.below hB, HV2.out.2.1.below hB, HV2.out.2.2.1.below hB, HV2.out.2.2.2.1.below hB, HV2.out.2.2.2.2.1.below hB, HV2.out.2.2.2.2.2.1.below hB, HV2.out.2.2.2.2.2.2.1.below hB, HV2.out.2.2.2.2.2.2.2.1.below hB, by rw [hV3, hL]; exact AtN.new w2 _ _, zz82 HV2.out.2.2.2.2.2.2.2.2 (zz74 _ hB)⟩
    have hLg : w.heap.size ≤ L := by have := HF0.out; omega
    clear hV3 hL hDl c6 c5 HV2; refine (first_any HV3.out.2.2.2.2.2.2.2.1 HV3.out.2.2.2.2.2.2.2.2.1 (HNE.out _ hLg) HV3.out.2.2.2.2.2.2.1 HV3.out.2.2.2.2.2.1).mono ?_; rintro e w3 ⟨E2, o2, rfl, hM3, hG3, hcase⟩
    rcases hcase with ⟨rfl, rfl, k1, k2, hFO⟩ | ⟨k1, rfl, rfl⟩ | ⟨k1, k2, rfl, rfl⟩
    ·have HV4 : Hid ((AtN w3 Z dz 80) ∧ (AtN w3 D (dcl v (degP g v) ho hn hc ta tn tc kq q2o q2n q2c r2o r2n r2c ((n + 1 : Nat) : Int)) 80) ∧ (AtN w3 X [.int .i64 (degP (itP g v f n).2 v), .slice xo xn xc, .slice yo yn yc] 78) ∧ (Pc K w3 ho hn hc (hdP g v)) ∧ (Pc K w3 ta tn tc (tlP g v)) ∧ (Pc K w3 q2o q2n q2c (qk kq (itP g v f (n + 1)).1)) ∧ (Pc K w3 r2o r2n r2c (itP g v f (n + 1)).2) ∧ (MvIs w3 mv b0 (oN o (n + 1))) ∧ w.grownBy w3 b0) := ⟨HV3.out.1.keep (hFO.g.block _ HV3.out.1.lt (HNE.out _ HF0.out.1)), HV3.out.2.1.keep (hFO.g.block _ HV3.out.2.1.lt (HNE.out _ HF0.out.2.1)), HV3.out.2.2.1.keep (hFO.g.block _ HV3.out.2.2.1.lt (HNE.out _ (by have := HXG.out; have := HF0.out; omega))), HV3.out.2.2.2.1.farO hFO, HV3.out.2.2.2.2.1.farO hFO, HV3.out.2.2.2.2.2.1.farO hFO, HV3.out.2.2.2.2.2.2.1.farO hFO, hM3, zz82 HV3.out.2.2.2.2.2.2.2.2.2 hFO.g⟩
     have HGO2 : Hid (∀ j, j < n + 1 → Goes g f v kq o j) := fun j hj => by
      rcases Nat.lt_succ_iff_lt_or_eq.1 hj with h | h
      ·exact HGO.out j h
      ·subst h; exact ⟨HLN.out, HE.out, k1, k2⟩
     clear hM3 hG3 hFO k1 k2 HV3 hLg
     have x0 : w3.cell? ⟨X, 0, none⟩ = some (.int .i64 y) := by rw [← HY.out]; exact HV4.out.2.2.1.cell 0
     have x1 : w3.cell? ⟨X, 1, none⟩ = some (.slice xo xn xc) := HV4.out.2.2.1.cell 1
     have x2 : w3.cell? ⟨X, 2, none⟩ = some (.slice yo yn yc) := HV4.out.2.2.1.cell 2
     go_upto_region 8 with (fail)
     refine zz233 (fun W4 hW => ?_)
     obtain ⟨X2, hX2⟩ : ∃ X2, X2 = w3.heap.size := ⟨_, rfl⟩; have hDl := HV4.out.2.1.lt
     have HV5 : Hid ((AtN W4 Z dz 80) ∧ (AtN W4 D (dcl v (degP g v) ho hn hc ta tn tc kq q2o q2n q2c r2o r2n r2c ((n + 1 : Nat) : Int)) 80) ∧ (Pc K W4 ho hn hc (hdP g v)) ∧ (Pc K W4 ta tn tc (tlP g v)) ∧ (Pc K W4 q2o q2n q2c (qk kq (itP g v f (n + 1)).1)) ∧ (Pc K W4 r2o r2n r2c (itP g v f (n + 1)).2) ∧ (MvIs W4 mv b0 (oN o (n + 1))) ∧ (AtN W4 X2 [.int .i64 y, .slice xo xn xc, .slice yo yn yc] 78) ∧ w.grownBy W4 b0) := by
      have hB : Below w3.heap.size w3 W4 := by rw [hW]; exact zz13 _ _
      exact ⟨HV4.out.1.below hB, HV4.out.2.1.below hB, HV4.out.2.2.2.1.below hB, HV4.out.2.2.2.2.1.below hB, HV4.out.2.2.2.2.2.1.below hB, HV4.out.2.2.2.2.2.2.1.below hB, HV4.out.2.2.2.2.2.2.2.1.below hB, by rw [hW, hX2]; exact AtN.new w3 _ _, zz82 HV4.out.2.2.2.2.2.2.2.2 (zz74 _ hB)⟩
     have HXG2 : Hid (D < X2) := by rw [hX2]; exact hDl
     have HS4 : Hid (w.heap.size ≤ W4.heap.size) := by have := HF0.out; have := (show w3.heap.size ≤ W4.heap.size by rw [hW]; exact (zz13 _ _).size); rw [Hid]; omega
     rw [← hX2]; clear hW hX2 hDl x0 x1 x2 HV4
     have c6 : W4.cell? ⟨D, 6, none⟩ = some (.slice r2o r2n r2c) := HV5.out.2.1.cell 6
     have hit2 := HDV.out.it (n + 1) (zz73 HGO2.out)
     have hr2n : r2n ≤ 100000 := by have h1 := (HSZ.out (n + 1) (zz73 HGO2.out)).ll; have h2 := HV5.out.2.2.2.2.2.1.len; omega
     have HIT2 := hid hit2; clear hit2; go_wp2_with fail
     refine (zz141 v HV5.out.2.2.2.2.2.1 HIT2.out.fr HDV.out.hv (by omega) (by omega) (Nat.le_trans HLO.out HS4.out)).mono ?_
     rintro e w5 ⟨uo, un, uc, zo, zn, zc, rfl, hH, hT, hB⟩; have hH2 := hH.lower (hd_bds (v := v) (Pc.bds HV5.out.2.2.2.2.2.1))
     have HV6 : Hid ((AtN w5 Z dz 80) ∧ (AtN w5 D (dcl v (degP g v) ho hn hc ta tn tc kq q2o q2n q2c r2o r2n r2c ((n + 1 : Nat) : Int)) 80) ∧ (Pc K w5 ho hn hc (hdP g v)) ∧ (Pc K w5 ta tn tc (tlP g v)) ∧ (Pc K w5 q2o q2n q2c (qk kq (itP g v f (n + 1)).1)) ∧ (Pc K w5 r2o r2n r2c (itP g v f (n + 1)).2) ∧ (MvIs w5 mv b0 (oN o (n + 1))) ∧ (AtN w5 X2 [.int .i64 y, .slice xo xn xc, .slice yo yn yc] 78) ∧ (Pc K w5 uo un uc (hdP (itP g v f (n + 1)).2 v)) ∧ (Pc K w5 zo zn zc (tlP (itP g v f (n + 1)).2 v)) ∧ w.grownBy w5 b0) := ⟨HV5.out.1.below hB, HV5.out.2.1.below hB, HV5.out.2.2.1.below hB, HV5.out.2.2.2.1.below hB, HV5.out.2.2.2.2.1.below hB, HV5.out.2.2.2.2.2.1.below hB, HV5.out.2.2.2.2.2.2.1.below hB, HV5.out.2.2.2.2.2.2.2.1.below hB, hH2, hT, zz82 HV5.out.2.2.2.2.2.2.2.2 (zz74 _ hB)⟩
     clear hB hH hH2 hT c6 HV5; obtain ⟨d0, d1, d2⟩ := HV6.out.2.2.2.2.2.2.2.1.c3; obtain ⟨f0, f1, f2⟩ := HV6.out.2.2.2.2.2.2.2.1.f3
     have HK : Hid (∀ W, W = ((w5.setCell ⟨X2, 0, none⟩ (.int .i64 (degP (itP g v f (n + 1)).2 v))).setCell ⟨X2, 1, none⟩ (.slice uo un uc)).setCell ⟨X2, 2, none⟩ (.slice zo zn zc) → RunI w g f v kq o mv b0 K Z D ho hn hc ta tn tc (n + 1) X2 W) := fun W hW => by
      have hG : w5.grownBy W (some X2) := by rw [hW]; exact zz79 _ _ _ _ _ _
      have hX2 := HXG2.out; have h0 := HF0.out
      have hFB := parts_far (Nat.le_trans HLO.out (by omega)) HV6.out.2.2.2.2.2.2.2.1 hG
      exact ⟨HV6.out.1.keep (hG.block _ HV6.out.1.lt (fun e => by cases e; omega)), ⟨_, _, _, _, _, _, HV6.out.2.1.keep (hG.block _ HV6.out.2.1.lt (fun e => by cases e; omega)), HV6.out.2.2.2.2.1.farB hFB, HV6.out.2.2.2.2.2.1.farB hFB⟩, ⟨_, _, _, _, _, _, by rw [hW]; exact ((HV6.out.2.2.2.2.2.2.2.1.set 0 _).set 1 _).set 2 _, HV6.out.2.2.2.2.2.2.2.2.1.farB hFB, HV6.out.2.2.2.2.2.2.2.2.2.1.farB hFB⟩, HV6.out.2.2.1.farB hFB, HV6.out.2.2.2.1.farB hFB, HV6.out.2.2.2.2.2.2.1.keep (fun b hb => hG.block b (HV6.out.2.2.2.2.2.2.1.lt b hb) (fun e => HNE.out _ (show w.heap.size ≤ X2 by omega) (by rw [← e]; exact hb.symm))), zz76 HV6.out.2.2.2.2.2.2.2.2.2.2 hG (by omega), HGO2.out, hX2⟩
     have HMS : Hid (∀ W, W = ((w5.setCell ⟨X2, 0, none⟩ (.int .i64 (degP (itP g v f (n + 1)).2 v))).setCell ⟨X2, 1, none⟩ (.slice uo un uc)).setCell ⟨X2, 2, none⟩ (.slice zo zn zc) → W.cell? ⟨D, 7, none⟩ = some (.int .i64 ((n + 1 : Nat) : Int))) := fun W hW => by
      obtain ⟨_, _, _, _, _, _, h, _⟩ := (HK.out W hW).d
      exact h.cell 7
     have HM0 : Hid (wr.cell? ⟨D, 7, none⟩ = some (.int .i64 (n : Int))) := HWR.out
     go_wp2_with fail
     go_roundw
     case rel => exact ⟨n + 1, X2, rfl, HK.out _ rfl⟩
     case measure => rw [HMS.out _ rfl, HM0.out]; simp [intOf]; omega
    ·obtain ⟨E3, hE3⟩ : ∃ E3, E3 = oKeepE (oN o (n + 1)) (itP g v f (n + 1)).2 := ⟨_, rfl⟩
     rw [← hE3]; have HE3 := hid hE3
     have A0 := hid (HV3.out.1.keep (hG3.block _ HV3.out.1.lt (HNE.out _ HF0.out.1))); have ME := hid hM3; have GR := hid (zz82 HV3.out.2.2.2.2.2.2.2.2.2 hG3)
     have hd0 : (E3 == 0) = false := by rw [hE3]; simpa using k1
     have HKK := hid k1; clear hM3 hG3 hE3 HV3 hLg k1; obtain ⟨d0, d1, d2, d3, d4, d5, d6, d7⟩ := A0.out.c8; obtain ⟨f0, f1, f2, f3, f4, f5, f6, f7⟩ := A0.out.f8; go_wp2_with fail; clear d0 d1 d2 d3 d4 d5 d6 d7 f0 f1 f2 f3 f4 f5 f6 f7
     refine zz149 (Q := bodyPost _ _ _ _ _) (fun W3 hW => ?_)
     have A : AtN W3 Z dz 80 := by rw [hW]; exact A0.out.put8 _ _ _ _ _ _ _ _
     have hG : w3.grownBy W3 (some Z) := by rw [hW]; exact zz80 _ _ _ _ _ _ _ _ _ _
     have HR : Hid (RunW w mv b0 (Ends g f v kq o) K (.returned (.tuple #[dva 0 0 none 0 0 none 0 0 false none 0 0 none 0 0 0, .int .i64 E3])) W3) := ⟨⟨[], [], 0, E3, oKeep (oN o (n + 1)) (itP g v f (n + 1)).2⟩, _, _, _, _, _, _, _, _, _, _, _, _, _, _, _, ⟨n, HGO.out, .inr ⟨HLN.out, .inr ⟨HE.out, .inl ⟨HKK.out, by rw [HE3.out]⟩⟩⟩⟩, rfl, Pc.zero _ _, Pc.zero _ _, ME.out.keep (fun b hb => hG.block b (ME.out.lt b hb) (fun e => HNE.out _ HF0.out.1 (by rw [← e]; exact hb.symm))), zz76 GR.out hG HF0.out.1⟩
     clear hW hG; obtain ⟨d0, d1, d2, d3, d4, d5, d6, d7⟩ := A.c8
     refine bodyPost_ret (v := .tuple #[dva 0 0 none 0 0 none 0 0 false none 0 0 none 0 0 0, .int .i64 E3]) (by simp [results, Tryz.results36, go_sem, d0, d1, d2, d3, d4, d5, d6, d7, dva]) rfl HR.out
    ·obtain ⟨E3, hE3⟩ : ∃ E3, E3 = oKeepE (oN o (n + 1)) (qk kq (itP g v f (n + 1)).1) := ⟨_, rfl⟩
     rw [← hE3]; have HE3 := hid hE3
     have A0 := hid (HV3.out.1.keep (hG3.block _ HV3.out.1.lt (HNE.out _ HF0.out.1))); have ME := hid hM3; have GR := hid (zz82 HV3.out.2.2.2.2.2.2.2.2.2 hG3)
     have hd0 : (E3 == 0) = false := by rw [hE3]; simpa using k2
     have HKK := hid (And.intro k1 k2); clear hM3 hG3 hE3 HV3 hLg k1 k2; obtain ⟨d0, d1, d2, d3, d4, d5, d6, d7⟩ := A0.out.c8; obtain ⟨f0, f1, f2, f3, f4, f5, f6, f7⟩ := A0.out.f8; go_wp2_with fail; clear d0 d1 d2 d3 d4 d5 d6 d7 f0 f1 f2 f3 f4 f5 f6 f7
     refine zz149 (Q := bodyPost _ _ _ _ _) (fun W3 hW => ?_)
     have A : AtN W3 Z dz 80 := by rw [hW]; exact A0.out.put8 _ _ _ _ _ _ _ _
     have hG : w3.grownBy W3 (some Z) := by rw [hW]; exact zz80 _ _ _ _ _ _ _ _ _ _
     have HR : Hid (RunW w mv b0 (Ends g f v kq o) K (.returned (.tuple #[dva 0 0 none 0 0 none 0 0 false none 0 0 none 0 0 0, .int .i64 E3])) W3) := ⟨⟨[], [], 0, E3, oKeep (oN o (n + 1)) (qk kq (itP g v f (n + 1)).1)⟩, _, _, _, _, _, _, _, _, _, _, _, _, _, _, _, ⟨n, HGO.out, .inr ⟨HLN.out, .inr ⟨HE.out, .inr ⟨HKK.out.1, HKK.out.2, by rw [HE3.out]⟩⟩⟩⟩, rfl, Pc.zero _ _, Pc.zero _ _, ME.out.keep (fun b hb => hG.block b (ME.out.lt b hb) (fun e => HNE.out _ HF0.out.1 (by rw [← e]; exact hb.symm))), zz76 GR.out hG HF0.out.1⟩
     clear hW hG; obtain ⟨d0, d1, d2, d3, d4, d5, d6, d7⟩ := A.c8
     refine bodyPost_ret (v := .tuple #[dva 0 0 none 0 0 none 0 0 false none 0 0 none 0 0 0, .int .i64 E3]) (by simp [results, Tryz.results36, go_sem, d0, d1, d2, d3, d4, d5, d6, d7, dva]) rfl HR.out
   ·have A0 := hid (HV0.out.1.keep (hG1.block _ HV0.out.1.lt (HNE.out _ HF0.out.1)))
    have ME := hid hM1; have GR := hid (zz82 HV0.out.2.2.2.2.2.2.2.2.2.2 hG1)
    have hd0 : (E1 == 0) = false := by simpa using h0
    have HE0 := hid h0; clear hM1 hG1 hF1 x0 e1 HV0 h0; obtain ⟨d0, d1, d2, d3, d4, d5, d6, d7⟩ := A0.out.c8; obtain ⟨f0, f1, f2, f3, f4, f5, f6, f7⟩ := A0.out.f8; go_wp2_with fail; clear d0 d1 d2 d3 d4 d5 d6 d7 f0 f1 f2 f3 f4 f5 f6 f7
    refine zz149 (Q := bodyPost _ _ _ _ _) (fun W3 hW => ?_)
    have A : AtN W3 Z dz 80 := by rw [hW]; exact A0.out.put8 _ _ _ _ _ _ _ _
    have hG : w1.grownBy W3 (some Z) := by rw [hW]; exact zz80 _ _ _ _ _ _ _ _ _ _
    have HR : Hid (RunW w mv b0 (Ends g f v kq o) K (.returned (.tuple #[dva 0 0 none 0 0 none 0 0 false none 0 0 none 0 0 0, .int .i64 E1])) W3) := ⟨⟨[], [], 0, E1, oStep (oN o n)⟩, _, _, _, _, _, _, _, _, _, _, _, _, _, _, _, ⟨n, HGO.out, .inr ⟨HLN.out, .inl ⟨by rw [HE.out]; exact HE0.out, by rw [HE.out]⟩⟩⟩, rfl, Pc.zero _ _, Pc.zero _ _, ME.out.keep (fun b hb => hG.block b (ME.out.lt b hb) (fun e => HNE.out _ HF0.out.1 (by rw [← e]; exact hb.symm))), zz76 GR.out hG HF0.out.1⟩
    clear hW hG; obtain ⟨d0, d1, d2, d3, d4, d5, d6, d7⟩ := A.c8
    refine bodyPost_ret (v := .tuple #[dva 0 0 none 0 0 none 0 0 false none 0 0 none 0 0 0, .int .i64 E1]) (by simp [results, Tryz.results36, go_sem, d0, d1, d2, d3, d4, d5, d6, d7, dva]) rfl HR.out
  ·have hge : decide (degP g v ≤ y) = false := decide_eq_false hyd
   have HYD : Hid (degP (itP g v f n).2 v < degP g v) := by rw [HY.out]; exact Int.not_le.1 hyd
   obtain ⟨e0, _, e2, e3, e4, e5, e6, e7⟩ := AtN.c8 HV0.out.2.1; obtain ⟨d0, d1, d2, d3, d4, d5, d6, d7⟩ := HV0.out.1.c8; obtain ⟨f0, f1, f2, f3, f4, f5, f6, f7⟩ := HV0.out.1.f8; go_wp2_with fail; clear d0 d1 d2 d3 d4 d5 d6 d7 f0 f1 f2 f3 f4 f5 f6 f7 x0 e0 e1 e2 e3 e4 e5 e6 e7
   refine zz149 (Q := bodyPost _ _ _ _ _) (fun W3 hW => ?_)
   have A : AtN W3 Z (dcl v (degP g v) ho hn hc ta tn tc kq qo qn qc ro rn rc (n : Int)) 80 := by rw [hW]; exact HV0.out.1.put8 _ _ _ _ _ _ _ _
   have hG : wr.grownBy W3 (some Z) := by rw [hW]; exact zz80 _ _ _ _ _ _ _ _ _ _
   have hFB := dcl_far (Nat.le_trans HLO.out HF0.out.1) HV0.out.1 hG
   have HR : Hid (RunW w mv b0 (Ends g f v kq o) K (.returned (.tuple #[dva v (degP g v) ho hn hc ta tn tc kq qo qn qc ro rn rc (n : Int), .int .i64 0])) W3) := ⟨⟨_, _, n, 0, _⟩, _, _, _, _, _, _, _, _, _, _, _, _, _, _, _, ⟨n, HGO.out, .inl ⟨HYD.out, rfl⟩⟩, rfl, HV0.out.2.2.2.2.2.1.farB hFB, HV0.out.2.2.2.2.2.2.1.farB hFB, HV0.out.2.2.2.2.2.2.2.2.2.1.keep (fun b hb => hG.block b (HV0.out.2.2.2.2.2.2.2.2.2.1.lt b hb) (fun e => HNE.out _ HF0.out.1 (by rw [← e]; exact hb.symm))), zz76 HV0.out.2.2.2.2.2.2.2.2.2.2 hG HF0.out.1⟩
   clear hW hG hFB; obtain ⟨d0, d1, d2, d3, d4, d5, d6, d7⟩ := AtN.c8 A
   refine bodyPost_ret (v := .tuple #[dva v (degP g v) ho hn hc ta tn tc kq qo qn qc ro rn rc (n : Int), .int .i64 0]) (by simp [results, Tryz.results36, go_sem, d0, d1, d2, d3, d4, d5, d6, d7, dva]) rfl HR.out
def DivW [Ol] (w : World) (mv : Value) (b0 : Option Nat) (P : Out → Prop) (K : Nat) (e : Ending) (w' : World) : Prop :=
 ∃ (u : Out) (qo : Option Addr) (qn qc : Nat) (ro : Option Addr) (rn rc : Nat), P u ∧ e = .returned (.tuple #[.slice qo qn qc, .slice ro rn rc, .int .i64 (u.s : Int), .int .i64 u.e]) ∧ Pc K w' qo qn qc u.q ∧ Pc K w' ro rn rc u.r ∧ MvIs w' mv b0 u.o ∧ w.grownBy w' b0
theorem zz42 [Ol] {mv : Value} {b0 : Option Nat} {P : Out → Prop} {K : Nat} {fo go_ : Option Addr} {fn fc gn gc : Nat} {v : Int} {w : World} (h : Calls Tryz.prog 36 #[mv, .slice fo fn fc, .slice go_ gn gc, .int .i64 v, .bool true] w (RunW w mv b0 P K)) :
  Calls Tryz.prog 10 #[mv, .slice fo fn fc, .slice go_ gn gc, .int .i64 v] w (DivW w mv b0 P K) := by
 go_enter Tryz.func10, Tryz.ntmps10
 go_wp2_with fail
 refine h.mono ?_
 rintro e w1 ⟨u, a, b, ho, hn, hc, ta, tn, tc, hq, qo, qn, qc, ro, rn, rc, hP, rfl, h1, h2, h3, h4⟩
 have H1 : Hid (P u ∧ Pc K w1 qo qn qc u.q ∧ Pc K w1 ro rn rc u.r ∧ MvIs w1 mv b0 u.o ∧ w.grownBy w1 b0) := ⟨hP, h1, h2, h3, h4⟩
 obtain ⟨us, hus⟩ : ∃ us, (u.s : Int) = us := ⟨_, rfl⟩; obtain ⟨ue, hue⟩ : ∃ ue, u.e = ue := ⟨_, rfl⟩
 have HU : Hid ((u.s : Int) = us ∧ u.e = ue) := ⟨hus, hue⟩
 rw [hus, hue]; clear hP h1 h2 h3 h4 h hus hue
 unfold dva
 go_upto_region 2 with (fail)
 refine zz233 (fun W hW => ?_)
 obtain ⟨Y, hY⟩ : ∃ Y, Y = w1.heap.size := ⟨_, rfl⟩
 have HA : Hid (AtN W Y (dcl a b ho hn hc ta tn tc hq qo qn qc ro rn rc us) 80) := by rw [hW, hY]; exact AtN.new w1 _ _
 have HB : Hid (Below w1.heap.size w1 W) := by rw [hW]; exact zz13 _ _
 rw [← hY]; clear hW hY
 have c5 : W.cell? ⟨Y, 5, none⟩ = some (.slice qo qn qc) := HA.out.cell 5
 have c6 : W.cell? ⟨Y, 6, none⟩ = some (.slice ro rn rc) := HA.out.cell 6
 have c7 : W.cell? ⟨Y, 7, none⟩ = some (.int .i64 us) := HA.out.cell 7
 go_quiet (fail)
 go_wp2_with fail
 have hB2 : Below W.heap.size W (W.drewN nq) := _root_.Go.below_drewN (Below.refl _ _) _
 have hB3 := Below.steps HB.out hB2
 refine bodyPost_ret (v := .tuple #[.slice qo qn qc, .slice ro rn rc, .int .i64 us, .int .i64 ue]) (by simp [results, Tryz.results10, go_sem]) rfl ?_
 rw [← HU.out.1, ← HU.out.2]
 exact ⟨u, _, _, _, _, _, _, H1.out.1, rfl, H1.out.2.1.below hB3, H1.out.2.2.1.below hB3, H1.out.2.2.2.1.below hB3, zz82 H1.out.2.2.2.2 (zz74 _ hB3)⟩
structure SzB (g f : List Term) (N C Cq SG SF K : Nat) : Prop where
 lg : g.length ≤ 100
 cr : ∀ n, n ≤ N → f.length * cn g.length n ≤ C
 cq : ∀ n, n + 1 ≤ N → f.length * cn g.length n ≤ Cq
 c1 : g.length * C ≤ 500000
 c2 : g.length * Cq + C ≤ 400000
 c3 : C ≤ 100000
 c4 : Cq ≤ 100000
 g0 : 1 ≤ SG
 sg : sumC g ≤ SG
 sf : sumC f ≤ SF
 sm : (N + 1) * (SG ^ (N + 1) * SF) < 4294967296 ^ K
theorem qk_len {kq : Bool} {q : List Term} : (qk kq q).length ≤ q.length := by cases kq <;> simp [qk]
theorem qk_sum {kq : Bool} {q : List Term} : sumC (qk kq q) ≤ sumC q := by cases kq <;> simp [qk, sumC]
theorem SzB.all {g f : List Term} {v E F : Int} {N C Cq SG SF K : Nat} (h : SzB g f N C Cq SG SF K) (hd : DivOk g f v E F N) {n : Nat} (hl : Long g v f n) :
  (itP g v f n).2.length ≤ C ∧ (itP g v f n).1.length ≤ Cq ∧ sumC (itP g v f n).2 ≤ SG ^ n * SF ∧ sumC (itP g v f n).1 ≤ n * (SG ^ n * SF) ∧ n ≤ N := by
 have hi := hd.it n hl; have hn := hd.steps hl
 have h3 : sumC g ^ n * sumC f ≤ SG ^ n * SF := Nat.mul_le_mul (Nat.pow_le_pow_left h.sg n) h.sf
 refine ⟨Nat.le_trans hi.rlen (h.cr n hn), ?_, Nat.le_trans hi.cr h3, Nat.le_trans hi.cq (Nat.mul_le_mul_left _ h3), hn⟩
 rcases n with _ | n
 ·simp [itP]
 ·exact Nat.le_trans hi.qlen (h.cq n hn)
theorem SzB.ok {g f : List Term} {v E F : Int} {N C Cq SG SF K : Nat} (h : SzB g f N C Cq SG SF K) (hd : DivOk g f v E F N) (kq : Bool) (n : Nat) (hl : Long g v f n) : SzOk g (qk kq (itP g v f n).1) (itP g v f n).2 K := by
 obtain ⟨h1, h2, h3, h4, hn⟩ := h.all hd hl; have h5 := qk_len (kq := kq) (q := (itP g v f n).1); have h6 := qk_sum (kq := kq) (q := (itP g v f n).1)
 have a1 : g.length * (itP g v f n).2.length ≤ g.length * C := Nat.mul_le_mul_left _ h1
 have a2 : g.length * (qk kq (itP g v f n).1).length ≤ g.length * Cq := Nat.mul_le_mul_left _ (by omega)
 have b0 : SG ^ (n + 1) * SF ≤ SG ^ (N + 1) * SF := Nat.mul_le_mul_right _ (Nat.pow_le_pow_right h.g0 (by omega))
 have b1 : sumC g * sumC (itP g v f n).2 ≤ SG ^ (n + 1) * SF := by
  rw [Nat.pow_succ, Nat.mul_comm (SG ^ n), Nat.mul_assoc]
  exact Nat.mul_le_mul h.sg h3
 have b2 : sumC g * sumC (qk kq (itP g v f n).1) ≤ n * (SG ^ (n + 1) * SF) := by
  have : sumC g * sumC (qk kq (itP g v f n).1) ≤ SG * (n * (SG ^ n * SF)) := Nat.mul_le_mul h.sg (by omega)
  rw [Nat.pow_succ]
  rw [show SG * (n * (SG ^ n * SF)) = n * (SG ^ n * SG * SF) by ac_rfl] at this
  exact this
 have b3 : SG ^ n * SF ≤ SG ^ (n + 1) * SF := Nat.mul_le_mul_right _ (Nat.pow_le_pow_right h.g0 (by omega))
 have b4 : (n + 1) * (SG ^ (n + 1) * SF) ≤ (N + 1) * (SG ^ (N + 1) * SF) := Nat.mul_le_mul (by omega) b0
 have b5 : (n + 1) * (SG ^ (n + 1) * SF) = n * (SG ^ (n + 1) * SF) + SG ^ (n + 1) * SF := by rw [Nat.add_mul, Nat.one_mul]
 have b6 : SG ^ (N + 1) * SF ≤ (N + 1) * (SG ^ (N + 1) * SF) := Nat.le_mul_of_pos_left _ (by omega)
 have := h.sm
 have := h.c1
 have := h.c2
 have := h.c3
 have := h.c4
 exact ⟨h.lg, by omega, by omega, by omega, by omega, by omega, by omega⟩
open Lib (hid)
theorem zz14 {w w' : World} (h : w.grownBy w' none) : Below w.heap.size w w' := ⟨h.os, h.tape, h.output, h.size, fun k hk => h.block k hk (by simp)⟩
def GrW (w : World) (ps : List Raw) (e : Ending) (w' : World) : Prop := ∃ r, e = .returned (.bool r) ∧ Below w.heap.size w w' ∧ (r = false → greatR ps 8 = false ∧ (∀ t ∈ ps, t.1.2.length ≤ 8) ∧ ∀ t ∈ ps, ∀ p ∈ t.2, p.2 ≤ 8)
theorem zz145 [Ol] {ao : Option Addr} {n cap : Nat} {ps : List Raw} {w : World} (v : Int) (hp : Pr w ao n cap ps) : Calls Tryz.prog 7 #[.slice ao n cap, .int .i64 v] w (GrW w ps) := by
 have HP := hid hp; have HL := hid hp.len
 have hbig : n ≤ 4398046511104 := by obtain ⟨_, hG, _⟩ := hp.ex; exact hG.big
 clear hp
 cases hg : greatR ps 8 with
 | true =>
  go_enter Tryz.func7, Tryz.ntmps7
  go_wp2_with fail; refine (great_any8 true 8 HP.out hg).mono ?_
  rintro e w1 ⟨rfl, hB⟩; go_wp2_with fail
  go_ret
  exact ⟨true, rfl, hB, fun h => by cases h⟩
 | false =>
  have HG := hid hg; clear hg
  go_enter Tryz.func7, Tryz.ntmps7
  go_wp2_with fail; refine (great_any8 false 8 HP.out HG.out).mono ?_
  rintro e w1 ⟨rfl, hB⟩; have HP1 := hid (HP.out.below hB); have HB := hid hB; clear hB HP
  go_wp2
  go_loop [11] (fun i => ∃ k : Nat, i = .int .i64 k ∧ k ≤ n ∧ Hid (∀ t, t < k → (ps.getD t rawZ).1.2.length ≤ 8 ∧ ∀ p ∈ (ps.getD t rawZ).2, p.2 ≤ 8)) (fun i => n - (intOf i).toNat)
  case atStart => exact ⟨0, rfl, Nat.zero_le _, fun t ht => by omega⟩
  case round =>
   obtain ⟨k, rfl, hk, HE⟩ := hrel
   by_cases hkn : k < n
   ·obtain ⟨b, off, xa, xn, xc, xp, xq, xr, rfl, _, hc, hs, hm⟩ := HP1.out.at hkn
    obtain ⟨c0, c1, c2⟩ := hc w1 (Below.refl _ _); obtain ⟨t, ht⟩ : ∃ t, t = ps.getD k rawZ := ⟨_, rfl⟩; rw [← ht] at hs hm c0; have HT := hid ht; have HS := hid hs.len; have HM := hid hm; have hxb := hs.big; have hmb := hm.big
    have hki : (k : Int) < (n : Int) := by omega
    clear hc hs hm ht
    by_cases h8 : 8 < xn
    ·have hd : decide ((8 : Int) < (xn : Int)) = true := decide_eq_true (by omega)
     go_wp2_with fail
     go_ret
     exact ⟨true, rfl, HB.out, fun h => by cases h⟩
    ·have hd : decide ((8 : Int) < (xn : Int)) = false := decide_eq_false (by omega)
     go_wp2_with fail
     go_loop [28] (fun i => ∃ j : Nat, i = .int .i64 j ∧ j ≤ xq ∧ Hid (∀ u, u < j → (t.2.getD u (0, 0)).2 ≤ 8)) (fun i => xq - (intOf i).toNat)
     case atStart => exact ⟨0, rfl, Nat.zero_le _, fun u hu => by omega⟩
     case round =>
      obtain ⟨j, rfl, hj, HJ⟩ := hrel
      by_cases hjq : j < xq
      ·obtain ⟨b2, off2, rfl, _, hc2⟩ := HM.out.at (by omega)
       obtain ⟨d0, d1⟩ := hc2 j hjq
       have hji : (j : Int) < (xq : Int) := by omega
       obtain ⟨x, hx⟩ : ∃ x, x = (t.2.getD j (0, 0)).2 := ⟨_, rfl⟩; rw [← hx] at d1; have HX := hid hx; clear hc2 hx
       by_cases hx8 : 8 < x
       ·have hd2 : decide ((8 : Int) < x) = true := decide_eq_true hx8
        go_wp2_with fail
        go_ret
        exact ⟨true, rfl, HB.out, fun h => by cases h⟩
       ·have hd2 : decide ((8 : Int) < x) = false := decide_eq_false hx8
        go_wp2_with fail
        go_round
        case rel => exact ⟨j + 1, by go_num, by omega, fun u hu => (Nat.lt_succ_iff_lt_or_eq.1 hu).elim (HJ.out u) fun e => by rw [e, ← HX.out]; omega⟩
        case measure => simp [intOf]; omega
      ·obtain rfl : j = xq := by omega
       go_wp2_with fail
       go_round
       case rel =>
        refine ⟨k + 1, by go_num, by omega, fun u hu => (Nat.lt_succ_iff_lt_or_eq.1 hu).elim (HE.out u) fun e => ?_⟩
        rw [e, ← HT.out]
        refine ⟨by rw [HS.out]; omega, fun p hp => ?_⟩
        obtain ⟨i, hi, rfl⟩ := List.mem_iff_getElem.1 hp
        have h1 := HJ.out i (by rw [← HM.out.len]; exact hi)
        rwa [getD_of _ hi] at h1
       case measure => simp [intOf]; omega
   ·obtain rfl : k = n := by omega
    go_wp2_with fail
    go_ret
    refine ⟨false, rfl, HB.out, fun _ => ⟨HG.out, fun t ht => ?_, fun t ht => ?_⟩⟩
    ·obtain ⟨i, hi, rfl⟩ := List.mem_iff_getElem.1 ht
     have h1 := HE.out i (by rw [← HL.out]; exact hi)
     rw [getD_of _ hi] at h1
     exact h1.1
    ·obtain ⟨i, hi, rfl⟩ := List.mem_iff_getElem.1 ht
     have h1 := HE.out i (by rw [← HL.out]; exact hi)
     rw [getD_of _ hi] at h1
     exact h1.2
def k12F : List Term := [(1, [(2, 2)])]
def k12XY : List Term := [(1, [(1, 1), (2, 1)])]
def k12G : List Term := [(1, [(1, 1), (2, 1)]), (1, [])]
def k12Q : List Term := [(1, [(1, 1), (2, 1)]), (-1, [])]
theorem k12F_fall : fall k12F := zz59 (by decide +kernel) (by decide +kernel)
theorem k12XY_fall : fall k12XY := zz59 (by decide +kernel) (by decide +kernel)
theorem k12G_fall : fall k12G := zz59 (by decide +kernel) (by decide +kernel)
theorem k12_F : (tryT ky ky).1 = k12F := by decide +kernel
theorem k12_XY : (tryT kx ky).1 = k12XY := by decide +kernel
theorem k12_G : addT k12XY (smallT 1) = k12G := by decide +kernel
theorem k12_Q : subT k12XY (smallT 1) = k12Q := by decide +kernel
theorem expo_att : ∀ (m : List (Int × Int)) (u : Int), expo m u = 0 ∨ ∃ x ∈ m, expo m u = x.2
 | [], _ => .inl rfl
 | x :: r, u => by
  unfold expo
  split
  ·exact .inr ⟨x, by simp, rfl⟩
  ·rcases expo_att r u with e | ⟨y, hy, e⟩
   ·exact .inl e
   ·exact .inr ⟨y, by simp [hy], e⟩
theorem zz46 {p : List Term} {E : Int} (h : ∀ t ∈ p, ∀ x ∈ t.2, x.2 ≤ E) (h0 : 0 ≤ E) : EB p E := fun t ht u => by
 rcases expo_att t.2 u with e | ⟨x, hx, e⟩
 ·omega
 ·rw [e]; exact h t ht x hx
theorem k12_ok : DivOk k12G k12F 2 2 2 2 := ⟨k12G_fall, k12F_fall, by omega, by decide +kernel, zz46 (by decide +kernel) (by omega), zz46 (by decide +kernel) (by omega), by omega, by omega, by decide +kernel, by decide⟩
theorem k12_cq : ∀ n, n < 2 → k12F.length * cn k12G.length n ≤ 10 := by decide +kernel
theorem oN_none : ∀ n, oN none n = none
 | 0 => rfl
 | n + 1 => by rw [oN, oN_none n]; rfl
theorem k12_sz : SzB k12G k12F 2 10 10 2 1 30 := ⟨by decide +kernel, by decide +kernel, fun n hn => k12_cq n (by omega), by decide +kernel, by decide +kernel, by decide, by decide, by decide, by decide +kernel, by decide +kernel, by decide +kernel⟩
theorem k12_it : itP k12G 2 k12F 2 = (k12Q, [(1, [])]) := by decide +kernel
theorem k12_goes : ∀ j, j < 2 → degP k12G 2 ≤ degP (itP k12G 2 k12F j).2 2 := by decide +kernel
theorem k12_ends : Ends k12G k12F 2 true none ⟨k12Q, [(1, [])], 2, 0, none⟩ :=
 ⟨2, fun j hj => ⟨k12_goes j hj, by rw [oN_none]; rfl, by rw [oN_none]; rfl, by rw [oN_none]; rfl⟩, .inl ⟨by rw [k12_it]; decide +kernel, by rw [k12_it]; rfl⟩⟩
theorem zz94 [Ol] (w : World) (hlo : Ol.lo ≤ w.heap.size) : Calls Tryz.prog 8 #[] w (RetB (.bool true) w) := by
 have HB_0 := hid (Below.refl w.heap.size w)
 have hmv0 : ∀ V, MvIs V (.pointer none) none none := fun V => .inl ⟨rfl, rfl, rfl⟩
 have HMV := hid hmv0; have HLO := hid hlo; clear hmv0 hlo
 go_enter Tryz.func8, Tryz.ntmps8
 go_wp2_with fail
 refine (x_any8 1 _ (by unfold in64; omega)).mono ?_
 rintro e w1 ⟨vxo, vxn, vxc, rfl, hX, hB⟩; rw [← kx] at hX
 obtain rfl : vxn = 1 := hX.len.symm.trans (by decide +kernel)
 have HB_1 := hid (Below.steps HB_0.out hB); have X_1 := hid (hX); clear hB hX HB_0; go_wp2_with fail
 refine (x_any8 2 _ (by unfold in64; omega)).mono ?_
 rintro e w2 ⟨vyo, vyn, vyc, rfl, hX, hB⟩; rw [← ky] at hX
 obtain rfl : vyn = 1 := hX.len.symm.trans (by decide +kernel)
 have X_2 := hid (X_1.out.below hB); have HB_2 := hid (Below.steps HB_1.out hB); have Y_2 := hid (hX); clear hB hX HB_1 X_1; go_wp2_with fail
 refine (zz117 Y_2.out Y_2.out (zz58 ky_fall) (zz58 ky_fall) (by omega)).mono ?_
 rintro e w3 ⟨vfo, vfn, vfc, rfl, hX, hB⟩; rw [k12_F] at hX
 obtain rfl : vfn = 1 := hX.len.symm.trans (by decide +kernel)
 have X_3 := hid (X_2.out.below hB); have Y_3 := hid (Y_2.out.below hB); have HB_3 := hid (Below.steps HB_2.out hB); have F_3 := hid (hX); clear hB hX HB_2 X_2 Y_2; go_wp2_with fail
 refine (zz117 X_3.out Y_3.out (zz58 kx_fall) (zz58 ky_fall) (by omega)).mono ?_
 rintro e w4 ⟨vao, van, vac, rfl, hX, hB⟩; rw [k12_XY] at hX
 obtain rfl : van = 1 := hX.len.symm.trans (by decide +kernel)
 have X_4 := hid (X_3.out.below hB); have Y_4 := hid (Y_3.out.below hB); have F_4 := hid (F_3.out.below hB); have HB_4 := hid (Below.steps HB_3.out hB); have XY_4 := hid (hX); clear hB hX HB_3 X_3 Y_3 F_3; go_wp2_with fail
 refine (zz175 1 _ (by omega)).mono ?_
 rintro e w5 ⟨vso, vsn, vsc, rfl, hX, hB⟩
 obtain rfl : vsn = 1 := hX.len.symm.trans (by decide +kernel)
 have X_5 := hid (X_4.out.below hB); have Y_5 := hid (Y_4.out.below hB); have F_5 := hid (F_4.out.below hB); have XY_5 := hid (XY_4.out.below hB); have HB_5 := hid (Below.steps HB_4.out hB); have S1_5 := hid (hX); clear hB hX HB_4 X_4 Y_4 F_4 XY_4; go_wp2_with fail
 refine (add_any8 (K := 20) (XY_5.out.mono (by omega)) (S1_5.out.mono (by omega)) k12XY_fall (zz58 (smallT_fall 1)) (by omega) (by omega)).mono ?_
 rintro e w6 ⟨vgo, vgn, vgc, rfl, hX, hB⟩; rw [k12_G] at hX
 obtain rfl : vgn = 2 := hX.len.symm.trans (by decide +kernel)
 have X_6 := hid (X_5.out.below hB); have Y_6 := hid (Y_5.out.below hB); have F_6 := hid (F_5.out.below hB); have XY_6 := hid (XY_5.out.below hB); have S1_6 := hid (S1_5.out.below hB); have HB_6 := hid (Below.steps HB_5.out hB); have G_6 := hid (hX); clear hB hX HB_5 X_5 Y_5 F_5 XY_5 S1_5; clear XY_6; clear S1_6; go_wp2_with fail
 refine (zz148 F_6.out (by omega) (by omega)).mono ?_
 rintro e w7 ⟨vpo, vpn, vpc, rfl, hX, hB⟩
 obtain rfl : vpn = 1 := hX.len.symm.trans (by decide +kernel)
 have X_7 := hid (X_6.out.below hB); have Y_7 := hid (Y_6.out.below hB); have F_7 := hid (F_6.out.below hB); have G_7 := hid (G_6.out.below hB); have HB_7 := hid (Below.steps HB_6.out hB); have PF_7 := hid (hX); clear hB hX HB_6 X_6 Y_6 F_6 G_6; clear F_7; go_wp2_with fail
 refine (zz148 G_7.out (by omega) (by omega)).mono ?_
 rintro e w8 ⟨vqo, vqn, vqc, rfl, hX, hB⟩
 obtain rfl : vqn = 2 := hX.len.symm.trans (by decide +kernel)
 have X_8 := hid (X_7.out.below hB); have Y_8 := hid (Y_7.out.below hB); have G_8 := hid (G_7.out.below hB); have PF_8 := hid (PF_7.out.below hB); have HB_8 := hid (Below.steps HB_7.out hB); have PG_8 := hid (hX); clear hB hX HB_7 X_7 Y_7 G_7 PF_7; clear G_8; go_wp2_with fail
 refine (zz42 (run_any (kq := true) (K := 30) (HMV.out _) (PF_8.out.mono (by omega)) (PG_8.out.mono (by omega)) k12_ok (fun n hl => k12_sz.ok k12_ok true n hl) (by omega) (by omega) (Nat.le_trans HLO.out HB_8.out.size))).mono ?_
 rintro e w9 ⟨u, zo, zn, zc, ro, rn, rc, hu, rfl, hq, hr, hmv, hgr⟩; have hB := zz14 hgr; obtain rfl := Ends.unique hu k12_ends; clear hu; have X_9 := hid (X_8.out.below hB); have Y_9 := hid (Y_8.out.below hB); have PF_9 := hid (PF_8.out.below hB); have PG_9 := hid (PG_8.out.below hB); have HB_9 := hid (Below.steps HB_8.out hB); have Q_9 := hid (hq); have R_9 := hid (hr); clear hB hgr hmv hq hr HB_8 X_8 Y_8 PF_8 PG_8; clear PF_9; clear PG_9; go_wp2_with fail
 refine (zz175 1 _ (by omega)).mono ?_
 rintro e w10 ⟨vto, vtn, vtc, rfl, hX, hB⟩
 obtain rfl : vtn = 1 := hX.len.symm.trans (by decide +kernel)
 have X_10 := hid (X_9.out.below hB); have Y_10 := hid (Y_9.out.below hB); have Q_10 := hid (Q_9.out.below hB); have R_10 := hid (R_9.out.below hB); have HB_10 := hid (Below.steps HB_9.out hB); have S1_10 := hid (hX); clear hB hX HB_9 X_9 Y_9 Q_9 R_9; go_wp2_with fail
 refine (zz148 S1_10.out (by omega) (by omega)).mono ?_
 rintro e w11 ⟨vuo, vun, vuc, rfl, hX, hB⟩
 obtain rfl : vun = 1 := hX.len.symm.trans (by decide +kernel)
 have X_11 := hid (X_10.out.below hB); have Y_11 := hid (Y_10.out.below hB); have Q_11 := hid (Q_10.out.below hB); have R_11 := hid (R_10.out.below hB); have S1_11 := hid (S1_10.out.below hB); have HB_11 := hid (Below.steps HB_10.out hB); have P1_11 := hid (hX); clear hB hX HB_10 X_10 Y_10 Q_10 R_10 S1_10; clear S1_11; go_wp2_with fail; refine (same_any8 true R_11.out.raw P1_11.out.raw (decide_eq_true rfl)).mono ?_; rintro e w12 ⟨rfl, hB⟩; have X_12 := hid (X_11.out.below hB); have Y_12 := hid (Y_11.out.below hB)
 have Q_12 := hid (Q_11.out.below hB); have R_12 := hid (R_11.out.below hB); have P1_12 := hid (P1_11.out.below hB); have HB_12 := hid (Below.steps HB_11.out hB); clear hB  HB_11 X_11 Y_11 Q_11 R_11 P1_11; clear R_12; clear P1_12; go_wp2_with fail
 refine (zz117 X_12.out Y_12.out (zz58 kx_fall) (zz58 ky_fall) (by omega)).mono ?_
 rintro e w13 ⟨vbo, vbn, vbc, rfl, hX, hB⟩; rw [k12_XY] at hX
 obtain rfl : vbn = 1 := hX.len.symm.trans (by decide +kernel)
 have X_13 := hid (X_12.out.below hB); have Y_13 := hid (Y_12.out.below hB); have Q_13 := hid (Q_12.out.below hB); have HB_13 := hid (Below.steps HB_12.out hB); have XY_13 := hid (hX); clear hB hX HB_12 X_12 Y_12 Q_12; go_wp2_with fail
 refine (zz175 1 _ (by omega)).mono ?_
 rintro e w14 ⟨vco, vcn, vcc, rfl, hX, hB⟩
 obtain rfl : vcn = 1 := hX.len.symm.trans (by decide +kernel)
 have X_14 := hid (X_13.out.below hB); have Y_14 := hid (Y_13.out.below hB); have Q_14 := hid (Q_13.out.below hB); have XY_14 := hid (XY_13.out.below hB); have HB_14 := hid (Below.steps HB_13.out hB); have S1_14 := hid (hX); clear hB hX HB_13 X_13 Y_13 Q_13 XY_13; go_wp2_with fail
 refine (sub_any8 (K := 20) (XY_14.out.mono (by omega)) (S1_14.out.mono (by omega)) k12XY_fall (zz58 (smallT_fall 1)) (by omega) (by omega)).mono ?_
 rintro e w15 ⟨vdo, vdn, vdc, rfl, hX, hB⟩; rw [k12_Q] at hX
 obtain rfl : vdn = 2 := hX.len.symm.trans (by decide +kernel)
 have X_15 := hid (X_14.out.below hB); have Y_15 := hid (Y_14.out.below hB); have Q_15 := hid (Q_14.out.below hB); have XY_15 := hid (XY_14.out.below hB); have S1_15 := hid (S1_14.out.below hB); have HB_15 := hid (Below.steps HB_14.out hB); have D_15 := hid (hX); clear hB hX HB_14 X_14 Y_14 Q_14 XY_14 S1_14; clear XY_15; clear S1_15; clear X_15; clear Y_15; go_wp2_with fail
 refine (zz148 D_15.out (by omega) (by omega)).mono ?_
 rintro e w16 ⟨vho, vhn, vhc, rfl, hX, hB⟩
 obtain rfl : vhn = 2 := hX.len.symm.trans (by decide +kernel)
 have Q_16 := hid (Q_15.out.below hB); have D_16 := hid (D_15.out.below hB); have HB_16 := hid (Below.steps HB_15.out hB); have PD_16 := hid (hX); clear hB hX HB_15 Q_15 D_15; clear D_16; go_wp2_with fail; refine (same_any8 true Q_16.out.raw PD_16.out.raw (decide_eq_true rfl)).mono ?_; rintro e w17 ⟨rfl, hB⟩; have Q_17 := hid (Q_16.out.below hB); have PD_17 := hid (PD_16.out.below hB); have HB_17 := hid (Below.steps HB_16.out hB); clear hB  HB_16 Q_16 PD_16; go_wp2_with fail
 go_ret
 exact ⟨rfl, HB_17.out⟩
structure Sm (L : Nat) (p : List Term) : Prop where
 f : fall p
 l : p.length ≤ L
 b : ∀ t ∈ p, Bd t.1 8
 e : EB p 8
theorem Sm.mono {L M : Nat} {p : List Term} (h : Sm L p) (hl : L ≤ M) : Sm M p := ⟨h.f, Nat.le_trans h.l hl, h.b, h.e⟩
theorem sumC_le {X : Nat} : ∀ {p : List Term}, (∀ t ∈ p, t.1.natAbs ≤ X) → sumC p ≤ p.length * X
 | [], _ => by simp [sumC]
 | t :: r, h => by
  have h1 := h t (by simp)
  have h2 := sumC_le (p := r) fun s hs => h s (by simp [hs])
  simp only [sumC, List.length_cons, Nat.add_mul, Nat.one_mul]
  omega
theorem Sm.sum {L : Nat} {p : List Term} (h : Sm L p) (hl : L ≤ 8) : sumC p ≤ 4294967296 ^ 9 := by
 refine Nat.le_trans (sumC_le (X := 4294967296 ^ 8) fun t ht => Nat.le_of_lt (h.b t ht)) ?_
 rw [Nat.pow_succ, Nat.mul_comm]
 exact Nat.mul_le_mul_left _ (by have := h.l; omega)
theorem eb_deg {p : List Term} {E : Int} (h : EB p E) (h0 : 0 ≤ E) (v : Int) : degP p v ≤ E := by
 rcases degP_at p v with e | ⟨t, ht, e⟩
 ·omega
 ·rw [e]; exact h t ht v
theorem cn_r : ∀ k, k < 9 → ∀ n, n < 9 → cn k n ≤ 6435 := by decide +kernel
theorem cn_q : ∀ k, k < 9 → ∀ n, n < 8 → cn k n ≤ 3432 := by decide +kernel
section
variable {p q : List Term} {v : Int}
theorem Sm.div (hp : Sm 8 p) (hq : Sm 8 q) (hv : 1 ≤ v ∧ v ≤ 200) (h1 : 1 ≤ degP q v) : DivOk q p v 8 8 8 :=
 ⟨hq.f, hp.f, hv, h1, hq.e, hp.e, by omega, by omega, eb_deg hp.e (by omega) v, by omega⟩
theorem Sm.sz (hp : Sm 8 p) (hq : Sm 8 q) : SzB q p 8 51480 27456 (4294967296 ^ 9) (4294967296 ^ 9) 91 := by
 have hl1 := hp.l; have hl2 := hq.l
 refine ⟨by omega, fun n hn => ?_, fun n hn => ?_, by omega, by omega, by omega, by omega, Nat.pow_pos (by omega), hq.sum (by omega), hp.sum (by omega), by decide +kernel⟩
 ·exact Nat.mul_le_mul hl1 (cn_r _ (by omega) n (by omega))
 ·exact Nat.mul_le_mul hl1 (cn_q _ (by omega) n (by omega))
end
theorem ends_none {g f : List Term} {v : Int} {kq : Bool} {u : Out} (h : Ends g f v kq none u) : ∃ n, Long g v f n ∧ degP (itP g v f n).2 v < degP g v ∧ u = ⟨qk kq (itP g v f n).1, (itP g v f n).2, n, 0, none⟩ := by
 obtain ⟨n, h1, h2⟩ := h
 refine ⟨n, zz73 h1, ?_⟩
 rcases h2 with ⟨k1, k2⟩ | ⟨_, ⟨k2, _⟩ | ⟨_, ⟨k3, _⟩ | ⟨_, k4, _⟩⟩⟩
 ·rw [oN_none] at k2; exact ⟨k1, k2⟩
 ·rw [oN_none] at k2; exact absurd rfl k2
 ·rw [oN_none] at k3; exact absurd rfl k3
 ·rw [oN_none] at k4; exact absurd rfl k4
end Go.Proofs.YtodcddkiodmklaaGreat

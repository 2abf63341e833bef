/- WInt, WSt, WCmpP, WMayP -/
import Derived.Test.YtmmgipcacceakaaGreatGLaw
import Derived.Test.YtmmgipcacceakaaGreatGSt
set_option maxHeartbeats 40000000
set_option maxRecDepth 100000
namespace Go.Proofs.YtmmgipcacceakaaGreat
open Go.RowKit
def zOf (m : Bool) (v : Nat) : Int := if m then -(v : Int) else (v : Int)
theorem zOf_abs (m : Bool) (v : Nat) : (zOf m v).natAbs = v := by
 unfold zOf
 cases m <;> simp
theorem zOf_neg (m : Bool) (v : Nat) : decide (zOf m v < 0) = (m && decide (0 < v)) := by
 unfold zOf
 cases m <;> simp <;> try omega
theorem zOf_can (z : Int) : zOf (decide (z < 0)) z.natAbs = z := by
 unfold zOf
 by_cases h : z < 0
 ·simp [h]; omega
 ·simp [h]; omega
theorem zOf_zero (m : Bool) : zOf m 0 = 0 := by cases m <;> rfl
theorem zOf_not (m : Bool) (v : Nat) : zOf (!m) v = -zOf m v := by cases m <;> simp [zOf]
theorem zOf_add (m : Bool) (a b : Nat) : zOf m (a + b) = zOf m a + zOf m b := by cases m <;> simp [zOf] <;> omega
theorem zOf_sub (m : Bool) (a b : Nat) (h : b ≤ a) : zOf m (a - b) = zOf m a + zOf (!m) b := by cases m <;> simp [zOf] <;> omega
theorem zOf_mul (m k : Bool) (a b : Nat) : zOf (m != k) (a * b) = zOf m a * zOf k b := by cases m <;> cases k <;> simp [zOf, Int.neg_mul, Int.mul_neg]
def In (w : World) (m : Bool) (ao : Option Addr) (n cap : Nat) (z : Int) : Prop := ∃ xs, Sl w ao n cap xs ∧ zOf m (val xs) = z
structure Cn (w : World) (m : Bool) (ao : Option Addr) (n cap : Nat) (z : Int) : Prop where
 neg : m = decide (z < 0)
 sl : Sl w ao n cap (limbs z.natAbs)
theorem Cn.inn {w : World} {m : Bool} {ao : Option Addr} {n cap : Nat} {z : Int} (h : Cn w m ao n cap z) : In w m ao n cap z :=
 ⟨_, h.sl, by rw [val_limbs, h.neg, zOf_can]⟩
theorem In.below {w w' : World} {m : Bool} {ao : Option Addr} {n cap : Nat} {z : Int} (h : In w m ao n cap z) (hb : Below w.heap.size w w') : In w' m ao n cap z := by
 obtain ⟨xs, hs, hz⟩ := h
 exact ⟨xs, hs.below hb, hz⟩
theorem Cn.below {w w' : World} {m : Bool} {ao : Option Addr} {n cap : Nat} {z : Int} (h : Cn w m ao n cap z) (hb : Below w.heap.size w w') : Cn w' m ao n cap z := ⟨h.neg, h.sl.below hb⟩
theorem In.big {w : World} {m : Bool} {ao : Option Addr} {n cap : Nat} {z : Int} (h : In w m ao n cap z) : n ≤ 35184372088832 := by
 obtain ⟨xs, hs, hz⟩ := h
 exact hs.big
theorem Cn.of {w : World} {m : Bool} {ao : Option Addr} {n cap v : Nat} {neg : Bool} (h : Sl w ao n cap (limbs v)) (hm : neg = (m && decide (0 < n))) : Cn w neg ao n cap (zOf m v) := by
 refine ⟨?_, by rw [zOf_abs]; exact h⟩
 rw [hm, zOf_neg]
 congr 1
 have h1 := h.len
 by_cases hv : 0 < v
 ·have : 0 < n := by
   rcases Nat.eq_zero_or_pos n with h0 | h0
   ·rw [h0] at h1
    have h2 : limbs v = [] := List.eq_nil_of_length_eq_zero h1
    have h3 := val_limbs v; rw [h2, val_nil] at h3
    omega
   ·exact h0
  simp [hv, this]
 ·obtain rfl : v = 0 := by omega
  have h2 : n = 0 := by rw [← h1]; rfl
  simp [h2]
def NewI (w : World) (z : Int) (e : Ending) (w' : World) : Prop :=
 ∃ m ao n cap, e = .returned (.agg #[.bool m, .slice ao n cap]) ∧ Cn w' m ao n cap z ∧ Below w.heap.size w w'
def Bd (z : Int) (k : Nat) : Prop := z.natAbs < 4294967296 ^ k
theorem Bd.len {z : Int} {k : Nat} (h : Bd z k) : (limbs z.natAbs).length ≤ k := limbs_len h
theorem Bd.mono {z : Int} {j k : Nat} (h : Bd z j) (hk : j ≤ k) : Bd z k := lt_pow_mono h hk
theorem Bd.mul {x y : Int} {j k : Nat} (h : Bd x j) (h' : Bd y k) : Bd (x * y) (j + k) := by
 unfold Bd at *
 rw [Int.natAbs_mul, Nat.pow_add]
 exact Nat.mul_lt_mul_of_lt_of_lt h h'
theorem Bd.add {x y : Int} {j k : Nat} (h : Bd x j) (h' : Bd y j) (hk : j + 1 ≤ k) : Bd (x + y) k := by
 refine Bd.mono (j := j + 1) ?_ hk
 unfold Bd at *
 have h1 := Int.natAbs_add_le x y
 have hp : 0 < 4294967296 ^ j := Nat.pow_pos (by omega)
 rw [Nat.pow_succ]
 omega
theorem Bd.neg {x : Int} {j : Nat} (h : Bd x j) : Bd (-x) j := by
 unfold Bd at *
 rwa [Int.natAbs_neg]
theorem In.bd {w : World} {m : Bool} {ao : Option Addr} {n cap : Nat} {z : Int} {k : Nat} (h : In w m ao n cap z) (hk : n ≤ k) : Bd z k := by
 obtain ⟨xs, hs, rfl⟩ := h
 unfold Bd
 rw [zOf_abs]
 exact val_small k hs.wf hs.len hk
theorem Cn.le {w : World} {m : Bool} {ao : Option Addr} {n cap : Nat} {z : Int} {k : Nat} (h : Cn w m ao n cap z) (hb : Bd z k) : n ≤ k := by
 rw [← h.sl.len]; exact hb.len
structure Box (w : World) (b : Nat) (m : Bool) (ao : Option Addr) (n cap : Nat) : Prop where
 lt : b < w.heap.size
 c0 : w.cell? ⟨b, 0, none⟩ = some (.bool m)
 c1 : w.cell? ⟨b, 1, none⟩ = some (.slice ao n cap)
 f0 : w.frozen? ⟨b, 0, none⟩ = false
 f1 : w.frozen? ⟨b, 1, none⟩ = false
 only : ∀ o v, w.cell? ⟨b, o, none⟩ = some v → o = 0 ∨ o = 1
theorem Box.below {w w' : World} {b : Nat} {m : Bool} {ao : Option Addr} {n cap : Nat} (h : Box w b m ao n cap) (hb : Below w.heap.size w w') : Box w' b m ao n cap :=
 ⟨Nat.lt_of_lt_of_le h.lt hb.size, (hb.cell h.lt).trans h.c0, (hb.cell h.lt).trans h.c1, (hb.frozen h.lt).trans h.f0, (hb.frozen h.lt).trans h.f1, fun o v hv => h.only o v ((hb.cell (p := ⟨b, o, none⟩) h.lt).symm.trans hv)⟩
theorem Box.new (w : World) (b : Nat) (m : Bool) (ao : Option Addr) (n cap : Nat) (T : TypeId) (hb : b = w.heap.size) : Box (w.alloc (.cells #[.bool m, .slice ao n cap] T)) b m ao n cap := by
 subst hb
 refine ⟨by simp, by simp [go_sem], by simp [go_sem], by simp [go_sem], by simp [go_sem], fun o v hv => ?_⟩
 match o, hv with
 | 0, _ => exact .inl rfl
 | 1, _ => exact .inr rfl
 | o + 2, hv =>
  have e : (w.alloc (.cells #[.bool m, .slice ao n cap] T)).heap[w.heap.size]? = some (.cells #[.bool m, .slice ao n cap] T (0, 0)) := by show (w.heap.push _)[w.heap.size]? = _; rw [Array.getElem?_push_size]
  unfold World.cell? at hv
  simp only [e] at hv
  simp at hv
theorem Box.set {w : World} {b : Nat} {m : Bool} {ao : Option Addr} {n cap : Nat} (h : Box w b m ao n cap) (m' : Bool) (ao' : Option Addr) (n' cap' : Nat) : Box ((w.setCell ⟨b, 0, none⟩ (.bool m')).setCell ⟨b, 1, none⟩ (.slice ao' n' cap')) b m' ao' n' cap' := by
 have h0 := World.cell?_setCell_same _ _ (.bool m') h.c0
 have h1 : (w.setCell ⟨b, 0, none⟩ (.bool m')).cell? ⟨b, 1, none⟩ = some (.slice ao n cap) := by rw [World.cell?_setCell_other _ _ _ _ (by simp)]; exact h.c1
 refine ⟨by simpa using h.lt, by rw [World.cell?_setCell_other _ _ _ _ (by simp)]; exact h0, World.cell?_setCell_same _ _ _ h1, by simpa using h.f0, by simpa using h.f1, fun o v hv => ?_⟩
 by_cases ho : o = 0 ∨ o = 1
 ·exact ho
 ·rw [World.cell?_setCell_other _ _ _ _ (fun e => ho (.inr (congrArg Addr.off e).symm)), World.cell?_setCell_other _ _ _ _ (fun e => ho (.inl (congrArg Addr.off e).symm))] at hv
  exact h.only o v hv
theorem Box.far {w : World} {b c : Nat} {m : Bool} {ao : Option Addr} {n cap : Nat} (h : Box w b m ao n cap) (hc : c ≠ b) (u' v' : Value) : Box ((w.setCell ⟨c, 0, none⟩ u').setCell ⟨c, 1, none⟩ v') b m ao n cap := by
 have e : ∀ (x : Nat) (y : Nat), (⟨c, x, none⟩ : Addr) ≠ ⟨b, y, none⟩ := fun x y h => hc (congrArg Addr.block h)
 have e2 : ∀ o, ((w.setCell ⟨c, 0, none⟩ u').setCell ⟨c, 1, none⟩ v').cell? ⟨b, o, none⟩ = w.cell? ⟨b, o, none⟩ := fun o => by
  rw [World.cell?_setCell_other _ _ _ _ (e _ _), World.cell?_setCell_other _ _ _ _ (e _ _)]
 exact ⟨by simpa using h.lt, (e2 _).trans h.c0, (e2 _).trans h.c1, by simpa using h.f0, by simpa using h.f1, fun o v hv => h.only o v ((e2 o).symm.trans hv)⟩
theorem Box.not_sl {w : World} {b : Nat} {m : Bool} {bo : Option Addr} {l cb : Nat} (hb : Box w b m bo l cb) {k : IntKind} {x : Int} {ad : Addr} (h : w.cell? ad = some (.int k x)) : ad.block ≠ b := by
 intro e
 obtain ⟨b', o, s⟩ := ad; obtain rfl : b' = b := e
 have hs : s = none := World.cell?_spot h
 subst hs
 rcases hb.only o _ h with rfl | rfl
 ·rw [hb.c0] at h; cases h
 ·rw [hb.c1] at h; cases h
theorem add_block (a : Addr) (t : Nat) : (a.add t).block = a.block := by unfold Addr.add; split <;> rfl
theorem cell_set2 {w : World} {b : Nat} {ad : Addr} (h : ad.block ≠ b) (u v : Value) : ((w.setCell ⟨b, 0, none⟩ u).setCell ⟨b, 1, none⟩ v).cell? ad = w.cell? ad := by
 have e : ∀ x, (⟨b, x, none⟩ : Addr) ≠ ad := fun x he => h (by rw [← he])
 rw [World.cell?_setCell_other _ _ _ _ (e _), World.cell?_setCell_other _ _ _ _ (e _)]
theorem sl_set2 {w : World} {ao : Option Addr} {n cap : Nat} {xs : List Nat} (h : Sl w ao n cap xs) {b : Nat} {m : Bool} {bo : Option Addr} {l cb : Nat} (hb : Box w b m bo l cb) (u v : Value) : Sl ((w.setCell ⟨b, 0, none⟩ u).setCell ⟨b, 1, none⟩ v) ao n cap xs :=
 ⟨h.len, h.le, h.big, h.wf, h.nil, fun ad had t ht => by
  have h0 := h.cells ad had t ht; rw [cell_set2 (hb.not_sl h0)]
  exact h0⟩
theorem dsl_set2 [Ol] {w : World} {ao : Option Addr} {n cap : Nat} {xs : List Nat} (h : Dg.Sl w ao n cap xs) {b : Nat} {m : Bool} {bo : Option Addr} {l cb : Nat} (hb : Box w b m bo l cb) (u v : Value) : Dg.Sl ((w.setCell ⟨b, 0, none⟩ u).setCell ⟨b, 1, none⟩ v) ao n cap xs :=
 ⟨h.len, h.le, h.big, h.wf, h.nil, fun ad had t ht => by
  have h0 := h.cells ad had t ht; rw [cell_set2 (hb.not_sl h0)]
  exact h0, fun h0 ad had => by
  obtain ⟨x, hx⟩ := h.int h0 had; have hne := hb.not_sl hx
  exact (h.kp h0 ad had).keep ((Below.heap_setCell _ _ _ _ hne).trans (Below.heap_setCell _ _ _ _ hne))⟩
theorem In.set2 {w : World} {m : Bool} {ao : Option Addr} {n cap : Nat} {z : Int} (h : In w m ao n cap z) {b : Nat} {k : Bool} {bo : Option Addr} {l cb : Nat} (hb : Box w b k bo l cb) (u v : Value) : In ((w.setCell ⟨b, 0, none⟩ u).setCell ⟨b, 1, none⟩ v) m ao n cap z := by
 obtain ⟨xs, hs, hz⟩ := h
 exact ⟨xs, sl_set2 hs hb u v, hz⟩
theorem Cn.set2 {w : World} {m : Bool} {ao : Option Addr} {n cap : Nat} {z : Int} (h : Cn w m ao n cap z) {b : Nat} {k : Bool} {bo : Option Addr} {l cb : Nat} (hb : Box w b k bo l cb) (u v : Value) : Cn ((w.setCell ⟨b, 0, none⟩ u).setCell ⟨b, 1, none⟩ v) m ao n cap z := ⟨h.neg, sl_set2 h.sl hb u v⟩
theorem below_set2 {B : Nat} {w w1 : World} {b : Nat} (h : Below B w w1) (hb : B ≤ b) (u v : Value) : Below B w ((w1.setCell ⟨b, 0, none⟩ u).setCell ⟨b, 1, none⟩ v) := (h.setCell hb u).setCell hb v
structure Nx (w : World) (m : Bool) (ao : Option Addr) (n cap : Nat) (z : Int) : Prop where
 inn : In w m ao n cap z
 le : n ≤ 1000000
structure Cx (w : World) (m : Bool) (ao : Option Addr) (n cap : Nat) (z : Int) : Prop where
 cn : Cn w m ao n cap z
 le : n ≤ 1000000
theorem Cx.nx {w : World} {m : Bool} {ao : Option Addr} {n cap : Nat} {z : Int} (h : Cx w m ao n cap z) : Nx w m ao n cap z := ⟨h.cn.inn, h.le⟩
theorem Nx.below {w w' : World} {m : Bool} {ao : Option Addr} {n cap : Nat} {z : Int} (h : Nx w m ao n cap z) (hb : Below w.heap.size w w') : Nx w' m ao n cap z := ⟨h.inn.below hb, h.le⟩
theorem Cx.below {w w' : World} {m : Bool} {ao : Option Addr} {n cap : Nat} {z : Int} (h : Cx w m ao n cap z) (hb : Below w.heap.size w w') : Cx w' m ao n cap z := ⟨h.cn.below hb, h.le⟩
theorem Cn.cx {w : World} {m : Bool} {ao : Option Addr} {n cap : Nat} {z : Int} {k : Nat} (h : Cn w m ao n cap z) (hb : Bd z k) (hk : k ≤ 1000000) : Cx w m ao n cap z := ⟨h, Nat.le_trans (h.le hb) hk⟩
structure Zd [Ol] (w : World) (m : Bool) (ao : Option Addr) (n cap : Nat) (z : Int) : Prop where
 neg : m = decide (z < 0)
 sl : Dg.Sl w ao n cap (Dg.limbs z.natAbs)
structure Zx [Ol] (w : World) (m : Bool) (ao : Option Addr) (n cap : Nat) (z : Int) : Prop where
 zd : Zd w m ao n cap z
 le : n ≤ 1000000
theorem Zd.set2 [Ol] {w : World} {m : Bool} {ao : Option Addr} {n cap : Nat} {z : Int} (h : Zd w m ao n cap z) {b : Nat} {k : Bool} {bo : Option Addr} {l cb : Nat} (hb : Box w b k bo l cb) (u v : Value) : Zd ((w.setCell ⟨b, 0, none⟩ u).setCell ⟨b, 1, none⟩ v) m ao n cap z := ⟨h.neg, dsl_set2 h.sl hb u v⟩
theorem Zd.below [Ol] {w w' : World} {m : Bool} {ao : Option Addr} {n cap : Nat} {z : Int} (h : Zd w m ao n cap z) (hb : Below w.heap.size w w') : Zd w' m ao n cap z := ⟨h.neg, h.sl.below hb⟩
theorem Zx.below [Ol] {w w' : World} {m : Bool} {ao : Option Addr} {n cap : Nat} {z : Int} (h : Zx w m ao n cap z) (hb : Below w.heap.size w w') : Zx w' m ao n cap z := ⟨h.zd.below hb, h.le⟩
def NewZ [Ol] (w : World) (z : Int) (e : Ending) (w' : World) : Prop :=
 ∃ m ao n cap, e = .returned (.agg #[.bool m, .slice ao n cap]) ∧ Zd w' m ao n cap z ∧ Below w.heap.size w w'
theorem Bd.digits {z : Int} {k : Nat} (h : Bd z k) : (Dg.limbs z.natAbs).length ≤ 10 * k := by
 refine Dg.limbs_len (Nat.lt_of_lt_of_le h ?_)
 rw [Nat.pow_mul]
 exact Nat.pow_le_pow_left (by omega) k
theorem Zd.zx [Ol] {w : World} {m : Bool} {ao : Option Addr} {n cap : Nat} {z : Int} {k : Nat} (h : Zd w m ao n cap z) (hb : Bd z k) (hk : k ≤ 100000) : Zx w m ao n cap z :=
 ⟨h, by have := hb.digits; rw [h.sl.len] at this; omega⟩
structure Ent where
 kind : Nat
 b : Nat
 m : Bool
 ao : Option Addr
 n : Nat
 cap : Nat
 z : Int
 xs : List Nat
def Ent.sl (ao : Option Addr) (n cap : Nat) (xs : List Nat) : Ent := ⟨0, 0, false, ao, n, cap, 0, xs⟩
def Ent.num (m : Bool) (ao : Option Addr) (n cap : Nat) (z : Int) : Ent := ⟨1, 0, m, ao, n, cap, z, []⟩
def Ent.can (m : Bool) (ao : Option Addr) (n cap : Nat) (z : Int) : Ent := ⟨2, 0, m, ao, n, cap, z, []⟩
def Ent.zed (m : Bool) (ao : Option Addr) (n cap : Nat) (z : Int) : Ent := ⟨3, 0, m, ao, n, cap, z, []⟩
def Ent.box (b : Nat) (m : Bool) (ao : Option Addr) (n cap : Nat) : Ent := ⟨4, b, m, ao, n, cap, 0, []⟩
def Ent.fn (b : Nat) (neg : Bool) : Ent := ⟨5, b, neg, none, 0, 0, 0, []⟩
def Ent.ok [Ol] (w : World) (e : Ent) : Prop := match e.kind with
 | 0 => Sl w e.ao e.n e.cap e.xs
 | 1 => Nx w e.m e.ao e.n e.cap e.z
 | 2 => Cx w e.m e.ao e.n e.cap e.z
 | 3 => Zx w e.m e.ao e.n e.cap e.z
 | 4 => Box w e.b e.m e.ao e.n e.cap
 | _ => e.b < w.heap.size ∧ w.cell? ⟨e.b, 0, none⟩ = some (.bool e.m)
theorem Ent.below [Ol] {w w' : World} (hb : Below w.heap.size w w') {e : Ent} (h : e.ok w) : e.ok w' := by
 obtain ⟨k, b, m, ao, n, cap, z, xs⟩ := e
 match k, h with
 | 0, h => exact Sl.below (show Sl w ao n cap xs from h) hb
 | 1, h => exact Nx.below (show Nx w m ao n cap z from h) hb
 | 2, h => exact Cx.below (show Cx w m ao n cap z from h) hb
 | 3, h => exact Zx.below (show Zx w m ao n cap z from h) hb
 | 4, h => exact Box.below (show Box w b m ao n cap from h) hb
 | k + 5, h =>
  have h2 : b < w.heap.size ∧ w.cell? ⟨b, 0, none⟩ = some (.bool m) := h
  exact (show b < w'.heap.size ∧ w'.cell? ⟨b, 0, none⟩ = some (.bool m) from ⟨Nat.lt_of_lt_of_le h2.1 hb.size, (hb.cell h2.1).trans h2.2⟩)
def Live [Ol] (w : World) : List Ent → Prop
 | [] => True
 | e :: r => e.ok w ∧ Live w r
theorem Live.below [Ol] {w w' : World} (hb : Below w.heap.size w w') : ∀ {l : List Ent}, Live w l → Live w' l
 | [], _ => trivial
 | _ :: _, h => ⟨Ent.below hb h.1, Live.below hb h.2⟩
theorem Live.nil [Ol] (w : World) : Live w [] := trivial
theorem Live.tl [Ol] {w : World} {e : Ent} {r : List Ent} (h : Live w (e :: r)) : Live w r := h.2
theorem Live.sl [Ol] {w : World} {ao : Option Addr} {n cap : Nat} {xs : List Nat} {r : List Ent} (h : Live w (.sl ao n cap xs :: r)) : Sl w ao n cap xs := h.1
theorem Live.num [Ol] {w : World} {m : Bool} {ao : Option Addr} {n cap : Nat} {z : Int} {r : List Ent} (h : Live w (.num m ao n cap z :: r)) : Nx w m ao n cap z := h.1
theorem Live.can [Ol] {w : World} {m : Bool} {ao : Option Addr} {n cap : Nat} {z : Int} {r : List Ent} (h : Live w (.can m ao n cap z :: r)) : Cx w m ao n cap z := h.1
theorem Live.zed [Ol] {w : World} {m : Bool} {ao : Option Addr} {n cap : Nat} {z : Int} {r : List Ent} (h : Live w (.zed m ao n cap z :: r)) : Zx w m ao n cap z := h.1
theorem Live.box [Ol] {w : World} {b : Nat} {m : Bool} {ao : Option Addr} {n cap : Nat} {r : List Ent} (h : Live w (.box b m ao n cap :: r)) : Box w b m ao n cap := h.1
theorem Live.fn [Ol] {w : World} {b : Nat} {neg : Bool} {r : List Ent} (h : Live w (.fn b neg :: r)) : w.cell? ⟨b, 0, none⟩ = some (.bool neg) := h.1.2
theorem Live.add_sl [Ol] {w : World} {ao : Option Addr} {n cap : Nat} {xs : List Nat} {r : List Ent} (h : Sl w ao n cap xs) (hr : Live w r) : Live w (.sl ao n cap xs :: r) := ⟨h, hr⟩
theorem Live.add_num [Ol] {w : World} {m : Bool} {ao : Option Addr} {n cap : Nat} {z : Int} {r : List Ent} (h : Nx w m ao n cap z) (hr : Live w r) : Live w (.num m ao n cap z :: r) := ⟨h, hr⟩
theorem Live.add_can [Ol] {w : World} {m : Bool} {ao : Option Addr} {n cap : Nat} {z : Int} {r : List Ent} (h : Cx w m ao n cap z) (hr : Live w r) : Live w (.can m ao n cap z :: r) := ⟨h, hr⟩
theorem Live.add_zed [Ol] {w : World} {m : Bool} {ao : Option Addr} {n cap : Nat} {z : Int} {r : List Ent} (h : Zx w m ao n cap z) (hr : Live w r) : Live w (.zed m ao n cap z :: r) := ⟨h, hr⟩
theorem Live.add_box [Ol] {w : World} {b : Nat} {m : Bool} {ao : Option Addr} {n cap : Nat} {r : List Ent} (h : Box w b m ao n cap) (hr : Live w r) : Live w (.box b m ao n cap :: r) := ⟨h, hr⟩
theorem Live.add_fn [Ol] {w : World} {b : Nat} {neg : Bool} {r : List Ent} (hb : b < w.heap.size) (h : w.cell? ⟨b, 0, none⟩ = some (.bool neg)) (hr : Live w r) : Live w (.fn b neg :: r) := ⟨⟨hb, h⟩, hr⟩
theorem Zd.of [Ol] {w : World} {m : Bool} {ao : Option Addr} {n cap v : Nat} {neg : Bool} (h : Dg.Sl w ao n cap (Dg.limbs v)) (hm : neg = (m && decide (0 < n))) : Zd w neg ao n cap (zOf m v) := by
 refine ⟨?_, by rw [zOf_abs]; exact h⟩
 rw [hm, zOf_neg]
 congr 1
 have h1 := h.len
 by_cases hv : 0 < v
 ·have : 0 < n := by
   rcases Nat.eq_zero_or_pos n with h0 | h0
   ·rw [h0] at h1
    have h2 : Dg.limbs v = [] := List.eq_nil_of_length_eq_zero h1
    have h3 := Dg.val_limbs v; rw [h2, Dg.val_nil] at h3
    omega
   ·exact h0
  simp [hv, this]
 ·obtain rfl : v = 0 := by omega
  have h2 : n = 0 := by rw [← h1]; rfl
  simp [h2]
theorem Zd.val [Ol] {w : World} {m : Bool} {ao : Option Addr} {n cap : Nat} {z : Int} (h : Zd w m ao n cap z) : zOf m z.natAbs = z := by rw [h.neg, zOf_can]
theorem Zd.pos [Ol] {w : World} {ao : Option Addr} {n cap : Nat} {z : Int} (h : Zd w true ao n cap z) : 0 < n := by
 rcases Nat.eq_zero_or_pos n with h0 | h0
 ·have h1 := h.sl.len
  rw [h0] at h1
  have h2 : Dg.limbs z.natAbs = [] := List.eq_nil_of_length_eq_zero h1
  have h3 := Dg.val_limbs z.natAbs; rw [h2, Dg.val_nil] at h3; have h4 := h.neg
  simp at h4
  omega
 ·exact h0
theorem Zd.zero [Ol] {w : World} {m : Bool} {ao : Option Addr} {n cap : Nat} {z : Int} (h : Zd w m ao n cap z) : n = 0 ↔ z = 0 := by
 have h1 := h.sl.len
 constructor
 ·intro h0
  rw [h0] at h1
  have h2 : Dg.limbs z.natAbs = [] := List.eq_nil_of_length_eq_zero h1
  have h3 := Dg.val_limbs z.natAbs; rw [h2, Dg.val_nil] at h3
  omega
 ·intro h0
  rw [← h1, h0]; rfl
def Ent.apart (b : Nat) (e : Ent) : Prop := e.kind < 4 ∨ b ≠ e.b
theorem Ent.set2 [Ol] {w : World} {b : Nat} {k : Bool} {bo : Option Addr} {l cb : Nat} (hb : Box w b k bo l cb) (u v : Value) {e : Ent} (ha : e.apart b) (h : e.ok w) : e.ok ((w.setCell ⟨b, 0, none⟩ u).setCell ⟨b, 1, none⟩ v) := by
 obtain ⟨k, c, m, ao, n, cap, z, xs⟩ := e
 match k, ha, h with
 | 0, _, h => exact sl_set2 (show Sl w ao n cap xs from h) hb u v
 | 1, _, h =>
  have h2 : Nx w m ao n cap z := h
  exact (show Nx _ m ao n cap z from ⟨h2.inn.set2 hb u v, h2.le⟩)
 | 2, _, h =>
  have h2 : Cx w m ao n cap z := h
  exact (show Cx _ m ao n cap z from ⟨h2.cn.set2 hb u v, h2.le⟩)
 | 3, _, h =>
  have h2 : Zx w m ao n cap z := h
  exact (show Zx _ m ao n cap z from ⟨h2.zd.set2 hb u v, h2.le⟩)
 | 4, ha, h =>
  have hne : b ≠ c := by rcases ha with h3 | h3; · exact absurd (show 4 < 4 from h3) (by omega)
                         ·exact h3
  exact Box.far (show Box w c m ao n cap from h) hne u v
 | k + 5, ha, h =>
  have hne : b ≠ c := by rcases ha with h3 | h3; · exact absurd (show k + 5 < 4 from h3) (by omega)
                         ·exact h3
  have h2 : c < w.heap.size ∧ w.cell? ⟨c, 0, none⟩ = some (.bool m) := h
  exact (show c < _ ∧ World.cell? _ ⟨c, 0, none⟩ = some (.bool m) from ⟨by simpa using h2.1, (cell_set2 (ad := ⟨c, 0, none⟩) (show c ≠ b from fun e => hne e.symm) u v).trans h2.2⟩)
def Apart (b : Nat) : List Ent → Prop
 | [] => True
 | e :: r => e.apart b ∧ Apart b r
theorem Live.put [Ol] {w : World} {b : Nat} {k : Bool} {bo : Option Addr} {l cb : Nat} (hb : Box w b k bo l cb) (u v : Value) : ∀ {r : List Ent}, Live w r → Apart b r → Live ((w.setCell ⟨b, 0, none⟩ u).setCell ⟨b, 1, none⟩ v) r
 | [], _, _ => trivial
 | _ :: _, h, ha => ⟨Ent.set2 hb u v ha.1 h.1, Live.put hb u v h.2 ha.2⟩
theorem zero_cx (w : World) : Cx w false none 0 0 0 := ⟨⟨by simp, Sl.none w⟩, by omega⟩
structure St [Ol] (w0 w : World) (B N : List Ent) : Prop where
 b : Live w B
 n : Live w N
 h : Below w0.heap.size w0 w
theorem St.step [Ol] {w0 w w' : World} {B N : List Ent} (s : St w0 w B N) (hb : Below w.heap.size w w') : St w0 w' B N := ⟨s.b.below hb, s.n.below hb, Below.steps s.h hb⟩
theorem St.drew [Ol] {w0 w : World} {B N : List Ent} (s : St w0 w B N) : St w0 w.drew B N := s.step (Below.refl _ _).drew
theorem St.can [Ol] {w0 w : World} {B N : List Ent} {m : Bool} {ao : Option Addr} {n cap : Nat} {z : Int} (s : St w0 w B N) (h : Cx w m ao n cap z) : St w0 w B (.can m ao n cap z :: N) := ⟨s.b, ⟨h, s.n⟩, s.h⟩
theorem St.zed [Ol] {w0 w : World} {B N : List Ent} {m : Bool} {ao : Option Addr} {n cap : Nat} {z : Int} (s : St w0 w B N) (h : Zx w m ao n cap z) : St w0 w B (.zed m ao n cap z :: N) := ⟨s.b, ⟨h, s.n⟩, s.h⟩
theorem St.num [Ol] {w0 w : World} {B N : List Ent} {m : Bool} {ao : Option Addr} {n cap : Nat} {z : Int} (s : St w0 w B N) (h : Nx w m ao n cap z) : St w0 w B (.num m ao n cap z :: N) := ⟨s.b, ⟨h, s.n⟩, s.h⟩
theorem St.sl [Ol] {w0 w : World} {B N : List Ent} {ao : Option Addr} {n cap : Nat} {xs : List Nat} (s : St w0 w B N) (h : Sl w ao n cap xs) : St w0 w B (.sl ao n cap xs :: N) := ⟨s.b, ⟨h, s.n⟩, s.h⟩
theorem St.box [Ol] {w0 w : World} {B N : List Ent} {b : Nat} {m : Bool} {ao : Option Addr} {n cap : Nat} (s : St w0 w B N) (h : Box w b m ao n cap) : St w0 w (.box b m ao n cap :: B) N := ⟨⟨h, s.b⟩, s.n, s.h⟩
theorem St.alloc [Ol] {w0 w : World} {B N : List Ent} (s : St w0 w B N) (b : Nat) (m : Bool) (ao : Option Addr) (n cap : Nat) (T : TypeId) (hb : b = w.heap.size) : St w0 (w.alloc (.cells #[.bool m, .slice ao n cap] T)) (.box b m ao n cap :: B) N :=
 (s.step (below_alloc w _)).box (Box.new w b m ao n cap T hb)
theorem St.put [Ol] {w0 w : World} {B N : List Ent} {b : Nat} {m : Bool} {ao : Option Addr} {n cap : Nat} (s : St w0 w B N) (hb : Box w b m ao n cap) (u v : Value) (h0 : w0.heap.size ≤ b) (hB : Apart b B) (hN : Apart b N) : St w0 ((w.setCell ⟨b, 0, none⟩ u).setCell ⟨b, 1, none⟩ v) B N :=
 ⟨Live.put hb u v s.b hB, Live.put hb u v s.n hN, below_set2 s.h h0 u v⟩
theorem Live.c [Ol] {w : World} {b : Nat} {m : Bool} {ao : Option Addr} {n cap : Nat} {r : List Ent} (h : Live w (.box b m ao n cap :: r)) : w.cell? ⟨b, 0, none⟩ = some (.bool m) ∧ w.cell? ⟨b, 1, none⟩ = some (.slice ao n cap) := ⟨h.box.c0, h.box.c1⟩
theorem Live.t [Ol] {w : World} {e : Ent} {r : List Ent} (h : Live w (e :: r)) : Live w r := h.2
def mayB (m : Bool) (n : Nat) (xs : List Nat) : Bool := if n = 0 then !m else decide (xs.getD (n - 1) 0 ≠ 0)
theorem last_pos (xs : List Nat) (k : Nat) (h : trimL xs = xs) (hk : xs.length = k + 1) : xs.getD k 0 ≠ 0 := by
 intro e
 have h1 := take_succ_getD xs k (by omega)
 rw [take_all xs (k + 1) hk, e] at h1; have h2 := congrArg trimL h1
 rw [trimL_append_zero] at h2; have h3 := nl_le (xs.take k)
 unfold nl at h3
 rw [← h2, h, List.length_take] at h3
 omega
end Go.Proofs.YtmmgipcacceakaaGreat

/-
  In one: Law, Law2, RowKit.
-/
import Derived.Test.YteceomlbnajihaaGreatDoorGRef
import Derived.Test.YteceomlbnajihaaGreatDoorGMem
import Derived.ProofKit
import Derived.SizedLaws
set_option maxRecDepth 8192
/- What the walks of the laws share: all live slices under one name. -/
namespace Go.Proofs.YteceomlbnajihaaGreatDoor
open Go.RowKit

/-- All these slices of limbs can be read. -/
def All (w : World) : List (Option Addr × Nat × Nat × List Nat) → Prop
  | [] => True
  | s :: r => Sl w s.1 s.2.1 s.2.2.1 s.2.2.2 ∧ All w r

theorem All.nil (w : World) : All w [] := trivial
theorem All.cons {w : World} {ao : Option Addr} {n cap : Nat} {xs : List Nat} {r : List (Option Addr × Nat × Nat × List Nat)} (h : Sl w ao n cap xs) (hr : All w r) : All w ((ao, n, cap, xs) :: r) := ⟨h, hr⟩
theorem All.head {w : World} {ao : Option Addr} {n cap : Nat} {xs : List Nat} {r : List (Option Addr × Nat × Nat × List Nat)} (h : All w ((ao, n, cap, xs) :: r)) : Sl w ao n cap xs := h.1
theorem All.tail {w : World} {s : Option Addr × Nat × Nat × List Nat} {r : List (Option Addr × Nat × Nat × List Nat)} (h : All w (s :: r)) : All w r := h.2
theorem All.below {w w' : World} (hb : Below w.heap.size w w') : ∀ {r : List (Option Addr × Nat × Nat × List Nat)}, All w r → All w' r
  | [], _ => trivial
  | _ :: _, h => ⟨h.1.below hb, All.below hb h.2⟩

theorem limbs_len {n k : Nat} (h : n < 4294967296 ^ k) : (limbs n).length ≤ k := by
  rcases Nat.lt_or_ge k (limbs n).length with hl | hl
  · obtain ⟨j, hj⟩ : ∃ j, nl (limbs n) = j + 1 := ⟨(limbs n).length - 1, by rw [nl_limbs]; omega⟩
    have h1 := pow_le_of_nl j hj
    rw [val_limbs] at h1
    have h2 : 4294967296 ^ k ≤ 4294967296 ^ j := Nat.pow_le_pow_right (by omega) (by rw [nl_limbs] at hj; omega)
    omega
  · exact hl

theorem val_small {xs : List Nat} {n : Nat} (k : Nat) (hw : Wf xs) (hl : xs.length = n) (hk : n ≤ k) : val xs < 4294967296 ^ k := by
  have h := val_lt xs hw
  rw [hl] at h
  exact Nat.lt_of_lt_of_le h (Nat.pow_le_pow_right (by omega) hk)

theorem lt_pow_mono {a j k : Nat} (h : a < 4294967296 ^ j) (hk : j ≤ k) : a < 4294967296 ^ k :=
  Nat.lt_of_lt_of_le h (Nat.pow_le_pow_right (by omega) hk)

theorem same_bb (r : Bool) (a0 b0 : Option Addr) (la ca lb cb : Nat) (xs ys : List Nat) (w : World) (ha : Sl w a0 la ca xs) (hb : Sl w b0 lb cb ys) (h : sameB xs ys = r) :
    Calls Tryz.prog 60 #[.slice a0 la ca, .slice b0 lb cb] w (RetB (.bool r) w) := by
  rw [← h]; exact (same_any a0 b0 la ca lb cb xs ys w ha hb).mono fun _ _ h => h.b

theorem sameB_ne {n m : Nat} (h : n ≠ m) : sameB (limbs n) (limbs m) = false := by
  unfold sameB
  rw [decide_eq_false_iff_not]
  exact fun e => h (limbs_inj e)

theorem canon_limbs (n : Nat) : trimL (limbs n) = limbs n := trim_of_limbs n

/-- A law: it answers true, and leaves what was there as it was. -/
def True' (w : World) (e : Ending) (w' : World) : Prop := e = .returned (.bool true) ∧ Below w.heap.size w w'

end Go.Proofs.YteceomlbnajihaaGreatDoor

/- What the walks of laws over limbs and digits share. -/
namespace Go.Proofs.YteceomlbnajihaaGreatDoor
open Go.RowKit

/-- All these slices of digits can be read. -/
def Dg.All (w : World) : List (Option Addr × Nat × Nat × List Nat) → Prop
  | [] => True
  | s :: r => Dg.Sl w s.1 s.2.1 s.2.2.1 s.2.2.2 ∧ Dg.All w r

theorem Dg.All.nil (w : World) : Dg.All w [] := trivial
theorem Dg.All.cons {w : World} {ao : Option Addr} {n cap : Nat} {xs : List Nat} {r : List (Option Addr × Nat × Nat × List Nat)} (h : Dg.Sl w ao n cap xs) (hr : Dg.All w r) : Dg.All w ((ao, n, cap, xs) :: r) := ⟨h, hr⟩
theorem Dg.All.head {w : World} {ao : Option Addr} {n cap : Nat} {xs : List Nat} {r : List (Option Addr × Nat × Nat × List Nat)} (h : Dg.All w ((ao, n, cap, xs) :: r)) : Dg.Sl w ao n cap xs := h.1
theorem Dg.All.tail {w : World} {s : Option Addr × Nat × Nat × List Nat} {r : List (Option Addr × Nat × Nat × List Nat)} (h : Dg.All w (s :: r)) : Dg.All w r := h.2
theorem Dg.All.below {w w' : World} (hb : Below w.heap.size w w') : ∀ {r : List (Option Addr × Nat × Nat × List Nat)}, Dg.All w r → Dg.All w' r
  | [], _ => trivial
  | _ :: _, h => ⟨h.1.below hb, Dg.All.below hb h.2⟩

theorem apart32 {B : Nat} {w1 w2 : World} {ao ao' : Option Addr} {n cap n' cap' : Nat} {ys ys' : List Nat} (h : Own B w1 ao n cap ys) (h' : Own w1.heap.size w2 ao' n' cap' ys') :
    (Value.slice ao' n' cap').ownBlock = none ∨ (Value.slice ao' n' cap').ownBlock ≠ (Value.slice ao n cap).ownBlock := by
  rcases h'.parts with ⟨h2, _⟩ | ⟨g, h2, h3, _⟩
  · left; rw [h2]; rfl
  · right
    intro e
    rw [h2] at e
    have h1 := (h.row.lt g (by rw [← e]; rfl)).2
    omega

/-- how many digits a number of at most k limbs has -/
theorem dig_len {xs : List Nat} {n : Nat} (k : Nat) (hw : Wf xs) (hl : xs.length = n) (h : n ≤ k) : (Dg.limbs (val xs)).length ≤ 10 * k := by
  have := Dg.digits_of_limbs hw 0 n hl
  rw [List.drop_zero] at this
  omega

/-- Two slices of the law's own, in blocks of their own; what was there before both stays. -/
structure TwoOwn (wc : World) (s0 : Option Addr) (sn sc : Nat) (t0 : Option Addr) (tn tc : Nat) (wr : World) : Prop where
  one : ∃ zs, Own wc.heap.size wr s0 sn sc zs
  two : ∃ zs, Own wc.heap.size wr t0 tn tc zs
  below : Below wc.heap.size wc wr

theorem own_other {B : Nat} {w : World} {ao : Option Addr} {n cap : Nat} {ys : List Nat} (h : Own B w ao n cap ys) {a : Addr} (ha : (Value.slice ao n cap).ownBlock ≠ some a.block) (u : Value) : Own B (w.setCell a u) ao n cap ys :=
  ⟨ownsRow_setCell_other h.row ha u, h.big, h.wf⟩

theorem TwoOwn.at_one {wc : World} {s0 : Option Addr} {sn sc : Nat} {t0 : Option Addr} {tn tc : Nat} {wr : World} (h : TwoOwn wc s0 sn sc t0 tn tc wr) (hn : 0 < sn) :
    ∃ g zs, s0 = some ⟨g, 0, none⟩ ∧ wc.heap.size ≤ g ∧ Own wc.heap.size wr (some ⟨g, 0, none⟩) sn sc zs := by
  obtain ⟨zs, hO⟩ := h.one
  rcases hO.parts with ⟨_, h0, _⟩ | ⟨g, rfl, hg, _⟩
  · omega
  · exact ⟨g, zs, rfl, hg, hO⟩

theorem TwoOwn.at_two {wc : World} {s0 : Option Addr} {sn sc : Nat} {t0 : Option Addr} {tn tc : Nat} {wr : World} (h : TwoOwn wc s0 sn sc t0 tn tc wr) (hn : 0 < tn) :
    ∃ g zs, t0 = some ⟨g, 0, none⟩ ∧ wc.heap.size ≤ g ∧ Own wc.heap.size wr (some ⟨g, 0, none⟩) tn tc zs := by
  obtain ⟨zs, hO⟩ := h.two
  rcases hO.parts with ⟨_, h0, _⟩ | ⟨g, rfl, hg, _⟩
  · omega
  · exact ⟨g, zs, rfl, hg, hO⟩

theorem TwoOwn.set_one {wc : World} {g sn sc : Nat} {t0 : Option Addr} {tn tc : Nat} {wr : World} (h : TwoOwn wc (some ⟨g, 0, none⟩) sn sc t0 tn tc wr) (hg : wc.heap.size ≤ g)
    (ha : (Value.slice t0 tn tc).ownBlock = none ∨ (Value.slice t0 tn tc).ownBlock ≠ (Value.slice (some ⟨g, 0, none⟩) sn sc).ownBlock) (k x : Nat) (hx : x < 4294967296) {v : Value} (hv : v = .int .u32 ((x : Nat) : Int)) :
    TwoOwn wc (some ⟨g, 0, none⟩) sn sc t0 tn tc (wr.setCell ⟨g, k, none⟩ v) := by
  subst hv
  obtain ⟨zs, hO⟩ := h.one
  obtain ⟨zt, hT⟩ := h.two
  refine ⟨⟨_, hO.set k x hx⟩, ⟨_, own_other hT ?_ _⟩, h.below.setCell hg _⟩
  rcases ha with ha | ha
  · rw [ha]; exact fun e => by cases e
  · exact ha

theorem TwoOwn.set_two {wc : World} {g : Nat} {s0 : Option Addr} {sn sc tn tc : Nat} {wr : World} (h : TwoOwn wc s0 sn sc (some ⟨g, 0, none⟩) tn tc wr) (hg : wc.heap.size ≤ g)
    (ha : (Value.slice (some ⟨g, 0, none⟩) tn tc).ownBlock = none ∨ (Value.slice (some ⟨g, 0, none⟩) tn tc).ownBlock ≠ (Value.slice s0 sn sc).ownBlock) (k x : Nat) (hx : x < 4294967296) {v : Value} (hv : v = .int .u32 ((x : Nat) : Int)) :
    TwoOwn wc s0 sn sc (some ⟨g, 0, none⟩) tn tc (wr.setCell ⟨g, k, none⟩ v) := by
  subst hv
  obtain ⟨zs, hO⟩ := h.one
  obtain ⟨zt, hT⟩ := h.two
  refine ⟨⟨_, own_other hO ?_ _⟩, ⟨_, hT.set k x hx⟩, h.below.setCell hg _⟩
  rcases ha with ha | ha
  · cases ha
  · exact fun e => ha e.symm

end Go.Proofs.YteceomlbnajihaaGreatDoor

/- What the rows of the laws share: an argument of type []uint32 opened once; closed facts. -/
namespace Go.Proofs.YteceomlbnajihaaGreatDoor
open Go.ChangeShapes Go.WideShapes Go.ChangeAt Go.RowKit

theorem Tryz.own : ownKnob Tryz.prog.godebug = none := by kernel_rfl
theorem Tryz.laidOut : laidOutB Tryz.prog = true := by kernel_rfl
theorem Tryz.cells_u32 : Tryz.prog.cellsOf 79 = 1 := by kernel_rfl
theorem Tryz.bytes_u32 : Tryz.prog.bytesOf 79 = 4 := by kernel_rfl

theorem u32_wf {n : Int} (h : (Lit.int .u32 n).wf = true) : 0 ≤ n ∧ n < 4294967296 := by
  simp [Lit.wf, IntKind.min, IntKind.max, IntKind.signed, IntKind.bits] at h
  omega

theorem u64_wf {n : Int} (h : (Lit.int .u64 n).wf = true) : 0 ≤ n ∧ n ≤ 18446744073709551615 := by
  simp [Lit.wf, IntKind.min, IntKind.max, IntKind.signed, IntKind.bits] at h
  omega

theorem u8_wf {n : Int} (h : (Lit.int .u8 n).wf = true) : 0 ≤ n ∧ n < 256 := by
  simp [Lit.wf, IntKind.min, IntKind.max, IntKind.signed, IntKind.bits] at h
  omega

theorem u16_wf {n : Int} (h : (Lit.int .u16 n).wf = true) : 0 ≤ n ∧ n < 65536 := by
  simp [Lit.wf, IntKind.min, IntKind.max, IntKind.signed, IntKind.bits] at h
  omega

/-- AN ARGUMENT OF TYPE []uint32, nil or not. -/
theorem view_u32 {H : Type} {enc : TypeId × Value → H} {W : World} {a0 : Option Addr} {len cap : Nat} {d : DataW H} {p : List MemPlace}
    (hd : DataW.Trod enc Tryz.prog W 0 (fun _ => true) true 22 (.slice a0 len cap) d p)
    (hsz : ∀ elems spare, d = .slice elems spare → (elems.length + spare.length) * 4 ≤ 140737488351232) :
    ∃ xs : List Nat, Sl W a0 len cap xs := by
  obtain ⟨fuel, hf⟩ := hd
  rcases open_ints Tryz.underlying22 Tryz.underlying79 Tryz.cells_u32 hf with ⟨hcs, hx⟩ | ⟨a, len', cap', zs, hcs, _, hl, hm, hz, hx, hcell, hwz⟩
  · simp [Value.cells] at hcs
    obtain ⟨rfl, rfl, rfl⟩ := hcs
    exact ⟨[], Sl.none W⟩
  · simp [Value.cells] at hcs
    obtain ⟨rfl, rfl, rfl⟩ := hcs
    simp only [Prod.mk.injEq] at hx
    obtain ⟨rfl, rfl⟩ := hx
    simp only [if_true] at hz
    have hs := hsz _ _ rfl
    simp only [lits, List.length_map, List.length_take, List.length_drop] at hs
    refine ⟨(zs.take len).map Int.toNat, by simp; omega, hl, by omega, ?_, (fun h => by cases h), fun ad had t ht => ?_⟩
    · intro x hx
      obtain ⟨z, hz1, rfl⟩ := List.mem_map.1 hx
      have := u32_wf (hwz z (List.mem_of_mem_take hz1))
      omega
    · obtain rfl := Option.some.inj had
      rw [hcell t (by omega)]
      have hmem : zs[t]'(by omega) ∈ zs := List.getElem_mem _
      have hw := u32_wf (hwz _ hmem)
      have e : ((((zs.take len).map Int.toNat).getD t 0 : Nat) : Int) = zs.getD t 0 := by
        simp [List.getD, ht, show t < zs.length by omega]
        omega
      rw [e]

end Go.Proofs.YteceomlbnajihaaGreatDoor


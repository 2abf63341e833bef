/- Law, Law2, RowKit -/
import Derived.Test.YtmmgipcacceakaaGreatGRef
import Derived.ProofKit
import Derived.SizedLaws
set_option maxHeartbeats 40000000
set_option maxRecDepth 100000
/- What the walks of the laws share: all live slices under one name. -/
namespace Go.Proofs.YtmmgipcacceakaaGreat
open Go.RowKit
def All (w : World) : List (Option Addr × Nat × Nat × List Nat) → Prop
 | [] => True
 | s :: r => Sl w s.1 s.2.1 s.2.2.1 s.2.2.2 ∧ All w r
theorem All.nil (w : World) : All w [] := trivial
theorem All.cons {w : World} {ao : Option Addr} {n cap : Nat} {xs : List Nat} {r : List (Option Addr × Nat × Nat × List Nat)} (h : Sl w ao n cap xs) (hr : All w r) : All w ((ao, n, cap, xs) :: r) := ⟨h, hr⟩
theorem All.head {w : World} {ao : Option Addr} {n cap : Nat} {xs : List Nat} {r : List (Option Addr × Nat × Nat × List Nat)} (h : All w ((ao, n, cap, xs) :: r)) : Sl w ao n cap xs := h.1
theorem All.tl {w : World} {s : Option Addr × Nat × Nat × List Nat} {r : List (Option Addr × Nat × Nat × List Nat)} (h : All w (s :: r)) : All w r := h.2
theorem All.below {w w' : World} (hb : Below w.heap.size w w') : ∀ {r : List (Option Addr × Nat × Nat × List Nat)}, All w r → All w' r
 | [], _ => trivial
 | _ :: _, h => ⟨h.1.below hb, All.below hb h.2⟩
theorem limbs_len {n k : Nat} (h : n < 4294967296 ^ k) : (limbs n).length ≤ k := by
 rcases Nat.lt_or_ge k (limbs n).length with hl | hl
 ·obtain ⟨j, hj⟩ : ∃ j, nl (limbs n) = j + 1 := ⟨(limbs n).length - 1, by rw [nl_limbs]; omega⟩
  have h1 := pow_le_of_nl j hj; rw [val_limbs] at h1
  have h2 : 4294967296 ^ k ≤ 4294967296 ^ j := Nat.pow_le_pow_right (by omega) (by rw [nl_limbs] at hj; omega)
  omega
 ·exact hl
theorem val_small {xs : List Nat} {n : Nat} (k : Nat) (hw : Wf xs) (hl : xs.length = n) (hk : n ≤ k) : val xs < 4294967296 ^ k := by
 have h := val_lt xs hw; rw [hl] at h
 exact Nat.lt_of_lt_of_le h (Nat.pow_le_pow_right (by omega) hk)
theorem lt_pow_mono {a j k : Nat} (h : a < 4294967296 ^ j) (hk : j ≤ k) : a < 4294967296 ^ k :=
 Nat.lt_of_lt_of_le h (Nat.pow_le_pow_right (by omega) hk)
theorem same_bb (r : Bool) (a0 b0 : Option Addr) (la ca lb cb : Nat) (xs ys : List Nat) (w : World) (ha : Sl w a0 la ca xs) (hb : Sl w b0 lb cb ys) (h : sameB xs ys = r) :
  Calls Tryz.prog 73 #[.slice a0 la ca, .slice b0 lb cb] w (RetB (.bool r) w) := by
 rw [← h]; exact (same_any a0 b0 la ca lb cb xs ys w ha hb).mono fun _ _ h => h.b
end Go.Proofs.YtmmgipcacceakaaGreat

/- What the walks of laws over limbs and digits share. -/
namespace Go.Proofs.YtmmgipcacceakaaGreat
open Go.RowKit
def Dg.All [Ol] (w : World) : List (Option Addr × Nat × Nat × List Nat) → Prop
 | [] => True
 | s :: r => Dg.Sl w s.1 s.2.1 s.2.2.1 s.2.2.2 ∧ Dg.All w r
theorem Dg.All.nil [Ol] (w : World) : Dg.All w [] := trivial
theorem Dg.All.cons [Ol] {w : World} {ao : Option Addr} {n cap : Nat} {xs : List Nat} {r : List (Option Addr × Nat × Nat × List Nat)} (h : Dg.Sl w ao n cap xs) (hr : Dg.All w r) : Dg.All w ((ao, n, cap, xs) :: r) := ⟨h, hr⟩
theorem Dg.All.head [Ol] {w : World} {ao : Option Addr} {n cap : Nat} {xs : List Nat} {r : List (Option Addr × Nat × Nat × List Nat)} (h : Dg.All w ((ao, n, cap, xs) :: r)) : Dg.Sl w ao n cap xs := h.1
theorem Dg.All.tail [Ol] {w : World} {s : Option Addr × Nat × Nat × List Nat} {r : List (Option Addr × Nat × Nat × List Nat)} (h : Dg.All w (s :: r)) : Dg.All w r := h.2
theorem Dg.All.below [Ol] {w w' : World} (hb : Below w.heap.size w w') : ∀ {r : List (Option Addr × Nat × Nat × List Nat)}, Dg.All w r → Dg.All w' r
 | [], _ => trivial
 | _ :: _, h => ⟨h.1.below hb, Dg.All.below hb h.2⟩
end Go.Proofs.YtmmgipcacceakaaGreat

/- What the rows of the laws share: an argument of type []uint32 opened once; closed facts. -/
namespace Go.Proofs.YtmmgipcacceakaaGreat
open Go.ChangeShapes Go.WideShapes Go.ChangeAt Go.RowKit
theorem Tryz.own : ownKnob Tryz.prog.godebug = none := by kernel_rfl
theorem Tryz.cells_u32 : Tryz.prog.cellsOf 118 = 1 := by kernel_rfl
theorem Tryz.bytes_u32 : Tryz.prog.bytesOf 118 = 4 := by kernel_rfl
theorem u32_wf {n : Int} (h : (Lit.int .u32 n).wf = true) : 0 ≤ n ∧ n < 4294967296 := by
 simp [Lit.wf, IntKind.min, IntKind.max, IntKind.signed, IntKind.bits] at h
 omega
theorem view_u32 {H : Type} {enc : TypeId × Value → H} {W : World} {a0 : Option Addr} {len cap : Nat} {d : DataW H} {p : List MemPlace}
  (hd : DataW.Trod enc Tryz.prog W 0 (fun _ => true) true 50 (.slice a0 len cap) d p)
  (hsz : ∀ elems spare, d = .slice elems spare → (elems.length + spare.length) * 4 ≤ 140737488351232) :
  ∃ xs : List Nat, Sl W a0 len cap xs := by
 obtain ⟨fuel, hf⟩ := hd
 rcases open_ints Tryz.underlying50 Tryz.underlying118 Tryz.cells_u32 hf with ⟨hcs, hx⟩ | ⟨a, len', cap', zs, hcs, _, hl, hm, hz, hx, hcell, hwz⟩
 ·simp [Value.cells] at hcs
  obtain ⟨rfl, rfl, rfl⟩ := hcs
  exact ⟨[], Sl.none W⟩
 ·simp [Value.cells] at hcs
  obtain ⟨rfl, rfl, rfl⟩ := hcs
  simp only [Prod.mk.injEq] at hx
  obtain ⟨rfl, rfl⟩ := hx
  simp only [if_true] at hz
  have hs := hsz _ _ rfl
  simp only [lits, List.length_map, List.length_take, List.length_drop] at hs
  refine ⟨(zs.take len).map Int.toNat, by simp; omega, hl, by omega, ?_, (fun h => by cases h), fun ad had t ht => ?_⟩
  ·intro x hx
   obtain ⟨z, hz1, rfl⟩ := List.mem_map.1 hx
   have := u32_wf (hwz z (List.mem_of_mem_take hz1))
   omega
  ·obtain rfl := Option.some.inj had
   rw [hcell t (by omega)]
   have hmem : zs[t]'(by omega) ∈ zs := List.getElem_mem _
   have hw := u32_wf (hwz _ hmem)
   have e : ((((zs.take len).map Int.toNat).getD t 0 : Nat) : Int) = zs.getD t 0 := by
    simp [List.getD, ht, show t < zs.length by omega]
    omega
   rw [e]
end Go.Proofs.YtmmgipcacceakaaGreat


/- DPlain, Div32, DBare, DRow, DGuess, DTake, DPut, DTold, DLong, DLimb, DDiv -/
import Derived.Test.YtmmgipcacceakaaGreatGTimes
import Derived.WalkMore
set_option maxHeartbeats 40000000
set_option maxRecDepth 100000
/- Plain lemmas for layer 3: the guess of a limb, a row less a multiple of the divisor, the divisor put back. -/
namespace Go.Proofs.YtmmgipcacceakaaGreat
structure GuessFacts (r V P v1 v2 u0 u1 u2 vl rl : Nat) : Prop where
 ev : V = P * (v1 * 4294967296 + v2) + vl
 vlt : vl < P
 er : r = P * ((u0 * 4294967296 + u1) * 4294967296 + u2) + rl
 rlt : rl < P
 lt : r < 4294967296 * V
 top : 2147483648 ≤ v1
 bv1 : v1 < 4294967296
 bv2 : v2 < 4294967296
 bu0 : u0 < 4294967296
 bu1 : u1 < 4294967296
 bu2 : u2 < 4294967296
structure GuessInv (r V v1 W g s : Nat) : Prop where
 sum : g * v1 + s = W
 low : r < (g + 1) * V
theorem GuessFacts.wide_lt {r V P v1 v2 u0 u1 u2 vl rl : Nat} (h : GuessFacts r V P v1 v2 u0 u1 u2 vl rl) : r < P * ((u0 * 4294967296 + u1) * 4294967296 + u2 + 1) := by
 rw [h.er, Nat.mul_add P _ 1, Nat.mul_one]
 have := h.rlt
 omega
theorem GuessFacts.mul_ge {r V P v1 v2 u0 u1 u2 vl rl : Nat} (h : GuessFacts r V P v1 v2 u0 u1 u2 vl rl) (g : Nat) : P * (g * v1 * 4294967296 + g * v2) ≤ g * V := by
 rw [h.ev, Nat.mul_add g, Nat.mul_left_comm g P, Nat.mul_add g, ← Nat.mul_assoc g v1]
 omega
theorem GuessFacts.start {r V P v1 v2 u0 u1 u2 vl rl : Nat} (h : GuessFacts r V P v1 v2 u0 u1 u2 vl rl) : GuessInv r V v1 (u0 * 4294967296 + u1) ((u0 * 4294967296 + u1) / v1) ((u0 * 4294967296 + u1) % v1) := by
 have ht := h.top
 generalize hW : u0 * 4294967296 + u1 = W
 have hd := Nat.div_add_mod W v1
 have hm := Nat.mod_lt W (show 0 < v1 by omega)
 refine ⟨by rw [Nat.mul_comm]; exact hd, ?_⟩
 have h1 := h.wide_lt; rw [hW] at h1; have h2 := h.mul_ge (W / v1 + 1)
 have h3 : W + 1 ≤ (W / v1 + 1) * v1 := by rw [Nat.add_mul, Nat.mul_comm (W / v1)]; omega
 have h4 : P * (W * 4294967296 + u2 + 1) ≤ P * ((W / v1 + 1) * v1 * 4294967296 + (W / v1 + 1) * v2) := by
  refine Nat.mul_le_mul_left _ ?_
  have := h.bu2
  omega
 omega
theorem GuessFacts.done {r V P v1 v2 u0 u1 u2 vl rl g s : Nat} (h : GuessFacts r V P v1 v2 u0 u1 u2 vl rl) (hI : GuessInv r V v1 (u0 * 4294967296 + u1) g s) (hg : g < 4294967296) (h3 : g * v2 ≤ s * 4294967296 + u2) : g * V < r + V := by
 have h1 := hI.sum
 have h2 : P * (g * v1 * 4294967296 + g * v2) ≤ P * ((u0 * 4294967296 + u1) * 4294967296 + u2) := Nat.mul_le_mul_left _ (by omega)
 have e : g * V = P * (g * v1 * 4294967296 + g * v2) + g * vl := by
  rw [h.ev, Nat.mul_add g, Nat.mul_left_comm g P, Nat.mul_add g, ← Nat.mul_assoc g v1]
 have h4 : g * vl ≤ 4294967295 * P := Nat.mul_le_mul (by omega) (Nat.le_of_lt h.vlt)
 have h5 : P * (1 * 4294967296) ≤ P * (v1 * 4294967296 + v2) := Nat.mul_le_mul_left _ (by have := h.top; omega)
 have h6 := h.ev; have h7 := h.er; have h8 := h.vlt
 omega
end Go.Proofs.YtmmgipcacceakaaGreat

/- The contracts of math/bits.Div32 and math/bits.LeadingZeros32. -/
namespace Go.Proofs.YtmmgipcacceakaaGreat
open Go.RowKit
end Go.Proofs.YtmmgipcacceakaaGreat

/- The contract of divide.bare. -/
namespace Go.Proofs.YtmmgipcacceakaaGreat
open Go.RowKit
end Go.Proofs.YtmmgipcacceakaaGreat

/- A row in the middle of limbs that are the call's own. -/
namespace Go.Proofs.YtmmgipcacceakaaGreat
open Go.RowKit
structure RowIn (w0 : World) (g N i : Nat) (L R H : List Nat) (w : World) : Prop where
 own : Own w0.heap.size w (some ⟨g, 0, none⟩) N N (L ++ (R ++ H))
 below : Below w0.heap.size w0 w
 len : L.length = i
 base : w0.heap.size ≤ g
theorem RowIn.fits {w0 : World} {g N i : Nat} {L R H : List Nat} {w : World} (h : RowIn w0 g N i L R H w) : i + R.length ≤ N := by
 have h1 := h.own.len; have h2 := h.len
 simp at h1
 omega
theorem RowIn.wf {w0 : World} {g N i : Nat} {L R H : List Nat} {w : World} (h : RowIn w0 g N i L R H w) : Wf R := fun x hx => h.own.wf x (by simp [hx])
theorem RowIn.cell {w0 : World} {g N i : Nat} {L R H : List Nat} {w : World} (h : RowIn w0 g N i L R H w) (k : Nat) (hk : k < R.length) : w.cell? ⟨g, i + k, none⟩ = some (.int .u32 (R.getD k 0 : Nat)) := by
 have h1 := h.own.cell (i + k) (by have := h.fits; omega)
 rw [h1]
 congr 3
 have h2 := h.len
 simp only [List.getD]
 rw [List.getElem?_append_right (by omega), List.getElem?_append_left (by omega), h2, show i + k - i = k from by omega]
theorem RowIn.frozen {w0 : World} {g N i : Nat} {L R H : List Nat} {w : World} (h : RowIn w0 g N i L R H w) (k : Nat) : w.frozen? ⟨g, k, none⟩ = false := h.own.frozen k
theorem RowIn.set {w0 : World} {g N i : Nat} {L R H : List Nat} {w : World} (h : RowIn w0 g N i L R H w) (k x : Nat) (hk : k < R.length) (hx : x < 4294967296) : RowIn w0 g N i L (R.set k x) H (w.setCell ⟨g, i + k, none⟩ (.int .u32 ((x : Nat) : Int))) := by
 refine ⟨?_, h.below.setCell h.base _, h.len, h.base⟩
 have h1 := h.own.set (i + k) x hx
 rw [List.set_append_right _ _ (by rw [h.len]; omega), h.len, show i + k - i = k from by omega, List.set_append_left _ _ hk] at h1
 exact h1
theorem RowIn.drewN {w0 : World} {g N i : Nat} {L R H : List Nat} {w : World} (h : RowIn w0 g N i L R H w) (q : Nat) : RowIn w0 g N i L R H (w.drewN q) :=
 ⟨h.own.drewN q, h.below.trans ((below_drewN _ _ _)), h.len, h.base⟩
theorem RowIn.drew {w0 : World} {g N i : Nat} {L R H : List Nat} {w : World} (h : RowIn w0 g N i L R H w) : RowIn w0 g N i L R H w.drew :=
 ⟨h.own.drew, h.below.drew, h.len, h.base⟩
theorem RowIn.sl {w0 : World} {g N i n cap : Nat} {L R H : List Nat} {w : World} (h : RowIn w0 g N i L R H w) (hn : R.length = n) (hc : n ≤ cap) : Sl w (some ⟨g, i, none⟩) n cap R :=
 Sl.of_cells hn hc (by have := h.fits; have := h.own.big; omega) h.wf fun t ht => h.cell t (by omega)
theorem RowIn.of {w0 : World} {g N i n : Nat} {zs : List Nat} {w : World} (hO : Own w0.heap.size w (some ⟨g, 0, none⟩) N N zs) (hB : Below w0.heap.size w0 w) (hg : w0.heap.size ≤ g) (hn : i + n ≤ N) :
  RowIn w0 g N i (zs.take i) ((zs.drop i).take n) (zs.drop (i + n)) w := by
 have hl := hO.len
 refine ⟨?_, hB, by rw [List.length_take]; omega, hg⟩
 have e : zs.drop (i + n) = (zs.drop i).drop n := by rw [List.drop_drop]
 rw [e, List.take_append_drop, List.take_append_drop]
 exact hO
end Go.Proofs.YtmmgipcacceakaaGreat

/- The contract of divide.guess: the limb, or the one above it. -/
namespace Go.Proofs.YtmmgipcacceakaaGreat
open Go.RowKit
end Go.Proofs.YtmmgipcacceakaaGreat

/- The contract of divide.takeRow. -/
namespace Go.Proofs.YtmmgipcacceakaaGreat
open Go.RowKit
end Go.Proofs.YtmmgipcacceakaaGreat

/- The contract of divide.putBack. -/
namespace Go.Proofs.YtmmgipcacceakaaGreat
open Go.RowKit
end Go.Proofs.YtmmgipcacceakaaGreat

/- The contracts of divide.shifted and divide.told. -/
namespace Go.Proofs.YtmmgipcacceakaaGreat
open Go.RowKit
end Go.Proofs.YtmmgipcacceakaaGreat

/- The contract of divide.long: quotient and rest by Knuth's way D. -/
namespace Go.Proofs.YtmmgipcacceakaaGreat
open Go.RowKit
end Go.Proofs.YtmmgipcacceakaaGreat

/- The contract of divide.Limb. -/
namespace Go.Proofs.YtmmgipcacceakaaGreat
open Go.RowKit
end Go.Proofs.YtmmgipcacceakaaGreat

/- The contracts of divide.DivMod and divide.Exact. -/
namespace Go.Proofs.YtmmgipcacceakaaGreat
open Go.RowKit
end Go.Proofs.YtmmgipcacceakaaGreat


/- PsF -/
import Derived.Test.YtmmgipcacceakaaGreatGP4
set_option maxHeartbeats 40000000
set_option maxRecDepth 100000
namespace Go.Proofs.YtmmgipcacceakaaGreat
open Go.RowKit
structure FarB [Ol] (w w' : World) (b : Nat) : Prop where
 kp : ∀ c, Kp w c → c ≠ b
 g : w.grownBy w' (some b)
 u : ∀ (ad : Addr) (x : Int), w.cell? ad = some (.int .u32 x) → w'.cell? ad = some (.int .u32 x)
def isU (v : Value) : Bool := match v with | .int .u32 _ => true | _ => false
theorem cell_in {w : World} {b : Nat} {vs : List Value} {T : TypeId} (hA : AtN w b vs T) {ad : Addr} {x : Value} (hc : w.cell? ad = some x) (hb : ad.block = b) : x ∈ vs := by
 obtain ⟨b', o, s⟩ := ad; obtain rfl : b' = b := hb
 have hs : s = none := World.cell?_spot hc
 subst hs; rw [hA.cell] at hc
 exact List.mem_of_getElem? hc
theorem FarB.mk' [Ol] {w w' : World} {b : Nat} {vs : List Value} {T : TypeId} (hlo : Ol.lo ≤ b) (hA : AtN w b vs T) (hT : badT.contains T = true) (hI : ∃ u ∈ vs, notInt u = false) (hU : ∀ u ∈ vs, isU u = false) (hG : w.grownBy w' (some b)) : FarB w w' b := by
 refine ⟨fun c hc => hc.far hlo hA hT (by simpa using hI), hG, fun ad x hx => hG.cell hx fun e => ?_⟩
 have := hU _ (cell_in hA hx (Option.some.inj e))
 simp [isU] at this
theorem Gl.farB [Ol] {sz : Nat} {w w' : World} {ao : Option Addr} {n cap : Nat} {vss : List (List Value)} {b : Nat} (h : Gl sz w ao n cap vss) (hF : FarB w w' b) : Gl sz w' ao n cap vss := by
 have hk : ∀ ad, ao = some ad → 0 < n → w'.heap[ad.block]? = w.heap[ad.block]? := fun ad had h0 => hF.g.block _ (h.lt ad had h0) fun e => hF.kp _ (h.kp h0 ad had) (Option.some.inj e)
 refine ⟨h.len, h.le, h.big, h.each, h.nil, h.spot, fun ad had h0 => Nat.lt_of_lt_of_le (h.lt ad had h0) hF.g.size, fun ad had t ht j hj => ?_, fun h0 ad had => (h.kp h0 ad had).keep (hk ad had h0)⟩
 rw [← h.cells ad had t ht j hj]
 exact World.cell?_of_block (by rw [add_block3]; exact hk ad had (by omega))
theorem Ml.farB [Ol] {w w' : World} {ao : Option Addr} {n cap : Nat} {ps : List (Int × Int)} {b : Nat} (h : Ml w ao n cap ps) (hF : FarB w w' b) : Ml w' ao n cap ps := by
 have hk : ∀ ad, ao = some ad → 0 < n → w'.heap[ad.block]? = w.heap[ad.block]? := fun ad had h0 => hF.g.block _ (h.blt h0 had) fun e => hF.kp _ (h.kp h0 ad had) (Option.some.inj e)
 refine ⟨h.len, h.le, h.big, h.wf, h.nil, fun ad had t ht => ?_, fun h0 ad had => (h.kp h0 ad had).keep (hk ad had h0)⟩
 have hc := h.cells ad had t ht; rw [← hc.1, ← hc.2]
 exact ⟨World.cell?_of_block (by rw [add_block3]; exact hk ad had (by omega)), World.cell?_of_block (by rw [add_block3]; exact hk ad had (by omega))⟩
theorem dsl_farB [Ol] {w w' : World} {ao : Option Addr} {n cap : Nat} {ps : List Nat} {b : Nat} (h : Dg.Sl w ao n cap ps) (hF : FarB w w' b) : Dg.Sl w' ao n cap ps := by
 have hk : ∀ ad, ao = some ad → 0 < n → w'.heap[ad.block]? = w.heap[ad.block]? := fun ad had h0 => hF.g.block _ (h.blt h0 had) fun e => hF.kp _ (h.kp h0 ad had) (Option.some.inj e)
 refine ⟨h.len, h.le, h.big, h.wf, h.nil, fun ad had t ht => ?_, fun h0 ad had => (h.kp h0 ad had).keep (hk ad had h0)⟩
 rw [← h.cells ad had t ht]
 exact World.cell?_of_block (by rw [add_block3]; exact hk ad had (by omega))
theorem Sl.farB [Ol] {w w' : World} {ao : Option Addr} {n cap : Nat} {xs : List Nat} {b : Nat} (h : Sl w ao n cap xs) (hF : FarB w w' b) : Sl w' ao n cap xs :=
 ⟨h.len, h.le, h.big, h.wf, h.nil, fun ad had t ht => hF.u _ _ (h.cells ad had t ht)⟩
theorem In.farB [Ol] {w w' : World} {m : Bool} {ao : Option Addr} {n cap : Nat} {z : Int} {b : Nat} (h : In w m ao n cap z) (hF : FarB w w' b) : In w' m ao n cap z := by
 obtain ⟨xs, hs, hz⟩ := h
 exact ⟨xs, hs.farB hF, hz⟩
theorem Cn.farB [Ol] {w w' : World} {m : Bool} {ao : Option Addr} {n cap : Nat} {z : Int} {b : Nat} (h : Cn w m ao n cap z) (hF : FarB w w' b) : Cn w' m ao n cap z := ⟨h.neg, h.sl.farB hF⟩
theorem Zd.farB [Ol] {w w' : World} {m : Bool} {ao : Option Addr} {n cap : Nat} {z : Int} {b : Nat} (h : Zd w m ao n cap z) (hF : FarB w w' b) : Zd w' m ao n cap z := ⟨h.neg, dsl_farB h.sl hF⟩
theorem Pc.farB [Ol] {K : Nat} {w w' : World} {ao : Option Addr} {n cap : Nat} {p : List Term} {b : Nat} (h : Pc K w ao n cap p) (hF : FarB w w' b) : Pc K w' ao n cap p := by
 obtain ⟨vss, h1, h2⟩ := h.ex
 exact ⟨vss, h1.farB hF, h2.imp fun v a h => by
  obtain ⟨m, ao, n, cap, bo, k, cb, h1, h2, h3, h4⟩ := h
  exact ⟨m, ao, n, cap, bo, k, cb, h1, h2.farB hF, h3, h4.farB hF⟩⟩
theorem Pz.farB [Ol] {K : Nat} {w w' : World} {ao : Option Addr} {n cap : Nat} {p : List Term} {b : Nat} (h : Pz K w ao n cap p) (hF : FarB w w' b) : Pz K w' ao n cap p := by
 obtain ⟨vss, h1, h2⟩ := h.ex
 exact ⟨vss, h1.farB hF, h2.imp fun v a h => by
  obtain ⟨m, ao, n, cap, bo, k, cb, h1, h2, h3, h4⟩ := h
  exact ⟨m, ao, n, cap, bo, k, cb, h1, h2.farB hF, h3, h4.farB hF⟩⟩
theorem Pr.farB [Ol] {w w' : World} {ao : Option Addr} {n cap : Nat} {ps : List Raw} {b : Nat} (h : Pr w ao n cap ps) (hF : FarB w w' b) : Pr w' ao n cap ps := by
 obtain ⟨vss, h1, h2⟩ := h.ex
 exact ⟨vss, h1.farB hF, h2.imp fun v a h => by
  obtain ⟨ao, n, cap, bo, k, cb, h1, h2, h4⟩ := h
  exact ⟨ao, n, cap, bo, k, cb, h1, h2.farB hF, h4.farB hF⟩⟩
theorem tmsC_lower [Ol] {K K' : Nat} {w : World} : ∀ {X : List (List Value)} {p : List Term}, Tms (TmC K' w) X p → (∀ t ∈ p, Bd t.1 K) → Tms (TmC K w) X p
 | [], [], _, _ => trivial
 | _ :: _, _ :: _, h, hb => by
  obtain ⟨m, ao, n, cap, bo, k, cb, h1, h2, _, h4⟩ := h.1
  exact ⟨⟨m, ao, n, cap, bo, k, cb, h1, h2, hb _ (by simp), h4⟩, tmsC_lower h.2 fun t ht => hb t (by simp [ht])⟩
 | [], _ :: _, h, _ => h.elim
 | _ :: _, [], h, _ => h.elim
theorem Pc.lower [Ol] {K K' : Nat} {w : World} {ao : Option Addr} {n cap : Nat} {p : List Term} (h : Pc K' w ao n cap p) (hb : ∀ t ∈ p, Bd t.1 K) : Pc K w ao n cap p := by
 obtain ⟨X, h1, h2⟩ := h.ex
 exact ⟨X, h1, tmsC_lower h2 hb⟩
end Go.Proofs.YtmmgipcacceakaaGreat

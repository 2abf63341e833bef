/-
  A meter among a law's variables; the literal that great is handed.
-/
import Derived.Test.YthllkgjgakeinaaMtLaw
set_option maxRecDepth 8192
namespace Go.Proofs.Ythllkgjgakeinaa
open Go.RowKit
theorem vars_ge {w : World} {B : Nat} : ∀ {l : List Var}, Vars w B l → ∀ v ∈ l, B ≤ v.b
  | _ :: _, h, v, hv => by
    rcases List.mem_cons.1 hv with rfl | h1
    · exact h.2.1
    · exact vars_ge h.2.2.2 v h1
theorem Sx.own {w0 V W : World} (pre post : List Var) {b : Nat} {vs vs' : List Value} {N : List En} (s : Sx w0 V (pre ++ ⟨b, vs⟩ :: post) N) (hC : Cells W b vs') (hG : V.grownBy W (some b)) : Sx w0 W (pre ++ ⟨b, vs'⟩ :: post) N := by
  have hb0 : w0.heap.size ≤ b := vars_ge s.b ⟨b, vs⟩ (by simp)
  have hkeep : ∀ c, c < V.heap.size → c ≠ b → W.heap[c]? = V.heap[c]? := fun c hc hne => hG.block c hc (by simpa using hne)
  have key : ∀ {l : List Var}, Vars V w0.heap.size (l ++ ⟨b, vs⟩ :: post) → Vars W w0.heap.size (l ++ ⟨b, vs'⟩ :: post) := by
    intro l
    induction l with
    | nil =>
      intro h
      exact ⟨hC, h.2.1, h.2.2.1, h.2.2.2.keep fun v hv => hkeep _ (h.2.2.2.und.mem v hv) (h.2.2.1.mem v hv)⟩
    | cons a r ih =>
      intro h
      have hne : a.b ≠ b := fun e => h.2.2.1.mem ⟨b, vs⟩ (by simp) e.symm
      refine ⟨h.1.keep (hkeep _ h.1.lt hne), h.2.1, ?_, ih h.2.2.2⟩
      have hu := h.2.2.1
      clear ih h
      induction r with
      | nil => exact ⟨hu.1, hu.2⟩
      | cons a' r' ih' => exact ⟨hu.1, ih' hu.2⟩
  refine ⟨key s.b, ?_, s.h.trans (gb_below hG hb0 s.h.size), ?_⟩
  · have hd : ∀ e ∈ N, ¬ e.foot b := fun e he => s.d e he ⟨b, vs⟩ (by simp)
    have hn := s.n
    clear key s
    induction N with
    | nil => trivial
    | cons e r ih => exact ⟨e.dep V W (fun c hc => hkeep c (e.lt V hn.1 c hc) fun e2 => hd e (by simp) (e2 ▸ hc)) hn.1, ih (fun f hf => hd f (by simp [hf])) hn.2⟩
  · intro e he v hv
    simp only [List.mem_append, List.mem_cons] at hv
    rcases hv with h1 | rfl | h1
    · exact s.d e he v (by simp [h1])
    · exact s.d e he ⟨b, vs⟩ (by simp)
    · exact s.d e he v (by simp [h1])
theorem Sx.ret {w0 V W : World} (pre post : List Var) {b : Nat} {vs vs' : List Value} {N : List En} {v : Value} {e : Ending} (s : Sx w0 V (pre ++ ⟨b, vs⟩ :: post) N) (h : RetM b vs' v V e W) : e = .returned v ∧ Sx w0 W (pre ++ ⟨b, vs'⟩ :: post) N := ⟨h.1, s.own pre post h.2.1 h.2.2⟩
theorem Sx.made {w0 V W : World} {B : List Var} {N : List En} (s : Sx w0 V B N) {b : Nat} {vs : List Value} (hC : Cells W b vs) (hb : V.heap.size ≤ b) (hB : Below V.heap.size V W) : Sx w0 W (⟨b, vs⟩ :: B) N := by
  have h1 := s.step hB
  refine ⟨⟨hC, Nat.le_trans s.h.size hb, (s.b.und.mono hb).apt, h1.b⟩, h1.n, h1.h, fun e he v hv hf => ?_⟩
  rcases List.mem_cons.1 hv with rfl | hv
  · have := e.lt V (s.n.mem e he) _ hf
    have e2 : b < V.heap.size := this
    omega
  · exact s.d e he v hv hf
theorem lo_lit {V : World} {g : Nat} {ao : Option Addr} {n cap : Nat} {ps : List (List Nat)} (h : Lp V ao n cap ps) (k : Cells V g [.int .i64 0, .slice ao n cap, .int .i64 0]) : Lo V (some ⟨g, 0, none⟩) 1 1 [(0, ps, 0)] := by
  refine ⟨[[.int .i64 0, .slice ao n cap, .int .i64 0]], Gl.of_cells rfl (by omega) (by omega) (Each.mk1 rfl fun v hv => by simp at hv; rcases hv with rfl | rfl | rfl <;> rfl) (fun _ => k.lt) fun t ht j hj => ?_, ⟨ao, n, cap, rfl, h⟩, trivial⟩
  obtain rfl : t = 0 := by omega
  rw [show 0 + 0 * 3 + j = j by omega, k.cell]
  rfl
end Go.Proofs.Ythllkgjgakeinaa
/-
  What the law PolyOf wants: Of and Var in one contract each, what is told, in plain words.
-/
import Derived.Test.YtmbgljjfmbhelaaGreatPolyPowA
set_option maxHeartbeats 40000000
set_option maxRecDepth 100000
namespace Go.Proofs.YtmbgljjfmbhelaaGreat
open Go.RowKit
def allM (p : List Term) : Bool := p.all fun t => mayM 0 t.2
theorem allM_iff {p : List Term} : allM p = true ↔ ∀ t ∈ p, mayM 0 t.2 = true := by unfold allM; rw [List.all_eq_true]
theorem allM_no {p : List Term} (h : allM p = false) : ∃ t ∈ p, mayM 0 t.2 = false := by
 unfold allM at h
 rw [List.all_eq_false] at h; obtain ⟨t, ht, e⟩ := h
 exact ⟨t, ht, by simpa using e⟩
theorem allM_next {p : List Term} {k : Nat} (h : k < p.length) : allM (p.take (k + 1)) = (allM (p.take k) && mayM 0 (p.getD k (0, [])).2) := by
 unfold allM
 rw [List.take_succ_eq_append_getElem h, List.all_append, getD_of _ h]
 simp
section
variable {K : Nat} {ao bo : Option Addr} {n cap l cb : Nat} {p q : List Term} {w : World}
theorem pof_two (r : Bool) (pp : List Term) (er : Int) (h : Pi K w ao n cap p) (hr : allM p = r) (hpp : (if r = true then ofT p else []) = pp) (her : (if r = true then (0 : Int) else 2) = er) (hn : n ≤ 800000) (hK : K + n ≤ 900000) :
  Calls Tryz.prog 32 #[.slice ao n cap] w (PE (K + n) w pp er) := by
 cases r with
 | true =>
  rw [if_pos rfl] at hpp her; subst hpp her
  exact pof_any h (allM_iff.1 hr) hn hK
 | false =>
  simp only [Bool.false_eq_true, if_false] at hpp her
  subst hpp her
  exact (pof_bad h (allM_no hr)).mono fun e V h => h.mono (Nat.zero_le _)
theorem pvar_two (r : Bool) (pp : List Term) (er v k : Int) (hv : in64 v) (hk : in64 k) (hr : mayM 0 [(v, k)] = r) (hpp : (if r = true then [(1, [(v, k)])] else []) = pp) (her : (if r = true then (0 : Int) else 2) = er) :
  Calls Tryz.prog 33 #[.int .i64 v, .int .i64 k] w (PE 2 w pp er) := by
 cases r with
 | true =>
  rw [if_pos rfl] at hpp her; subst hpp her
  exact pvar_any v k hv hk hr
 | false =>
  simp only [Bool.false_eq_true, if_false] at hpp her
  subst hpp her
  exact (pvar_bad v k hv hk hr).mono fun e V h => h.mono (Nat.zero_le _)
theorem told_gen {K2 : Nat} (no : Int) (b : Bool) (er : Int) (hp : Pc K w ao n cap p) (hq : Pz K2 w bo l cb q) (hl : l ≤ 100000) (hK : K2 ≤ 9000) (he : (if b = true then (0 : Int) else no) = er) (h0 : (if b = true then q else []) = p) :
  Calls Tryz.prog 26 #[.slice ao n cap, .int .i64 er, .slice bo l cb, .bool b, .int .i64 no] w (RetB (.bool true) w) := by
 cases b with
 | true => rw [if_pos rfl] at he h0; subst he h0; exact told_ok no hp.raw hq hl hK rfl
 | false =>
  simp only [Bool.false_eq_true, if_false] at he h0
  subst he h0; obtain rfl : n = 0 := hp.len.symm
  exact told_no no
end
theorem ofT_len (l : List Term) : (ofT l).length ≤ l.length := by
 have := addT_length [] l
 unfold ofT
 simpa using this
theorem Pc.one {K : Nat} {w : World} {m : Bool} {ao : Option Addr} {n cap : Nat} {t : Term} (h : Cn w m ao n cap t.1) (hB : Bd t.1 K) {bo : Option Addr} {l cb : Nat} (hM : Ml w bo l cb t.2) (T : TypeId) :
  Pc K (w.alloc (.cells #[.bool m, .slice ao n cap, .slice bo l cb] T)) (some ⟨w.heap.size, 0, none⟩) 1 1 [t] :=
 ⟨_, Gl.lit 3 w [.bool m, .slice ao n cap, .slice bo l cb] T rfl (by simp [Value.oneCell']), ⟨⟨_, _, _, _, _, _, _, rfl, h.below (below_alloc _ _), hB, hM.below (below_alloc _ _)⟩, trivial⟩⟩
def LeadC (K : Nat) (p : List Term) (m : Bool) (ao : Option Addr) (n cap : Nat) (bo : Option Addr) (l cb : Nat) (f : Bool) (w : World) : Prop :=
 (f = false ∧ p = []) ∨ ∃ t r, f = true ∧ p = t :: r ∧ Cn w m ao n cap t.1 ∧ Bd t.1 K ∧ Ml w bo l cb t.2
theorem LeadC.below {K : Nat} {p : List Term} {m : Bool} {ao : Option Addr} {n cap : Nat} {bo : Option Addr} {l cb : Nat} {f : Bool} {w w' : World} (h : LeadC K p m ao n cap bo l cb f w) (hb : Below w.heap.size w w') : LeadC K p m ao n cap bo l cb f w' := by
 rcases h with h | ⟨t, r, h1, h2, h3, h4, h5⟩
 ·exact .inl h
 ·exact .inr ⟨t, r, h1, h2, h3.below hb, h4, h5.below hb⟩
def isVar (v k : Int) : Bool := decide (1 ≤ v) && decide (v ≤ 200) && decide (1 ≤ k) && decide (k ≤ 10000)
theorem may_var (v k : Int) : mayM 0 [(v, k)] = isVar v k := by
 unfold mayM okP isVar
 simp only [mayM, Bool.and_true]
 by_cases h1 : (0 : Int) < v
 ·have h2 : 1 ≤ v := by omega
  simp [h1, h2, Bool.and_assoc]
 ·have h2 : ¬ 1 ≤ v := by omega
  simp [h1, h2]
theorem pz_lit {w : World} {m : Bool} {ao : Option Addr} {n cap : Nat} (h : Zd w m ao n cap 1) {v k : Int} (hv : in64 v) (hk : in64 k) (T : TypeId) :
  Pz 2 ((w.alloc (.cells #[.int .i64 v, .int .i64 k] 57)).alloc (.cells #[.bool m, .slice ao n cap, .slice (some ⟨w.heap.size, 0, none⟩) 1 1] T)) (some ⟨w.heap.size + 1, 0, none⟩) 1 1 [(1, [(v, k)])] := by
 have hgl := Gl.lit 3 (w.alloc (.cells #[.int .i64 v, .int .i64 k] 57)) [.bool m, .slice ao n cap, .slice (some ⟨w.heap.size, 0, none⟩) 1 1] T rfl (by simp [Value.oneCell'])
 rw [show (w.alloc (.cells #[.int .i64 v, .int .i64 k] 57)).heap.size = w.heap.size + 1 from by simp] at hgl
 exact ⟨_, hgl, ⟨⟨_, _, _, _, _, _, _, rfl, (h.below (below_alloc w (.cells #[.int .i64 v, .int .i64 k] 57))).below (below_alloc _ _), bd_small (by omega), (Ml.lit w v k 57 hv hk).below (below_alloc _ _)⟩, trivial⟩⟩
end Go.Proofs.YtmbgljjfmbhelaaGreat

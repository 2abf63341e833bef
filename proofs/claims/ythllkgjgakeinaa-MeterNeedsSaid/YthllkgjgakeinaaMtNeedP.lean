/-
  The calls ahead of the first refusal, in plain words; a limit as great as what is needed does not refuse there.
-/
import Derived.Test.YthllkgjgakeinaaMtRow
set_option maxRecDepth 8192
namespace Go.Proofs.Ythllkgjgakeinaa
def MS.op (s : MS) (o : MOp) : MS := if o.1 = 1 then s.step else if o.1 = 2 then s.piece else if o.1 = 3 then s.keep o.2.1 else s
def MS.opE (s : MS) (o : MOp) : Int := if o.1 = 1 then s.stepE else if o.1 = 2 then s.pieceE else if o.1 = 3 then s.keepE o.2.1 else 0
theorem MS.Ok.op {s : MS} (h : s.Ok) (o : MOp) : (s.op o).Ok := by
  unfold MS.op
  split
  · exact h.step
  · split
    · exact h.piece
    · split
      · exact h.keep _
      · exact h
def runP (s : MS) : List MOp → Nat × Int × Int
  | [] => (0, 0, 0)
  | o :: r => if s.opE o = 0 then ((runP (s.op o) r).1 + 1, (runP (s.op o) r).2) else (0, (s.op o).wh, (s.op o).n)
def runS (s : MS) : List MOp → MS
  | [] => s
  | o :: r => runS (s.op o) r
theorem runS_snoc (s : MS) (l : List MOp) (o : MOp) : runS s (l ++ [o]) = (runS s l).op o := by
  induction l generalizing s with
  | nil => rfl
  | cons a l ih => exact ih _
def goes (s : MS) : List MOp → Prop
  | [] => True
  | o :: r => s.opE o = 0 ∧ goes (s.op o) r
theorem goes_snoc (s : MS) (l : List MOp) (o : MOp) : goes s (l ++ [o]) ↔ goes s l ∧ (runS s l).opE o = 0 := by
  induction l generalizing s with
  | nil => simp [goes, runS]
  | cons a l ih => simp [goes, runS, ih, and_assoc]
theorem runP_goes : ∀ (s : MS) (l r : List MOp), goes s l → runP s (l ++ r) = (l.length + (runP (runS s l) r).1, (runP (runS s l) r).2)
  | _, [], _, _ => by simp [runS]
  | s, o :: l, r, h => by
    have := runP_goes (s.op o) l r h.2
    simp only [List.cons_append, runP, runS, h.1, if_true]
    rw [this]
    simp only [List.length_cons]
    congr 1
    omega
theorem runP_end {s : MS} {l : List MOp} (h : goes s l) : runP s l = (l.length, 0, 0) := by
  have := runP_goes s l [] h
  rw [List.append_nil] at this
  rw [this]; simp [runP]
theorem runP_stop {s : MS} {l r : List MOp} {o : MOp} (h : goes s l) (he : (runS s l).opE o ≠ 0) : runP s (l ++ o :: r) = (l.length, ((runS s l).op o).wh, ((runS s l).op o).n) := by
  rw [runP_goes s l (o :: r) h]
  simp [runP, he]
theorem op_free {s : MS} {o : MOp} (h : s.opE o = 0) : (s.op o).wh = s.wh ∧ (s.op o).n = s.n := by
  unfold MS.opE at h
  unfold MS.op
  split
  · rename_i h1
    rw [if_pos h1] at h
    unfold MS.stepE at h
    unfold MS.step
    split
    · rename_i h2; rw [if_pos h2] at h; omega
    · exact ⟨rfl, rfl⟩
  · rename_i h1
    rw [if_neg h1] at h
    split
    · rename_i h2
      rw [if_pos h2] at h
      unfold MS.pieceE at h
      unfold MS.piece
      split
      · rename_i h3; rw [if_pos h3] at h; omega
      · exact ⟨rfl, rfl⟩
    · rename_i h2
      rw [if_neg h2] at h
      split
      · rename_i h3
        rw [if_pos h3] at h
        unfold MS.keepE at h
        unfold MS.keep
        split
        · rename_i h4; rw [if_pos h4] at h; omega
        · rename_i h4
          rw [if_neg h4] at h
          split
          · rename_i h5; rw [if_pos h5] at h; omega
          · exact ⟨rfl, rfl⟩
      · exact ⟨rfl, rfl⟩
theorem op_need {s : MS} {o : MOp} (h : s.opE o ≠ 0) (h0 : s.wh = 0) : (s.op o).wh = s.opE o := by
  unfold MS.opE at h ⊢
  unfold MS.op
  split
  · unfold MS.stepE at *
    unfold MS.step
    split <;> simp_all [MS.refuse]
  · split
    · unfold MS.pieceE at *
      unfold MS.piece
      split <;> simp_all [MS.refuse]
    · split
      · unfold MS.keepE at *
        unfold MS.keep
        split
        · simp_all [MS.refuse]
        · split <;> simp_all [MS.refuse]
      · simp_all
structure MLe (s t : MS) : Prop where
  fu : s.fu ≤ t.fu
  li : s.li ≤ t.li
  te : s.te ≤ t.te
  pi : s.pi ≤ t.pi
  st : s.st = t.st
  pc : s.pc = t.pc
  w0 : s.wh = 0
  w1 : t.wh = 0
theorem MLe.go {s t : MS} (h : MLe s t) {o : MOp} (he : s.opE o = 0) : t.opE o = 0 ∧ MLe (s.op o) (t.op o) := by
  obtain ⟨h1, h2, h3, h4, h5, h6, h7, h8⟩ := h
  unfold MS.opE at he ⊢
  unfold MS.op
  split
  · rename_i k
    rw [if_pos k] at he
    unfold MS.stepE at he ⊢
    unfold MS.step
    by_cases c : s.fu ≤ s.st
    · rw [if_pos c] at he; omega
    · rw [if_neg c, if_neg (by omega), if_neg (by omega)]
      exact ⟨rfl, h1, h2, h3, h4, by show s.st + 1 = t.st + 1; omega, h6, h7, h8⟩
  · rename_i k
    rw [if_neg k] at he
    split
    · rename_i k2
      rw [if_pos k2] at he
      unfold MS.pieceE at he ⊢
      unfold MS.piece
      by_cases c : s.pi ≤ s.pc
      · rw [if_pos c] at he; omega
      · rw [if_neg c, if_neg (by omega), if_neg (by omega)]
        exact ⟨rfl, h1, h2, h3, h4, h5, by show s.pc + 1 = t.pc + 1; omega, h7, h8⟩
    · rename_i k2
      rw [if_neg k2] at he
      split
      · rename_i k3
        rw [if_pos k3] at he
        unfold MS.keepE at he ⊢
        unfold MS.keep
        by_cases c : s.li < (needL o.2.1 : Nat)
        · rw [if_pos c] at he; omega
        · rw [if_neg c] at he
          by_cases d : s.te < (o.2.1.length : Nat)
          · rw [if_pos d] at he; omega
          · rw [if_neg c, if_neg d, if_neg (by omega), if_neg (by omega), if_neg (by omega), if_neg (by omega)]
            exact ⟨rfl, h1, h2, h3, h4, h5, h6, h7, h8⟩
      · exact ⟨rfl, h1, h2, h3, h4, h5, h6, h7, h8⟩
theorem MLe.goes : ∀ {l : List MOp} {s t : MS}, MLe s t → Go.Proofs.Ythllkgjgakeinaa.goes s l → Go.Proofs.Ythllkgjgakeinaa.goes t l ∧ MLe (runS s l) (runS t l)
  | [], _, _, h, _ => ⟨trivial, h⟩
  | o :: l, s, t, h, g => by
    obtain ⟨a, b⟩ := h.go g.1
    obtain ⟨c, d⟩ := MLe.goes b g.2
    exact ⟨⟨a, c⟩, d⟩
theorem run_fu : ∀ (l : List MOp) (s : MS), (runS s l).fu = s.fu ∧ (runS s l).li = s.li ∧ (runS s l).te = s.te ∧ (runS s l).pi = s.pi
  | [], _ => ⟨rfl, rfl, rfl, rfl⟩
  | o :: l, s => by
    have h := run_fu l (s.op o)
    have k : (s.op o).fu = s.fu ∧ (s.op o).li = s.li ∧ (s.op o).te = s.te ∧ (s.op o).pi = s.pi := by
      unfold MS.op MS.step MS.piece MS.keep MS.refuse
      repeat' split
      all_goals exact ⟨rfl, rfl, rfl, rfl⟩
    exact ⟨h.1.trans k.1, h.2.1.trans k.2.1, h.2.2.1.trans k.2.2.1, h.2.2.2.trans k.2.2.2⟩
def MS.more (s : MS) (wh n : Int) : MS := ⟨if wh = 9 then n else s.fu, if wh = 10 then n else s.li, if wh = 11 then n else s.te, if wh = 12 then n else s.pi, s.st, s.pc, s.wh, s.n⟩
theorem MS.Ok.run : ∀ {l : List MOp} {s : MS}, s.Ok → (runS s l).Ok
  | [], _, h => h
  | o :: l, _, h => MS.Ok.run (l := l) (h.op o)
theorem more_goes {s : MS} (hok : s.Ok) (h0 : s.wh = 0) {l : List MOp} {o : MOp} (hg : goes s l) (he : (runS s l).opE o ≠ 0) {wh n : Int} (hw : ((runS s l).op o).wh = wh) (hn : ((runS s l).op o).n = n) :
    goes (s.more wh n) l ∧ (wh ≠ 10 → (runS (s.more wh n) l).opE o = 0) ∧ (wh = 9 ∨ wh = 10 ∨ wh = 11 ∨ wh = 12) := by
  have hfree : ∀ (l : List MOp) (s : MS), goes s l → (runS s l).wh = s.wh := by
    intro l
    induction l with
    | nil => intro s _; rfl
    | cons a l ih => intro s h; exact (ih _ h.2).trans (op_free h.1).1
  have hl := run_fu l s
  have hz : (runS s l).wh = 0 := (hfree l s hg).trans h0
  have huk : (runS s l).Ok := hok.run
  obtain ⟨u, hu⟩ : ∃ u, u = runS s l := ⟨_, rfl⟩
  rw [← hu] at he hw hn hl hz huk
  have key : (wh = 9 ∧ n = u.fu + 1 ∧ u.fu ≤ u.st ∧ o.1 = 1) ∨ (wh = 12 ∧ n = u.pi + 1 ∧ u.pi ≤ u.pc ∧ o.1 = 2) ∨ (wh = 10 ∧ u.li < n ∧ o.1 = 3) ∨ (wh = 11 ∧ n = (o.2.1.length : Nat) ∧ u.te < n ∧ ¬ u.li < (needL o.2.1 : Nat) ∧ o.1 = 3) := by
    unfold MS.opE at he
    unfold MS.op at hw hn
    by_cases k1 : o.1 = 1
    · rw [if_pos k1] at he hw hn
      unfold MS.stepE at he
      unfold MS.step at hw hn
      by_cases c : u.fu ≤ u.st
      · rw [if_pos c] at hw hn
        simp only [MS.refuse, hz, if_true] at hw hn
        exact .inl ⟨hw.symm, hn.symm, c, k1⟩
      · rw [if_neg c] at he; exact absurd rfl he
    · rw [if_neg k1] at he hw hn
      by_cases k2 : o.1 = 2
      · rw [if_pos k2] at he hw hn
        unfold MS.pieceE at he
        unfold MS.piece at hw hn
        by_cases c : u.pi ≤ u.pc
        · rw [if_pos c] at hw hn
          simp only [MS.refuse, hz, if_true] at hw hn
          exact .inr (.inl ⟨hw.symm, hn.symm, c, k2⟩)
        · rw [if_neg c] at he; exact absurd rfl he
      · rw [if_neg k2] at he hw hn
        by_cases k3 : o.1 = 3
        · rw [if_pos k3] at he hw hn
          unfold MS.keepE at he
          unfold MS.keep at hw hn
          by_cases c : u.li < (needL o.2.1 : Nat)
          · rw [if_pos c] at hw hn
            simp only [MS.refuse, hz, if_true] at hw hn
            exact .inr (.inr (.inl ⟨hw.symm, by rw [← hn]; exact c, k3⟩))
          · rw [if_neg c] at he hw hn
            by_cases d : u.te < (o.2.1.length : Nat)
            · rw [if_pos d] at hw hn
              simp only [MS.refuse, hz, if_true] at hw hn
              exact .inr (.inr (.inr ⟨hw.symm, hn.symm, by rw [← hn]; exact d, c, k3⟩))
            · rw [if_neg d] at he; exact absurd rfl he
        · rw [if_neg k3] at he; exact absurd rfl he
  have hle : MLe s (s.more wh n) := by
    rcases key with ⟨rfl, h, _, _⟩ | ⟨rfl, h, _, _⟩ | ⟨rfl, h, _⟩ | ⟨rfl, _, h, _, _⟩ <;> refine ⟨?_, ?_, ?_, ?_, rfl, rfl, h0, h0⟩ <;> simp [MS.more] <;> omega
  obtain ⟨g1, g2⟩ := MLe.goes hle hg
  rw [← hu] at g2
  have hm := run_fu l (s.more wh n)
  refine ⟨g1, fun h10 => ?_, by rcases key with ⟨h, _⟩ | ⟨h, _⟩ | ⟨h, _⟩ | ⟨h, _⟩ <;> omega⟩
  obtain ⟨t, ht⟩ : ∃ t, t = runS (s.more wh n) l := ⟨_, rfl⟩
  rw [← ht] at g2 hm ⊢
  have hst := g2.st
  have hpc := g2.pc
  have hli := g2.li
  rcases key with ⟨rfl, h, c, k⟩ | ⟨rfl, h, c, k⟩ | ⟨rfl, h, _⟩ | ⟨rfl, h, c, d, k⟩
  · have e : t.fu = n := by rw [hm.1]; simp [MS.more]
    unfold MS.opE MS.stepE
    have := huk.s1
    rw [if_pos k, if_neg (by omega)]
  · have e : t.pi = n := by rw [hm.2.2.2]; simp [MS.more]
    unfold MS.opE MS.pieceE
    have := huk.c1
    rw [if_neg (by omega), if_pos k, if_neg (by omega)]
  · exact absurd rfl h10
  · have e : t.te = n := by rw [hm.2.2.1]; simp [MS.more]
    unfold MS.opE MS.keepE
    rw [if_neg (by omega), if_neg (by omega), if_pos k, if_neg (by omega), if_neg (by omega)]
theorem runP_len : ∀ (l : List MOp) (s : MS), (runP s l).1 ≤ l.length
  | [], _ => by simp [runP]
  | o :: r, s => by
    have := runP_len r (s.op o)
    unfold runP
    split
    · simp only [List.length_cons]; omega
    · simp
theorem runP_cases : ∀ (l : List MOp) (s : MS), goes s l ∨ ∃ l1 o r, l = l1 ++ o :: r ∧ goes s l1 ∧ (runS s l1).opE o ≠ 0
  | [], _ => .inl trivial
  | o :: r, s => by
    by_cases h : s.opE o = 0
    · rcases runP_cases r (s.op o) with h1 | ⟨l1, p, q, rfl, h2, h3⟩
      · exact .inl ⟨h, h1⟩
      · exact .inr ⟨o :: l1, p, q, rfl, ⟨h, h2⟩, h3⟩
    · exact .inr ⟨[], o, r, rfl, trivial, h⟩
theorem second_run {s : MS} (hok : s.Ok) (h0 : s.wh = 0) {l : List MOp} {i j : Nat} {wh n wh2 n2 : Int} (h : runP s l = (i, wh, n)) (hw : wh ≠ 0) (h2 : runP (s.more wh n) l = (j, wh2, n2)) :
    i ≤ j ∧ (wh = 10 ∨ i < j) ∧ (wh = 9 ∨ wh = 10 ∨ wh = 11 ∨ wh = 12) := by
  rcases runP_cases l s with h1 | ⟨l1, o, r, rfl, hg, he⟩
  · rw [runP_end h1] at h
    simp only [Prod.mk.injEq] at h
    exact absurd h.2.1.symm hw
  · rw [runP_stop hg he] at h
    simp only [Prod.mk.injEq] at h
    obtain ⟨rfl, e1, e2⟩ := h
    obtain ⟨g1, g2, g3⟩ := more_goes hok h0 hg he e1 e2
    rw [runP_goes _ l1 _ g1] at h2
    simp only [Prod.mk.injEq] at h2
    refine ⟨by omega, ?_, g3⟩
    by_cases h10 : wh = 10
    · exact .inl h10
    · have h3 : 0 < (runP (runS (s.more wh n) l1) (o :: r)).1 := by
        unfold runP
        rw [if_pos (g2 h10)]
        simp
      exact .inr (by omega)
theorem more_new (fu li te pi wh n : Int) : (MS.new fu li te pi).more wh n = MS.new (if wh = 9 then n else fu) (if wh = 10 then n else li) (if wh = 11 then n else te) (if wh = 12 then n else pi) := rfl
end Go.Proofs.Ythllkgjgakeinaa
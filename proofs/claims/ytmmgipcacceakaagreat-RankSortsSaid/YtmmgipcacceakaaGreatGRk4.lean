/- RkPr, RkRs -/
import Derived.Test.YtmmgipcacceakaaGreatGRk3
set_option maxHeartbeats 40000000
set_option maxRecDepth 100000
namespace Go.Proofs.YtmmgipcacceakaaGreat
open Go.RowKit
theorem Pr.farS [Ol] {B : Nat} {e : TypeId} {w V : World} {ao : Option Addr} {n cap : Nat} {X : List (List Value)} {po : Option Addr} {pn pc : Nat} {q : List Raw} (h : Pr w po pn pc q) (hO : Go1 B e 1 w ao n cap X) (hS : ∀ g, (Value.slice ao n cap).ownBlock = some g → PredB slc w g) (hG : w.grownBy V (Value.slice ao n cap).ownBlock) : Pr V po pn pc q := by
 obtain ⟨vss, h1, h2⟩ := h.ex
 have hfar : 0 < pn → ∀ a, po = some a → (Value.slice ao n cap).ownBlock ≠ some a.block := fun h0 a ha eq => by
  have hl := h2.len
  obtain ⟨ao', n', cap', bo, k, cb, hv, _⟩ := Tms.get rawZ h2 0 (by rw [← hl, h1.len]; exact h0)
  have hc := h1.cells a ha 0 h0 0 (by omega)
  rw [hv] at hc
  exact SlcB.far (hS _ eq) (m := (q.getD 0 rawZ).1.1) hc (add_block3 _ _)
 refine ⟨vss, ⟨h1.len, h1.le, h1.big, h1.each, h1.nil, h1.spot, fun ad had h0 => Nat.lt_of_lt_of_le (h1.lt ad had h0) hG.size, fun ad had t ht j hj => ?_, fun h0 ad had => (h1.kp h0 ad had).keep (hG.block ad.block (h1.lt ad had h0) fun eq => hfar h0 ad had eq.symm)⟩, h2.imp fun _ _ h => h.stays hO hG⟩
 have hb := hG.block ad.block (h1.lt ad had (by omega)) fun eq => hfar (by omega) ad had eq.symm
 rw [World.cell?_of_block (w := w) (by rw [add_block3]; exact hb)]
 exact h1.cells ad had t ht j hj
structure Prl [Ol] (B : Nat) (w : World) (ao : Option Addr) (n cap : Nat) (ls : List (List Raw)) : Prop where
 ex : ∃ X, Go1 B 26 1 w ao n cap X ∧ (∀ g, (Value.slice ao n cap).ownBlock = some g → PredB slc w g) ∧ Tms (PlR w) X ls
section
variable {B : Nat} {w V : World} {ao : Option Addr} {n cap : Nat} {ls : List (List Raw)}
theorem Prl.nil [Ol] (B : Nat) (w : World) : Prl B w none 0 0 [] := ⟨[], Go1.nil _ _ _ _, (fun _ h => by cases h), trivial⟩
theorem Prl.own [Ol] (h : Prl B w ao n cap ls) : ∀ r, (Value.slice ao n cap).ownBlock = some r → B ≤ r ∧ r < w.heap.size := fun r e => by
 obtain ⟨X, h1, _, _⟩ := h.ex
 rcases h1.parts with ⟨rfl, _⟩ | ⟨g, cur, rfl, hg, hlt, _⟩
 ·cases e
 ·cases e; exact ⟨hg, hlt⟩
theorem Prl.below [Ol] (h : Prl B w ao n cap ls) (hb : Below w.heap.size w V) : Prl B V ao n cap ls := by
 have hl := h.own; obtain ⟨X, h1, h2, h3⟩ := h.ex
 exact ⟨X, h1.below hb, fun g hg => (h2 g hg).keep (hb.block g (hl g hg).2), h3.imp fun _ _ ⟨a, b, c, h4, h5⟩ => ⟨a, b, c, h4, h5.below hb⟩⟩
theorem Prl.plr [Ol] (h : Prl B w ao n cap ls) : Plr w ao n cap ls := by
 obtain ⟨X, h1, _, h3⟩ := h.ex
 exact ⟨X, h1.gl, h3⟩
def PrlPush [Ol] (B : Nat) (w : World) (ao : Option Addr) (n cap : Nat) (ls : List (List Raw)) (v : Value) (W : World) : Prop := ∃ ro rc, v = .slice ro (n + 1) rc ∧ Prl B W ro (n + 1) rc ls ∧ w.grownBy W (Value.slice ao n cap).ownBlock
theorem prl_push [Ol] {po : Option Addr} {pn pc : Nat} {q : List Raw} (h : Prl B w ao n cap ls) (hq : Pr w po pn pc q) (hB : B ≤ w.heap.size) (hn : n ≤ 1000000) (tt ty : TypeId) :
  ∃ v W, (Builtin.append_ #[22, 22] ty #[.slice ao n cap, .slice (some ⟨w.heap.size, 0, none⟩) 1 1]).run Tryz.prog (w.alloc (.cells #[.slice po pn pc] tt)) = .ok v W ∧ PrlPush B w ao n cap (ls ++ [q]) v W := by
 obtain ⟨i0, hi, hz0, hz1, hz2⟩ := info_parts Tryz.info_ap; have ha := below_alloc w (.cells #[.slice po pn pc] tt)
 have hc : (w.alloc (.cells #[.slice po pn pc] tt)).cell? ⟨w.heap.size, 0, none⟩ = some (.slice po pn pc) := by simp
 obtain ⟨w1, h1⟩ : ∃ w1, w1 = w.alloc (.cells #[.slice po pn pc] tt) := ⟨_, rfl⟩; rw [← h1] at ha hc ⊢; have hh := h.below ha; obtain ⟨X, hO, hS, hT⟩ := hh.ex
 obtain ⟨v', w', hr, hown', hgrow, hpr⟩ := run_append_pred (φ := slc) (P := Tryz.prog) w1 B 22 ty 26 i0 (.slice none 0 0) 1 24 Tryz.underlying22 hi hz0 hz1 hz2 rfl (by omega) _ n X.flatten hO.row ⟨w.heap.size, 0, none⟩ 1 1 [.slice po pn pc] rfl
  (fun j u hj => by
   rcases j with _ | j
   ·simp at hj; subst hj; exact hc
   ·simp at hj) (fun u hu => by simp at hu; subst hu; rfl) (by unfold maxLen; omega) (by omega) (Nat.le_trans hB ha.size) hS (fun u hu => by simp at hu; subst hu; rfl) (by simp [Value.cells, slc])
 obtain ⟨v2, w2, hr2, _, _, hcl⟩ := run_append_clean (P := Tryz.prog) w1 B 22 ty 26 i0 (.slice none 0 0) 1 24 Tryz.underlying22 hi hz0 hz1 hz2 rfl (by omega) _ n X.flatten hO.row ⟨w.heap.size, 0, none⟩ 1 1 [.slice po pn pc] rfl
  (fun j u hj => by
   rcases j with _ | j
   ·simp at hj; subst hj; exact hc
   ·simp at hj) (fun u hu => by simp at hu; subst hu; rfl) (by unfold maxLen; omega) (by omega) (Nat.le_trans hB ha.size) hO.cln (fun u hu => by simp at hu; subst hu; rfl) (by simp [Value.cells, notInt])
 rw [hr] at hr2
 cases hr2
 obtain ⟨ao', cap', rfl⟩ := owns_shape3 hown'
 have hO2 : Go1 B 26 1 w' ao' (n + 1) cap' (X ++ [[.slice po pn pc]]) := ⟨by rw [List.flatten_append]; exact hown', by rw [List.length_append, hO.len]; rfl, by omega, hO.each.append (Each.mk1 rfl fun v hv => by simp at hv; subst hv; rfl), hcl⟩
 refine ⟨_, _, hr, ao', cap', rfl, ⟨X ++ [[.slice po pn pc]], hO2, hpr, Tms.append (hT.imp fun _ _ ⟨a, b, c, h4, h5⟩ => ⟨a, b, c, h4, h5.farS hO hS hgrow⟩) ⟨⟨po, pn, pc, rfl, (hq.below ha).farS hO hS hgrow⟩, trivial⟩⟩, ?_⟩
 exact ⟨hgrow.os.trans ha.os, hgrow.tape.trans ha.tape, hgrow.output.trans ha.output, Nat.le_trans ha.size hgrow.size, fun k hk hne => (hgrow.block k (Nat.lt_of_lt_of_le hk ha.size) hne).trans (ha.block k hk)⟩
end
def Pza [Ol] (K : Nat) (w : World) (so : Option Addr) (m c : Nat) (ms : List (List Term)) : Prop := ∃ Y, Gl 1 w so m c Y ∧ Tms (PzR K w) Y ms
theorem Plz.pza [Ol] {B K : Nat} {w : World} {ao : Option Addr} {n cap : Nat} {ls : List (List Term)} (h : Plz B K w ao n cap ls) : Pza K w ao n cap ls := by
 obtain ⟨X, h1, _, h3⟩ := h.ex
 exact ⟨X, h1.gl, h3⟩
def PlzMore [Ol] (B K : Nat) (w : World) (ao : Option Addr) (n cap m : Nat) (ls : List (List Term)) (v : Value) (W : World) : Prop := ∃ ro rc, v = .slice ro (n + m) rc ∧ Plz B K W ro (n + m) rc ls ∧ w.grownBy W (Value.slice ao n cap).ownBlock
theorem slc_of [Ol] {K : Nat} {w : World} : ∀ {Y : List (List Value)} {ms : List (List Term)}, Tms (PzR K w) Y ms → ∀ u ∈ Y.flatten, slc u = true
 | [], _, _, u, hu => by simp at hu
 | v :: Y, p :: ms, h, u, hu => by
  obtain ⟨ao, n, cap, e, _⟩ := h.1; rw [List.flatten_cons, List.mem_append] at hu
  rcases hu with hu | hu
  ·rw [e, List.mem_singleton] at hu; subst hu; rfl
  ·exact slc_of h.2 u hu
 | _ :: _, [], h, _, _ => h.elim
theorem slc_not {u : Value} (h : slc u = true) : notInt u = true := by
 cases u <;> first | rfl | cases h
theorem plz_more [Ol] {B K : Nat} {w : World} {ao : Option Addr} {n cap : Nat} {ls : List (List Term)} {so : Option Addr} {m c : Nat} {ms : List (List Term)} (h : Plz B K w ao n cap ls) (hS : Pza K w so m c ms) (hB : B ≤ w.heap.size) (hn : n + m ≤ 1000000) (ty : TypeId) :
  ∃ v W, (Builtin.append_ #[29, 29] ty #[.slice ao n cap, .slice so m c]).run Tryz.prog w = .ok v W ∧ PlzMore B K w ao n cap m (ls ++ ms) v W := by
 obtain ⟨i0, hi, hz0, hz1, hz2⟩ := info_parts Tryz.info_rp; obtain ⟨Y, hY, hT2⟩ := hS; obtain ⟨X, hO, hP, hT⟩ := h.ex
 cases so with
 | none =>
  have hc : c = 0 := hY.nil rfl
  have hm : m = 0 := by have := hY.le; omega
  subst hc; subst hm
  have hY0 : Y = [] := hY.empty rfl
  subst hY0
  have hms : ms = [] := by
   cases ms with
   | nil => rfl
   | cons a r => exact hT2.elim
  subst hms
  exact ⟨_, _, run_append_owned_none (P := Tryz.prog) w B 29 ty 36 i0 1 Tryz.underlying29 hi _ n X.flatten hO.row, ao, cap, rfl, by simpa using h, World.grownBy.refl _ _⟩
 | some ad =>
  have hnews : ∀ j u, Y.flatten[j]? = some u → w.cell? (ad.add j) = some u := by
   intro j u hj
   have hjl : j < m := by have := (List.getElem?_eq_some_iff.1 hj).1; rwa [each_len hY.each, hY.len, Nat.mul_one] at this
   have hc := hY.cells ad rfl j hjl 0 (by omega)
   have hg := each_get hY.each j 0 (by rw [hY.len]; exact hjl) (by omega)
   rw [Nat.mul_one, Nat.add_zero] at hc hg; rw [hc, ← hg, hj]
  have hs1 := slc_of hT2
  obtain ⟨v', w', hr, hown', hgrow, hpr⟩ := run_append_pred (φ := slc) (P := Tryz.prog) w B 29 ty 36 i0 (.slice none 0 0) 1 24 Tryz.underlying29 hi hz0 hz1 hz2 rfl (by omega) _ n X.flatten hO.row ad m c Y.flatten (by rw [each_len hY.each, hY.len]) hnews (each_one hY.each) (by unfold maxLen; omega) (by omega) hB hP hs1 (by simp [Value.cells, slc])
  obtain ⟨v2, w2, hr2, _, _, hcl⟩ := run_append_clean (P := Tryz.prog) w B 29 ty 36 i0 (.slice none 0 0) 1 24 Tryz.underlying29 hi hz0 hz1 hz2 rfl (by omega) _ n X.flatten hO.row ad m c Y.flatten (by rw [each_len hY.each, hY.len]) hnews (each_one hY.each) (by unfold maxLen; omega) (by omega) hB hO.cln (fun u hu => slc_not (hs1 u hu)) (by simp [Value.cells, notInt])
  rw [hr] at hr2
  cases hr2
  obtain ⟨ao', cap', rfl⟩ := owns_shape3 hown'
  have hO2 : Go1 B 36 1 w' ao' (n + m) cap' (X ++ Y) := ⟨by rw [List.flatten_append]; exact hown', by rw [List.length_append, hO.len, hY.len], by omega, hO.each.append hY.each, hcl⟩
  exact ⟨_, _, hr, ao', cap', rfl, ⟨X ++ Y, hO2, hpr, Tms.append (hT.imp fun _ _ ⟨a, b, c, h4, h5⟩ => ⟨a, b, c, h4, h5.far hO hP hgrow⟩) (hT2.imp fun _ _ ⟨a, b, c, h4, h5⟩ => ⟨a, b, c, h4, h5.far hO hP hgrow⟩)⟩, hgrow⟩
open Lib (hid)
def fltP (ls : List (List Term)) : List (List Term) := ls.filter fun p => !p.isEmpty
theorem fltP_next {ls : List (List Term)} {k : Nat} (h : k < ls.length) : fltP (ls.take (k + 1)) = fltP (ls.take k) ++ if (ls.getD k []).length = 0 then [] else [ls.getD k []] := by
 unfold fltP
 rw [List.take_succ_eq_append_getElem h, List.filter_append, getD_of [] h]
 congr 1
 cases hp : ls[k] with
 | nil => simp
 | cons t r => simp
theorem tms_take2 {α : Type} {R : List Value → α → Prop} : ∀ {X : List (List Value)} {p : List α} (k : Nat), Tms R X p → Tms R (X.take k) (p.take k)
 | [], [], _, _ => by rw [List.take_nil, List.take_nil]; trivial
 | _ :: _, _ :: _, 0, _ => trivial
 | _ :: _, _ :: _, k + 1, h => ⟨h.1, tms_take2 k h.2⟩
 | [], _ :: _, _, h => h.elim
 | _ :: _, [], _, h => h.elim
theorem tms_drop2 {α : Type} {R : List Value → α → Prop} : ∀ {X : List (List Value)} {p : List α} (k : Nat), Tms R X p → Tms R (X.drop k) (p.drop k)
 | [], [], _, _ => by rw [List.drop_nil, List.drop_nil]; trivial
 | _ :: _, _ :: _, 0, h => h
 | _ :: _, _ :: _, k + 1, h => tms_drop2 k h.2
 | [], _ :: _, _, h => h.elim
 | _ :: _, [], _, h => h.elim
section
variable {B K : Nat} {w V : World} {ao : Option Addr} {n cap : Nat} {ls : List (List Term)}
theorem Pza.cut [Ol] (h : Pza K w ao n cap ls) (j : Nat) (hj : j ≤ n) : Pza K w ao j cap (ls.take j) := by
 obtain ⟨Y, h1, h2⟩ := h
 exact ⟨Y.take j, h1.take j hj, tms_take2 j h2⟩
theorem Pza.below [Ol] (h : Pza K w ao n cap ls) (hb : Below w.heap.size w V) : Pza K V ao n cap ls := by
 obtain ⟨Y, h1, h2⟩ := h
 exact ⟨Y, h1.below hb, h2.imp fun _ _ ⟨a, b, c, h4, h5⟩ => ⟨a, b, c, h4, h5.below hb⟩⟩
theorem Pza.dropEq [Ol] (h : Pza K w ao n cap ls) (j : Nat) (hj : j ≤ n) (hc : cap = j) : Pza K w ao (n - j) (cap - j) (ls.drop j) := by
 obtain ⟨Y, h1, h2⟩ := h
 exact ⟨Y.drop j, h1.dropEq j hj hc, tms_drop2 j h2⟩
theorem Pza.dropNe [Ol] {g off : Nat} (h : Pza K w (some ⟨g, off, none⟩) n cap ls) (j : Nat) (hj : j ≤ n) (hc : cap ≠ j) : Pza K w (some ⟨g, off + j, none⟩) (n - j) (cap - j) (ls.drop j) := by
 obtain ⟨Y, h1, h2⟩ := h
 have := h1.dropNe j hj hc
 rw [Nat.mul_one] at this
 exact ⟨Y.drop j, this, tms_drop2 j h2⟩
theorem Pza.dropEq0 [Ol] (h : Pza K w ao n cap ls) (j : Nat) (hj : j ≤ n) (hc : cap = j) : Pza K w ao (n - j) 0 (ls.drop j) := by
 have h2 := h.dropEq j hj hc
 rwa [show cap - j = 0 by omega] at h2
theorem Pza.dropNe0 [Ol] {g : Nat} (h : Pza K w (some ⟨g, 0, none⟩) n cap ls) (j : Nat) (hj : j ≤ n) (hc : cap ≠ j) : Pza K w (some ⟨g, j, none⟩) (n - j) (cap - j) (ls.drop j) := by
 have h2 := h.dropNe j hj hc
 rwa [Nat.zero_add] at h2
theorem Pza.tail0 [Ol] (h : Pza K w none n cap ls) : Pza K w none 0 0 (ls.drop 0) := by
 obtain ⟨Y, h1, h2⟩ := h; have hc := h1.nil rfl
 have hn : n = 0 := by have := h1.le; omega
 subst hc; subst hn
 exact ⟨Y, h1, h2⟩
theorem Plz.le [Ol] (h : Plz B K w ao n cap ls) : n ≤ cap := by
 obtain ⟨X, h1, _⟩ := h.ex
 exact h1.gl.le
theorem Plz.shape [Ol] (h : Plz B K w ao n cap ls) : (ao = none ∧ n = 0 ∧ cap = 0) ∨ ∃ g, ao = some ⟨g, 0, none⟩ := by
 obtain ⟨X, h1, _⟩ := h.ex
 rcases h1.parts with ⟨a, b, c, _⟩ | ⟨g, cur, e, _⟩
 ·exact .inl ⟨a, b, c⟩
 ·exact .inr ⟨g, e⟩
theorem Plz.base [Ol] {B' : Nat} (h : Plz B K w ao n cap ls) (hB : B' ≤ B) : Plz B' K w ao n cap ls := by
 obtain ⟨X, h1, h2, h3⟩ := h.ex
 exact ⟨X, h1.mono hB, h2, h3⟩
theorem plz_cast [Ol] {n' : Nat} {ms : List (List Term)} (h : Plz B K w ao n cap ls) (e : n = n') (e2 : ls = ms) : Plz B K w ao n' cap ms := by subst e; subst e2; exact h
def PlzDup [Ol] (B K : Nat) (w : World) (m : Nat) (ls : List (List Term)) (v : Value) (W : World) : Prop := ∃ ro rc, v = .slice ro m rc ∧ Plz B K W ro m rc ls ∧ Below w.heap.size w W
theorem plz_dup [Ol] {so : Option Addr} {m c : Nat} {ms : List (List Term)} (hS : Pza K w so m c ms) (hB : B ≤ w.heap.size) (hn : m ≤ 1000000) (ty : TypeId) :
  ∃ v W, (Builtin.append_ #[29, 29] ty #[.slice none 0 0, .slice so m c]).run Tryz.prog w = .ok v W ∧ PlzDup B K w m ms v W := by
 obtain ⟨v, W, hr, ro, rc, hv, hp, hG⟩ := plz_more (Plz.nil B K w) hS hB (by omega) ty
 rw [Nat.zero_add] at hv hp
 exact ⟨v, W, hr, ro, rc, hv, by simpa using hp, ⟨hG.os, hG.tape, hG.output, hG.size, fun k hk => hG.block k hk (by simp [Value.ownBlock])⟩⟩
end
theorem rrsort_any [Ol] {B K : Nat} {ao : Option Addr} {n cap : Nat} {ls : List (List Term)} {w : World} (h : Plz B K w ao n cap ls) (hf : ∀ p ∈ ls, fall p) (hn : n ≤ 8) :
  Calls Tryz.prog 9 #[.slice ao n cap] w (NewPlz2 K w (srtP (fltP ls))) := by
 have HP := hid h; have HPL := hid h.len; have HF := hid hf
 have HS0 : Hid (Plz w.heap.size K w none 0 0 (srtP (fltP (ls.take 0))) ∧ Below w.heap.size w w) := ⟨by rw [List.take_zero]; exact Plz.nil _ _ _, Below.refl _ _⟩
 clear h hf
 go_enter Tryz.func9, Tryz.ntmps9
 go_wp2
 go_loopw [3, 4] (fun o i wr => ∃ (k m : Nat) (oo : Option Addr) (oc : Nat), o = .slice oo m oc ∧ i = .int .i64 k ∧ k ≤ n ∧ m ≤ k ∧ Hid (Plz w.heap.size K wr oo m oc (srtP (fltP (ls.take k))) ∧ Below w.heap.size w wr)) (fun _ i _ => n - (intOf i).toNat)
 case atStart => exact ⟨0, 0, none, 0, rfl, rfl, Nat.zero_le _, Nat.le_refl _, HS0.out⟩
 case round =>
  rename World => vr
  clear HS0; obtain ⟨k, m, oo, oc, rfl, rfl, hk, hmk, HS⟩ := hrel
  by_cases hkn : k < n
  ·obtain ⟨g, po, pn, pc, hao, hg, hx, hcl⟩ := (HP.out.below HS.out.2).at hkn
   subst hao
   have hki : (k : Int) < (n : Int) := by omega
   have hkl : k < ls.length := by rw [HPL.out]; exact hkn
   obtain ⟨x, hxx⟩ : ∃ x, ls.getD k [] = x := ⟨_, rfl⟩
   have hxf : fall x := HF.out x (by rw [← hxx]; exact getD_in [] hkl)
   rw [hxx] at hx; have hpn := hx.len
   have hnx := fltP_next hkl; rw [hxx] at hnx; have c0 := hcl vr (Below.refl _ _); have HCL := hid hcl; have HXP := hid (And.intro hx hxf); have HNX := hid hnx; clear hcl hx hxf hnx hxx hg
   by_cases h0 : pn = 0
   ·subst h0
    have HN : Hid (Plz w.heap.size K vr oo m oc (srtP (fltP (ls.take (k + 1)))) ∧ Below w.heap.size w vr) := by
     rw [HNX.out, if_pos hpn, List.append_nil]
     exact HS.out
    clear HS; go_wp2_with fail
    go_roundw
    case rel => exact ⟨k + 1, m, oo, oc, rfl, by go_num, by omega, by omega, HN.out⟩
    case measure => simp [intOf]; omega
   ·have hd : ((pn : Int) == 0) = false := by simpa using h0
    obtain ⟨c1, hc1⟩ : ∃ c, clsP x = c := ⟨_, rfl⟩; obtain ⟨d1, hd1⟩ : ∃ d, degP x c1 = d := ⟨_, rfl⟩
    have HX : Hid (Pz K vr po pn pc x ∧ fall x ∧ clsP x = c1 ∧ degP x c1 = d1) := ⟨HXP.out.1, HXP.out.2, hc1, hd1⟩
    have HKN : Hid (srtP (fltP (ls.take (k + 1))) = insR ltP x (srtP (fltP (ls.take k)))) := by
     rw [Hid, HNX.out, if_neg (by omega)]
     exact isortF_snoc ltP _ [] x
    obtain ⟨s, hs⟩ : ∃ s, srtP (fltP (ls.take k)) = s := ⟨_, rfl⟩
    have HSF : Hid (∀ p ∈ s, fall p) := fun p hp => by
     rw [← hs] at hp; have h1 := (isort_perm ltP _).mem_iff.1 hp
     exact HF.out p (List.mem_of_mem_take (List.mem_filter.1 h1).1)
    rw [hs] at HS HKN; have hsm := HS.out.1.len
    have HSM := hid hsm
    have HI0 : Hid (Below vr.heap.size vr vr ∧ insR ltP x s = insR ltP x (s.take m) ++ s.drop m) := ⟨Below.refl _ _, by rw [← hsm, List.take_length, List.drop_length, List.append_nil]⟩
    clear h0 hc1 hd1 HXP HNX hs hsm hpn; go_wp2_with fail
    go_loopw [5] (fun jv wv => ∃ j : Nat, jv = .int .i64 j ∧ j ≤ m ∧ Hid (Below vr.heap.size vr wv ∧ insR ltP x s = insR ltP x (s.take j) ++ s.drop j)) (fun jv _ => (intOf jv).toNat)
    case atStart => exact ⟨m, rfl, Nat.le_refl _, HI0.out⟩
    case round =>
     rename World => vv
     clear HI0 c0; obtain ⟨j0, rfl, hjm, HI⟩ := hrel
     by_cases hj0 : j0 = 0
     ·subst hj0
      have HJ : Hid (insR ltP x s = s.take 0 ++ x :: s.drop 0) := by
       have h := HI.out.2; rw [h, List.take_zero, insR_nil]
       rfl
      rcases HS.out.1.shape with ⟨rfl, rfl, rfl⟩ | ⟨g9, rfl⟩
      ·go_upto_region 7 with (fail)
       refine wp_region_held_drew (S := fun w' => True) (by kernel_rfl) trivial (fun hH => ?_)
       refine anyH_world (fun w9 hW => ?_)
       have W_9 : Hid (Below vr.heap.size vr w9) := by rw [hW]; exact HI.out.1.drew
       clear hW
       refine son 0 hH ?_; try simp only [nrm]
       refine son 1 hH ?_; try simp only [nrm]
       refine son 2 hH ?_; try simp only [nrm]
       refine sof 3 hH ?_; try simp only [nrm]
       refine sof 4 hH ?_; try simp only [nrm]
       refine sof 5 hH ?_; try simp only [nrm]
       refine sof 6 hH ?_; try simp only [nrm]
       refine sof 7 hH ?_; try simp only [nrm]
       refine sof 8 hH ?_; try simp only [nrm]
       refine sof 9 hH ?_; try simp only [nrm]
       refine sof 10 hH ?_; try simp only [nrm]
       refine sof 11 hH ?_; try simp only [nrm]
       refine sof 12 hH ?_; try simp only [nrm]
       refine sof 13 hH ?_; try simp only [nrm]
       refine sof 14 hH ?_; try simp only [nrm]
       refine son 15 hH ?_; try simp only [nrm]
       refine wpAnyH_done (by kernel_rfl) ?_ _
       have HO9 : Hid (Plz w.heap.size K w9 _ _ _ s) := HS.out.1.below W_9.out
       have HU1 : Hid (Plz w9.heap.size K w9 none 0 0 (s.take 0) ∧ Below w9.heap.size w9 w9) := ⟨by rw [List.take_zero]; exact Plz.nil _ _ _, Below.refl _ _⟩
       have c0 := HCL.out w9 W_9.out
       obtain ⟨v2, U2, hr2, hm2⟩ := plz_push HU1.out.1 (HX.out.1.below (Below.steps W_9.out HU1.out.2)) HU1.out.2.size (by omega) 36 29
       have HM2 := hid hm2; clear hm2
       go_wp2_with (first
        | (at_builtin; refine wpList_append_of rfl (.tmp 44) (.tmp 49) 29 29 rfl _ _ rfl rfl hr2 ?_; clear hr2 c0; obtain ⟨ro2, rc2, rfl, hp1, hp2⟩ := HM2.out; have HU2 : Hid (Plz w9.heap.size K U2 ro2 (0 + 1) rc2 (s.take (0) ++ [x]) ∧ Below w9.heap.size w9 U2) := ⟨hp1, HU1.out.2.grown hp2 HU1.out.2.size fun r e => (HU1.out.1.own r e).1⟩; clear hp1 hp2 HM2 HU1; obtain ⟨v3, U3, hr3, hm3⟩ := plz_more HU2.out.1 ((HO9.out.pza.below HU2.out.2).tail0) HU2.out.2.size (by omega) 29; have HM3 := hid hm3; clear hm3)
        | (at_builtin; refine wpList_append_of rfl (.tmp 51) (.tmp 54) 29 29 rfl _ _ rfl rfl hr3 ?_; clear hr3; obtain ⟨ro3, rc3, rfl, hp1, hp2⟩ := HM3.out; have HV3 := hid (And.intro hp1 hp2); clear hp1 hp2 HM3))
       have HN : Hid (Plz w.heap.size K U3 ro3 (0 + 1) rc3 (srtP (fltP (ls.take (k + 1)))) ∧ Below w.heap.size w U3) := by
        refine ⟨?_, Below.steps HS.out.2 (Below.steps W_9.out (HU2.out.2.grown HV3.out.2 HU2.out.2.size fun r e => (HU2.out.1.own r e).1))⟩
        have h := HV3.out.1.base (Nat.le_trans (Below.steps HS.out.2 W_9.out).size (Nat.le_refl _)); rw [HKN.out, HJ.out]
        refine plz_cast h (by omega) ?_
        simp
       clear HV3 HU2
       go_roundw
       case rel => exact ⟨k + 1, 0 + 1, ro3, rc3, rfl, by go_num, by omega, by omega, HN.out⟩
       case measure => simp [intOf]; omega
      ·by_cases hcj : oc = 0
       ·go_upto_region 7 with (fail)
        refine wp_region_held_drew (S := fun w' => True) (by kernel_rfl) trivial (fun hH => ?_)
        refine anyH_world (fun w9 hW => ?_)
        have W_9 : Hid (Below vr.heap.size vr w9) := by rw [hW]; exact HI.out.1.drew
        clear hW
        refine son 0 hH ?_; try simp only [nrm]
        refine son 1 hH ?_; try simp only [nrm]
        refine son 2 hH ?_; try simp only [nrm]
        refine sof 3 hH ?_; try simp only [nrm]
        refine sof 4 hH ?_; try simp only [nrm]
        refine sof 5 hH ?_; try simp only [nrm]
        refine sof 6 hH ?_; try simp only [nrm]
        refine sof 7 hH ?_; try simp only [nrm]
        refine sof 8 hH ?_; try simp only [nrm]
        refine sof 9 hH ?_; try simp only [nrm]
        refine sof 10 hH ?_; try simp only [nrm]
        refine sof 11 hH ?_; try simp only [nrm]
        refine sof 12 hH ?_; try simp only [nrm]
        refine sof 13 hH ?_; try simp only [nrm]
        refine sof 14 hH ?_; try simp only [nrm]
        refine son 15 hH ?_; try simp only [nrm]
        refine wpAnyH_done (by kernel_rfl) ?_ _
        have HO9 : Hid (Plz w.heap.size K w9 _ _ _ s) := HS.out.1.below W_9.out
        have HU1 : Hid (Plz w9.heap.size K w9 none 0 0 (s.take 0) ∧ Below w9.heap.size w9 w9) := ⟨by rw [List.take_zero]; exact Plz.nil _ _ _, Below.refl _ _⟩
        have c0 := HCL.out w9 W_9.out
        obtain ⟨v2, U2, hr2, hm2⟩ := plz_push HU1.out.1 (HX.out.1.below (Below.steps W_9.out HU1.out.2)) HU1.out.2.size (by omega) 36 29
        have HM2 := hid hm2; clear hm2
        go_wp2_with (first
         | (at_builtin; refine wpList_append_of rfl (.tmp 44) (.tmp 49) 29 29 rfl _ _ rfl rfl hr2 ?_; clear hr2 c0; obtain ⟨ro2, rc2, rfl, hp1, hp2⟩ := HM2.out; have HU2 : Hid (Plz w9.heap.size K U2 ro2 (0 + 1) rc2 (s.take (0) ++ [x]) ∧ Below w9.heap.size w9 U2) := ⟨hp1, HU1.out.2.grown hp2 HU1.out.2.size fun r e => (HU1.out.1.own r e).1⟩; clear hp1 hp2 HM2 HU1; obtain ⟨v3, U3, hr3, hm3⟩ := plz_more HU2.out.1 ((HO9.out.pza.below HU2.out.2).dropEq (0) (by omega) hcj) HU2.out.2.size (by omega) 29; have HM3 := hid hm3; clear hm3)
         | (at_builtin; refine wpList_append_of rfl (.tmp 51) (.tmp 54) 29 29 rfl _ _ rfl rfl hr3 ?_; clear hr3; obtain ⟨ro3, rc3, rfl, hp1, hp2⟩ := HM3.out; have HV3 := hid (And.intro hp1 hp2); clear hp1 hp2 HM3))
        have HN : Hid (Plz w.heap.size K U3 ro3 (m + 1) rc3 (srtP (fltP (ls.take (k + 1)))) ∧ Below w.heap.size w U3) := by
         refine ⟨?_, Below.steps HS.out.2 (Below.steps W_9.out (HU2.out.2.grown HV3.out.2 HU2.out.2.size fun r e => (HU2.out.1.own r e).1))⟩
         have h := HV3.out.1.base (Nat.le_trans (Below.steps HS.out.2 W_9.out).size (Nat.le_refl _)); rw [HKN.out, HJ.out]
         refine plz_cast h (by omega) ?_
         simp
        clear HV3 HU2
        go_roundw
        case rel => exact ⟨k + 1, m + 1, ro3, rc3, by congr 1; omega, by go_num, by omega, by omega, HN.out⟩
        case measure => simp [intOf]; omega
       ·go_upto_region 7 with (fail)
        refine wp_region_held_drew (S := fun w' => True) (by kernel_rfl) trivial (fun hH => ?_)
        refine anyH_world (fun w9 hW => ?_)
        have W_9 : Hid (Below vr.heap.size vr w9) := by rw [hW]; exact HI.out.1.drew
        clear hW
        refine son 0 hH ?_; try simp only [nrm]
        refine son 1 hH ?_; try simp only [nrm]
        refine son 2 hH ?_; try simp only [nrm]
        refine sof 3 hH ?_; try simp only [nrm]
        refine sof 4 hH ?_; try simp only [nrm]
        refine sof 5 hH ?_; try simp only [nrm]
        refine sof 6 hH ?_; try simp only [nrm]
        refine sof 7 hH ?_; try simp only [nrm]
        refine sof 8 hH ?_; try simp only [nrm]
        refine sof 9 hH ?_; try simp only [nrm]
        refine sof 10 hH ?_; try simp only [nrm]
        refine sof 11 hH ?_; try simp only [nrm]
        refine sof 12 hH ?_; try simp only [nrm]
        refine sof 13 hH ?_; try simp only [nrm]
        refine sof 14 hH ?_; try simp only [nrm]
        refine son 15 hH ?_; try simp only [nrm]
        refine wpAnyH_done (by kernel_rfl) ?_ _
        have HO9 : Hid (Plz w.heap.size K w9 _ _ _ s) := HS.out.1.below W_9.out
        have HU1 : Hid (Plz w9.heap.size K w9 none 0 0 (s.take 0) ∧ Below w9.heap.size w9 w9) := ⟨by rw [List.take_zero]; exact Plz.nil _ _ _, Below.refl _ _⟩
        have c0 := HCL.out w9 W_9.out
        obtain ⟨v2, U2, hr2, hm2⟩ := plz_push HU1.out.1 (HX.out.1.below (Below.steps W_9.out HU1.out.2)) HU1.out.2.size (by omega) 36 29
        have HM2 := hid hm2; clear hm2
        go_wp2_with (first
         | (at_builtin; refine wpList_append_of rfl (.tmp 44) (.tmp 49) 29 29 rfl _ _ rfl rfl hr2 ?_; clear hr2 c0; obtain ⟨ro2, rc2, rfl, hp1, hp2⟩ := HM2.out; have HU2 : Hid (Plz w9.heap.size K U2 ro2 (0 + 1) rc2 (s.take (0) ++ [x]) ∧ Below w9.heap.size w9 U2) := ⟨hp1, HU1.out.2.grown hp2 HU1.out.2.size fun r e => (HU1.out.1.own r e).1⟩; clear hp1 hp2 HM2 HU1; obtain ⟨v3, U3, hr3, hm3⟩ := plz_more HU2.out.1 ((HO9.out.pza.below HU2.out.2).dropNe (0) (by omega) hcj) HU2.out.2.size (by omega) 29; have HM3 := hid hm3; clear hm3)
         | (at_builtin; refine wpList_append_of rfl (.tmp 51) (.tmp 54) 29 29 rfl _ _ rfl rfl hr3 ?_; clear hr3; obtain ⟨ro3, rc3, rfl, hp1, hp2⟩ := HM3.out; have HV3 := hid (And.intro hp1 hp2); clear hp1 hp2 HM3))
        have HN : Hid (Plz w.heap.size K U3 ro3 (m + 1) rc3 (srtP (fltP (ls.take (k + 1)))) ∧ Below w.heap.size w U3) := by
         refine ⟨?_, Below.steps HS.out.2 (Below.steps W_9.out (HU2.out.2.grown HV3.out.2 HU2.out.2.size fun r e => (HU2.out.1.own r e).1))⟩
         have h := HV3.out.1.base (Nat.le_trans (Below.steps HS.out.2 W_9.out).size (Nat.le_refl _)); rw [HKN.out, HJ.out]
         refine plz_cast h (by omega) ?_
         simp
        clear HV3 HU2
        go_roundw
        case rel => exact ⟨k + 1, m + 1, ro3, rc3, by congr 1; omega, by go_num, by omega, by omega, HN.out⟩
        case measure => simp [intOf]; omega
     ·obtain ⟨j, rfl⟩ : ∃ j, j0 = j + 1 := ⟨j0 - 1, by omega⟩
      obtain ⟨g2, yo, yn, yc, hoo, _, hy, hcy⟩ := HS.out.1.at (k := j) (by omega)
      have hjs : j < s.length := by rw [HSM.out]; omega
      have hyf := HSF.out _ (getD_in [] hjs); obtain ⟨y, hyy⟩ : ∃ y, s.getD j [] = y := ⟨_, rfl⟩; rw [hyy] at hy hyf; obtain ⟨c2, hc2⟩ : ∃ c, clsP y = c := ⟨_, rfl⟩; obtain ⟨d2, hd2⟩ : ∃ d, degP y c2 = d := ⟨_, rfl⟩; obtain ⟨z, hz⟩ : ∃ z, ltRk (c1, d1) (c2, d2) = z := ⟨_, rfl⟩
      have hlt : ltP x y = z := by
       rw [← hz, ← HX.out.2.2.2, ← HX.out.2.2.1, ← hd2, ← hc2]
       rfl
      have htk : s.take (j + 1) = s.take j ++ [y] := by rw [List.take_succ_eq_append_getElem hjs, ← hyy, getD_of [] hjs]
      have hin := insR_snoc ltP x y (s.take j); rw [← htk, hlt] at hin
      have HY : Hid (Pz K vr yo yn yc y ∧ fall y ∧ clsP y = c2 ∧ degP y c2 = d2) := ⟨hy, hyf, hc2, hd2⟩
      have hdr : s.drop j = y :: s.drop (j + 1) := by rw [List.drop_eq_getElem_cons hjs, ← hyy, getD_of [] hjs]
      have HIN := hid (And.intro hin hdr); have HLT := hid hz; have HCY := hid hcy; have hoo2 := hoo
      have hwj : IntKind.i64.wrap (j : Int) = (j : Int) := IntWalk.i64_in _ ⟨by omega, by omega⟩
      have hj1 : (0 : Int) < (j : Int) + 1 := by omega
      have hji : (j : Int) < (m : Int) := by omega
      have hjn : j < m := by omega
      subst hoo; clear hy hyf hyy hc2 hd2 hz hlt htk hin hdr hcy hjs hoo2
      cases z with
      | true =>
       have HN2 : Hid (insR ltP x s = insR ltP x (s.take j) ++ s.drop j) := by
        have h := HI.out.2; have h2 := HIN.out.1; rw [if_pos rfl] at h2; rw [Hid, h, h2, HIN.out.2]
        simp
       go_upto_region 7 with (fail)
       refine wp_region_held_drew (S := fun w' => w'.cell? ⟨g, k, none⟩ = some (.slice po pn pc) ∧ w'.cell? ⟨g2, j, none⟩ = some (.slice yo yn yc)) (by kernel_rfl) ⟨HCL.out _ HI.out.1.drew, HCY.out _ HI.out.1.drew⟩ (fun hH => ?_)
       refine anyH_world (fun w6 hW => ?_)
       have W_6 : Hid (Below vr.heap.size vr w6) := by rw [hW]; exact HI.out.1.drew
       rw [← hW] at hH; clear hW
       refine son 0 hH ?_; try simp only [nrm]
       refine son 1 hH ?_; try simp only [nrm]
       refine son 2 hH ?_; try simp only [nrm]
       refine son 3 hH ?_; try simp only [nrm]
       refine son 4 hH ?_; try simp only [nrm]
       refine son 5 hH ?_; try simp only [nrm]
       refine son 6 hH ?_; try simp only [nrm]
       refine son 8 hH ?_; try simp only [nrm]
       refine son 9 hH ?_; try simp only [nrm]
       refine son 10 hH ?_; try simp only [nrm]
       refine son 11 hH ?_; try simp only [nrm]
       refine son 12 hH ?_; try simp only [nrm]
       refine step_one 7 rfl (by kernel_rfl) (fun KK hK => ?_)
       go_simp; refine (rrof_any c1 d1 (HX.out.1.below W_6.out) HX.out.2.1 HX.out.2.2.1 HX.out.2.2.2).mono ?_
       rintro e w7 ⟨rfl, hB⟩; have W_7 := hid (Below.steps W_6.out hB); clear hB W_6; go_wp2_with fail
       clear hH; refine hK.out _ _ ⟨HCL.out _ W_7.out, HCY.out _ W_7.out⟩ fun hH => ?_; clear hK KK
       try simp only [nrm]
       refine step_one 13 rfl (by kernel_rfl) (fun KK hK => ?_)
       go_simp; refine (rrof_any c2 d2 (HY.out.1.below W_7.out) HY.out.2.1 HY.out.2.2.1 HY.out.2.2.2).mono ?_
       rintro e w8 ⟨rfl, hB⟩; have W_8 := hid (Below.steps W_7.out hB); clear hB W_7; go_wp2_with fail
       clear hH; refine hK.out _ _ ⟨HCL.out _ W_8.out, HCY.out _ W_8.out⟩ fun hH => ?_; clear hK KK
       try simp only [nrm]
       refine step_one 14 rfl (by kernel_rfl) (fun KK hK => ?_)
       go_simp; refine (rless_any c1 d1 c2 d2 true HLT.out).mono ?_
       rintro e w9 ⟨rfl, hB⟩; have W_9 := hid (Below.steps W_8.out hB); clear hB W_8; go_wp2_with fail
       clear hH; refine hK.out _ _ ⟨HCL.out _ W_9.out, HCY.out _ W_9.out⟩ fun hH => ?_; clear hK KK
       try simp only [nrm]
       refine son 15 hH ?_; try simp only [nrm]
       refine wpAnyH_done (by kernel_rfl) ?_ _
       go_wp2_with fail
       go_roundw
       case rel => exact ⟨j, by go_num, by omega, W_9.out, HN2.out⟩
       case measure => simp [intOf] <;> omega
      | false =>
       have HJ : Hid (insR ltP x s = s.take (j + 1) ++ x :: s.drop (j + 1)) := by
        have h := HI.out.2; have h2 := HIN.out.1
        rw [if_neg (by simp)] at h2
        rw [Hid, h, h2]
        simp
       have hmo := (HS.out.1.le : m ≤ oc)
       by_cases hcj : oc = j + 1
       ·go_upto_region 7 with (fail)
        refine wp_region_held_drew (S := fun w' => w'.cell? ⟨g, k, none⟩ = some (.slice po pn pc) ∧ w'.cell? ⟨g2, j, none⟩ = some (.slice yo yn yc)) (by kernel_rfl) ⟨HCL.out _ HI.out.1.drew, HCY.out _ HI.out.1.drew⟩ (fun hH => ?_)
        refine anyH_world (fun w6 hW => ?_)
        have W_6 : Hid (Below vr.heap.size vr w6) := by rw [hW]; exact HI.out.1.drew
        rw [← hW] at hH; clear hW
        refine son 0 hH ?_; try simp only [nrm]
        refine son 1 hH ?_; try simp only [nrm]
        refine son 2 hH ?_; try simp only [nrm]
        refine son 3 hH ?_; try simp only [nrm]
        refine son 4 hH ?_; try simp only [nrm]
        refine son 5 hH ?_; try simp only [nrm]
        refine son 6 hH ?_; try simp only [nrm]
        refine son 8 hH ?_; try simp only [nrm]
        refine son 9 hH ?_; try simp only [nrm]
        refine son 10 hH ?_; try simp only [nrm]
        refine son 11 hH ?_; try simp only [nrm]
        refine son 12 hH ?_; try simp only [nrm]
        refine step_one 7 rfl (by kernel_rfl) (fun KK hK => ?_)
        go_simp; refine (rrof_any c1 d1 (HX.out.1.below W_6.out) HX.out.2.1 HX.out.2.2.1 HX.out.2.2.2).mono ?_
        rintro e w7 ⟨rfl, hB⟩; have W_7 := hid (Below.steps W_6.out hB); clear hB W_6; go_wp2_with fail
        clear hH; refine hK.out _ _ ⟨HCL.out _ W_7.out, HCY.out _ W_7.out⟩ fun hH => ?_; clear hK KK
        try simp only [nrm]
        refine step_one 13 rfl (by kernel_rfl) (fun KK hK => ?_)
        go_simp; refine (rrof_any c2 d2 (HY.out.1.below W_7.out) HY.out.2.1 HY.out.2.2.1 HY.out.2.2.2).mono ?_
        rintro e w8 ⟨rfl, hB⟩; have W_8 := hid (Below.steps W_7.out hB); clear hB W_7; go_wp2_with fail
        clear hH; refine hK.out _ _ ⟨HCL.out _ W_8.out, HCY.out _ W_8.out⟩ fun hH => ?_; clear hK KK
        try simp only [nrm]
        refine step_one 14 rfl (by kernel_rfl) (fun KK hK => ?_)
        go_simp; refine (rless_any c1 d1 c2 d2 false HLT.out).mono ?_
        rintro e w9 ⟨rfl, hB⟩; have W_9 := hid (Below.steps W_8.out hB); clear hB W_8; go_wp2_with fail
        clear hH; refine hK.out _ _ ⟨HCL.out _ W_9.out, HCY.out _ W_9.out⟩ fun hH => ?_; clear hK KK
        try simp only [nrm]
        refine son 15 hH ?_; try simp only [nrm]
        refine wpAnyH_done (by kernel_rfl) ?_ _
        clear HIN HY HLT HCY
        have HO9 : Hid (Plz w.heap.size K w9 _ _ _ s) := HS.out.1.below W_9.out
        obtain ⟨v1, U1, hr1, hm1⟩ := plz_dup (B := w9.heap.size) (HO9.out.pza.cut (j + 1) (by omega)) (Nat.le_refl _) (by omega) 29
        have HM1 := hid hm1; clear hm1
        go_wp2_with (first
         | (at_builtin; refine wpList_append_of rfl (.tmp 39) (.tmp 42) 29 29 rfl _ _ rfl rfl hr1 ?_; clear hr1; obtain ⟨ro1, rc1, rfl, hp1, hp2⟩ := HM1.out; have HU1 : Hid (Plz w9.heap.size K U1 ro1 (j + 1) rc1 (s.take (j + 1)) ∧ Below w9.heap.size w9 U1) := ⟨hp1, hp2⟩; clear hp1 hp2 HM1; have c0 := HCL.out U1 (Below.steps W_9.out HU1.out.2); obtain ⟨v2, U2, hr2, hm2⟩ := plz_push HU1.out.1 (HX.out.1.below (Below.steps W_9.out HU1.out.2)) HU1.out.2.size (by omega) 36 29; have HM2 := hid hm2; clear hm2)
         | (at_builtin; refine wpList_append_of rfl (.tmp 44) (.tmp 49) 29 29 rfl _ _ rfl rfl hr2 ?_; clear hr2 c0; obtain ⟨ro2, rc2, rfl, hp1, hp2⟩ := HM2.out; have HU2 : Hid (Plz w9.heap.size K U2 ro2 (j + 1 + 1) rc2 (s.take (j + 1) ++ [x]) ∧ Below w9.heap.size w9 U2) := ⟨hp1, HU1.out.2.grown hp2 HU1.out.2.size fun r e => (HU1.out.1.own r e).1⟩; clear hp1 hp2 HM2 HU1; obtain ⟨v3, U3, hr3, hm3⟩ := plz_more HU2.out.1 ((HO9.out.pza.below HU2.out.2).dropEq0 (j + 1) (by omega) hcj) HU2.out.2.size (by omega) 29; have HM3 := hid hm3; clear hm3)
         | (at_builtin; refine wpList_append_of rfl (.tmp 51) (.tmp 54) 29 29 rfl _ _ rfl rfl hr3 ?_; clear hr3; obtain ⟨ro3, rc3, rfl, hp1, hp2⟩ := HM3.out; have HV3 := hid (And.intro hp1 hp2); clear hp1 hp2 HM3))
        have HN : Hid (Plz w.heap.size K U3 ro3 (m + 1) rc3 (srtP (fltP (ls.take (k + 1)))) ∧ Below w.heap.size w U3) := by
         refine ⟨?_, Below.steps HS.out.2 (Below.steps W_9.out (HU2.out.2.grown HV3.out.2 HU2.out.2.size fun r e => (HU2.out.1.own r e).1))⟩
         have h := HV3.out.1.base (Nat.le_trans (Below.steps HS.out.2 W_9.out).size (Nat.le_refl _)); rw [HKN.out, HJ.out]
         refine plz_cast h (by omega) ?_
         simp
        clear HV3 HU2
        go_roundw
        case rel => exact ⟨k + 1, m + 1, ro3, rc3, by congr 1; omega, by go_num, by omega, by omega, HN.out⟩
        case measure => simp [intOf]; omega
       ·go_upto_region 7 with (fail)
        refine wp_region_held_drew (S := fun w' => w'.cell? ⟨g, k, none⟩ = some (.slice po pn pc) ∧ w'.cell? ⟨g2, j, none⟩ = some (.slice yo yn yc)) (by kernel_rfl) ⟨HCL.out _ HI.out.1.drew, HCY.out _ HI.out.1.drew⟩ (fun hH => ?_)
        refine anyH_world (fun w6 hW => ?_)
        have W_6 : Hid (Below vr.heap.size vr w6) := by rw [hW]; exact HI.out.1.drew
        rw [← hW] at hH; clear hW
        refine son 0 hH ?_; try simp only [nrm]
        refine son 1 hH ?_; try simp only [nrm]
        refine son 2 hH ?_; try simp only [nrm]
        refine son 3 hH ?_; try simp only [nrm]
        refine son 4 hH ?_; try simp only [nrm]
        refine son 5 hH ?_; try simp only [nrm]
        refine son 6 hH ?_; try simp only [nrm]
        refine son 8 hH ?_; try simp only [nrm]
        refine son 9 hH ?_; try simp only [nrm]
        refine son 10 hH ?_; try simp only [nrm]
        refine son 11 hH ?_; try simp only [nrm]
        refine son 12 hH ?_; try simp only [nrm]
        refine step_one 7 rfl (by kernel_rfl) (fun KK hK => ?_)
        go_simp; refine (rrof_any c1 d1 (HX.out.1.below W_6.out) HX.out.2.1 HX.out.2.2.1 HX.out.2.2.2).mono ?_
        rintro e w7 ⟨rfl, hB⟩; have W_7 := hid (Below.steps W_6.out hB); clear hB W_6; go_wp2_with fail
        clear hH; refine hK.out _ _ ⟨HCL.out _ W_7.out, HCY.out _ W_7.out⟩ fun hH => ?_; clear hK KK
        try simp only [nrm]
        refine step_one 13 rfl (by kernel_rfl) (fun KK hK => ?_)
        go_simp; refine (rrof_any c2 d2 (HY.out.1.below W_7.out) HY.out.2.1 HY.out.2.2.1 HY.out.2.2.2).mono ?_
        rintro e w8 ⟨rfl, hB⟩; have W_8 := hid (Below.steps W_7.out hB); clear hB W_7; go_wp2_with fail
        clear hH; refine hK.out _ _ ⟨HCL.out _ W_8.out, HCY.out _ W_8.out⟩ fun hH => ?_; clear hK KK
        try simp only [nrm]
        refine step_one 14 rfl (by kernel_rfl) (fun KK hK => ?_)
        go_simp; refine (rless_any c1 d1 c2 d2 false HLT.out).mono ?_
        rintro e w9 ⟨rfl, hB⟩; have W_9 := hid (Below.steps W_8.out hB); clear hB W_8; go_wp2_with fail
        clear hH; refine hK.out _ _ ⟨HCL.out _ W_9.out, HCY.out _ W_9.out⟩ fun hH => ?_; clear hK KK
        try simp only [nrm]
        refine son 15 hH ?_; try simp only [nrm]
        refine wpAnyH_done (by kernel_rfl) ?_ _
        clear HIN HY HLT HCY
        have HO9 : Hid (Plz w.heap.size K w9 _ _ _ s) := HS.out.1.below W_9.out
        obtain ⟨v1, U1, hr1, hm1⟩ := plz_dup (B := w9.heap.size) (HO9.out.pza.cut (j + 1) (by omega)) (Nat.le_refl _) (by omega) 29
        have HM1 := hid hm1; clear hm1
        go_wp2_with (first
         | (at_builtin; refine wpList_append_of rfl (.tmp 39) (.tmp 42) 29 29 rfl _ _ rfl rfl hr1 ?_; clear hr1; obtain ⟨ro1, rc1, rfl, hp1, hp2⟩ := HM1.out; have HU1 : Hid (Plz w9.heap.size K U1 ro1 (j + 1) rc1 (s.take (j + 1)) ∧ Below w9.heap.size w9 U1) := ⟨hp1, hp2⟩; clear hp1 hp2 HM1; have c0 := HCL.out U1 (Below.steps W_9.out HU1.out.2); obtain ⟨v2, U2, hr2, hm2⟩ := plz_push HU1.out.1 (HX.out.1.below (Below.steps W_9.out HU1.out.2)) HU1.out.2.size (by omega) 36 29; have HM2 := hid hm2; clear hm2)
         | (at_builtin; refine wpList_append_of rfl (.tmp 44) (.tmp 49) 29 29 rfl _ _ rfl rfl hr2 ?_; clear hr2 c0; obtain ⟨ro2, rc2, rfl, hp1, hp2⟩ := HM2.out; have HU2 : Hid (Plz w9.heap.size K U2 ro2 (j + 1 + 1) rc2 (s.take (j + 1) ++ [x]) ∧ Below w9.heap.size w9 U2) := ⟨hp1, HU1.out.2.grown hp2 HU1.out.2.size fun r e => (HU1.out.1.own r e).1⟩; clear hp1 hp2 HM2 HU1; obtain ⟨v3, U3, hr3, hm3⟩ := plz_more HU2.out.1 ((HO9.out.pza.below HU2.out.2).dropNe0 (j + 1) (by omega) hcj) HU2.out.2.size (by omega) 29; have HM3 := hid hm3; clear hm3)
         | (at_builtin; refine wpList_append_of rfl (.tmp 51) (.tmp 54) 29 29 rfl _ _ rfl rfl hr3 ?_; clear hr3; obtain ⟨ro3, rc3, rfl, hp1, hp2⟩ := HM3.out; have HV3 := hid (And.intro hp1 hp2); clear hp1 hp2 HM3))
        have HN : Hid (Plz w.heap.size K U3 ro3 (m + 1) rc3 (srtP (fltP (ls.take (k + 1)))) ∧ Below w.heap.size w U3) := by
         refine ⟨?_, Below.steps HS.out.2 (Below.steps W_9.out (HU2.out.2.grown HV3.out.2 HU2.out.2.size fun r e => (HU2.out.1.own r e).1))⟩
         have h := HV3.out.1.base (Nat.le_trans (Below.steps HS.out.2 W_9.out).size (Nat.le_refl _)); rw [HKN.out, HJ.out]
         refine plz_cast h (by omega) ?_
         simp
        clear HV3 HU2
        go_roundw
        case rel => exact ⟨k + 1, m + 1, ro3, rc3, by congr 1; omega, by go_num, by omega, by omega, HN.out⟩
        case measure => simp [intOf]; omega
  ·obtain rfl : k = n := by omega
   have HR : Hid (NewPlz2 K w (srtP (fltP ls)) (.returned (.slice oo m oc)) vr) := by
    have h := HS.out.1
    rw [List.take_of_length_le (by rw [HPL.out]; exact Nat.le_refl _)] at h
    exact ⟨_, _, _, rfl, h.len, h, HS.out.2⟩
   clear HS
   go_wp2
   go_ret
   exact HR.out
theorem rrlower_any [Ol] {B B2 K : Nat} {ao bo : Option Addr} {n cap m cb : Nat} {ls ms : List (List Term)} {w : World} (z : Int) (h : Plz B K w ao n cap ls) (h2 : Plz B2 K w bo m cb ms) (hf : ∀ p ∈ ls, fall p) (hg : ∀ p ∈ ms, fall p) (hn : n ≤ 8) (hz : lowL (ls.map rkP) (ms.map rkP) = z) :
  Calls Tryz.prog 12 #[.slice ao n cap, .slice bo m cb] w (RetB (.int .i64 z) w) := by
 obtain ⟨x, hx⟩ : ∃ x, difL (ls.map rkP) (ms.map rkP) = x := ⟨_, rfl⟩; have HP := hid (And.intro h (And.intro h2 (And.intro hf hg))); have HPL := hid (And.intro h.len h2.len)
 have HZ : Hid ((if x = 0 then cmpI m n else x) = z) := by
  rw [Hid, ← hz]
  unfold lowL
  rw [hx, List.length_map, List.length_map, h.len, h2.len]
 have HX0 := hid hx; clear h h2 hf hg hz hx
 go_enter Tryz.func12, Tryz.ntmps12
 go_wp2
 go_loopw [5] (fun i wr => ∃ k : Nat, i = .int .i64 k ∧ k ≤ n ∧ k ≤ m ∧ Hid (Below w.heap.size w wr ∧ difL ((ls.map rkP).drop k) ((ms.map rkP).drop k) = x)) (fun i _ => n - (intOf i).toNat)
 case atStart => exact ⟨0, rfl, Nat.zero_le _, Nat.zero_le _, Below.refl _ _, HX0.out⟩
 case round =>
  obtain ⟨k, rfl, hk, hkm, HS⟩ := hrel
  by_cases hkn : k < n ∧ k < m
  ·obtain ⟨hk1, hk2⟩ := hkn
   obtain ⟨g, po, pn, pc, hao, _, hp, hcp⟩ := (HP.out.1.below HS.out.1).at hk1; obtain ⟨g2, yo, yn, yc, hbo, _, hy, hcy⟩ := (HP.out.2.1.below HS.out.1).at hk2; subst hao; subst hbo
   have hkl : k < ls.length := by rw [HPL.out.1]; exact hk1
   have hkm2 : k < ms.length := by rw [HPL.out.2]; exact hk2
   obtain ⟨p, hpp⟩ : ∃ p, ls.getD k [] = p := ⟨_, rfl⟩; obtain ⟨q, hqq⟩ : ∃ q, ms.getD k [] = q := ⟨_, rfl⟩
   have hpf : fall p := HP.out.2.2.1 p (by rw [← hpp]; exact getD_in [] hkl)
   have hqf : fall q := HP.out.2.2.2 q (by rw [← hqq]; exact getD_in [] hkm2)
   obtain ⟨c1, hc1⟩ : ∃ c, clsP p = c := ⟨_, rfl⟩; obtain ⟨d1, hd1⟩ : ∃ d, degP p c1 = d := ⟨_, rfl⟩; obtain ⟨c2, hc2⟩ : ∃ c, clsP q = c := ⟨_, rfl⟩; obtain ⟨d2, hd2⟩ : ∃ d, degP q c2 = d := ⟨_, rfl⟩
   have hd := difL_drop (l := ls.map rkP) (m := ms.map rkP) (k := k) (by rw [List.length_map]; exact hkl) (by rw [List.length_map]; exact hkm2)
   have e1 : rkP p = (c1, d1) := by rw [← hd1, ← hc1]; rfl
   have e2 : rkP q = (c2, d2) := by rw [← hd2, ← hc2]; rfl
   have e3 : (ls.map rkP)[k]'(by rw [List.length_map]; exact hkl) = (c1, d1) := by rw [List.getElem_map, ← getD_of [] hkl, hpp, e1]
   have e4 : (ms.map rkP)[k]'(by rw [List.length_map]; exact hkm2) = (c2, d2) := by rw [List.getElem_map, ← getD_of [] hkm2, hqq, e2]
   rw [HS.out.2, e3, e4] at hd; rw [hpp] at hp
   rw [hqq] at hy; have HD := hid hd
   have HX : Hid (Pz K wr po pn pc p ∧ fall p ∧ clsP p = c1 ∧ degP p c1 = d1) := ⟨hp, hpf, hc1, hd1⟩
   have HY : Hid (Pz K wr yo yn yc q ∧ fall q ∧ clsP q = c2 ∧ degP q c2 = d2) := ⟨hy, hqf, hc2, hd2⟩
   have HC := hid (And.intro hcp hcy); have HSB := hid (Below.refl wr.heap.size wr)
   have hki : (k : Int) < (n : Int) := by omega
   have hki2 : (k : Int) < (m : Int) := by omega
   have H3 : (ltRk (c1, d1) (c2, d2) = true ∧ ltRk (c2, d2) (c1, d1) = false ∧ cmpRk (c1, d1) (c2, d2) = -1) ∨ (ltRk (c1, d1) (c2, d2) = false ∧ ltRk (c2, d2) (c1, d1) = true ∧ cmpRk (c1, d1) (c2, d2) = 1) ∨ (ltRk (c1, d1) (c2, d2) = false ∧ ltRk (c2, d2) (c1, d1) = false ∧ cmpRk (c1, d1) (c2, d2) = 0) := by
    rcases cmpRk_is (c1, d1) (c2, d2) with ⟨h, e⟩ | ⟨h, e⟩ | ⟨_, h, h2, e⟩
    ·exact .inl ⟨h, lt_asym h, e⟩
    ·exact .inr (.inl ⟨lt_asym h, h, e⟩)
    ·exact .inr (.inr ⟨h, h2, e⟩)
   clear hp hy hpf hqf hc1 hd1 hc2 hd2 hd e1 e2 e3 e4 hpp hqq hcp hcy hkl hkm2
   rcases H3 with ⟨k1, k2, k3⟩ | ⟨k1, k2, k3⟩ | ⟨k1, k2, k3⟩
   ·have HZ1 : Hid (z = -1) := by
     rw [Hid, ← HZ.out]; have h := HD.out
     rw [k3, if_neg (by omega)] at h
     rw [if_neg (by omega)]
     exact h
    have h1 := hid k1; have h2 := hid k2; clear k1 k2; clear k3
    go_upto_region 4 with (fail)
    refine wp_region_held_drew (S := fun w' => w'.cell? ⟨g, k, none⟩ = some (.slice po pn pc) ∧ w'.cell? ⟨g2, k, none⟩ = some (.slice yo yn yc)) (by kernel_rfl) ⟨HC.out.1 _ HSB.out.drew, HC.out.2 _ HSB.out.drew⟩ (fun hH => ?_)
    refine anyH_world (fun w11 hW => ?_)
    have W_11 : Hid (Below wr.heap.size wr w11) := by rw [hW]; exact HSB.out.drew
    rw [← hW] at hH; clear hW
    refine son 0 hH ?_; try simp only [nrm]
    refine son 1 hH ?_; try simp only [nrm]
    refine son 2 hH ?_; try simp only [nrm]
    refine son 3 hH ?_; try simp only [nrm]
    refine son 5 hH ?_; try simp only [nrm]
    refine son 6 hH ?_; try simp only [nrm]
    refine son 7 hH ?_; try simp only [nrm]
    refine son 8 hH ?_; try simp only [nrm]
    refine step_one 4 rfl (by kernel_rfl) (fun KK hK => ?_)
    go_simp; refine (rrof_any c1 d1 (HX.out.1.below W_11.out) HX.out.2.1 HX.out.2.2.1 HX.out.2.2.2).mono ?_
    rintro e w12 ⟨rfl, hB⟩; have W_12 := hid (Below.steps W_11.out hB); clear hB; go_wp2_with fail
    clear hH; refine hK.out _ _ ⟨HC.out.1 _ W_12.out, HC.out.2 _ W_12.out⟩ fun hH => ?_; clear hK KK
    try simp only [nrm]
    refine step_one 9 rfl (by kernel_rfl) (fun KK hK => ?_)
    go_simp; refine (rrof_any c2 d2 (HY.out.1.below W_12.out) HY.out.2.1 HY.out.2.2.1 HY.out.2.2.2).mono ?_
    rintro e w13 ⟨rfl, hB⟩; have W_13 := hid (Below.steps W_12.out hB); clear hB; go_wp2_with fail
    clear hH; refine hK.out _ _ ⟨HC.out.1 _ W_13.out, HC.out.2 _ W_13.out⟩ fun hH => ?_; clear hK KK
    try simp only [nrm]
    refine step_one 10 rfl (by kernel_rfl) (fun KK hK => ?_)
    go_simp; refine (rless_any c1 d1 c2 d2 true h1.out).mono ?_
    rintro e w14 ⟨rfl, hB⟩; have W_14 := hid (Below.steps W_13.out hB); clear hB; go_wp2_with fail
    clear hH; refine hK.out _ _ ⟨HC.out.1 _ W_14.out, HC.out.2 _ W_14.out⟩ fun hH => ?_; clear hK KK
    try simp only [nrm]
    refine wpAnyH_done (by kernel_rfl) ?_ _
    go_wp2_with fail
    go_ret
    rw [HZ1.out]
    exact ⟨rfl, Below.steps HS.out.1 W_14.out⟩
   ·have HZ1 : Hid (z = 1) := by
     rw [Hid, ← HZ.out]; have h := HD.out
     rw [k3, if_neg (by omega)] at h
     rw [if_neg (by omega)]
     exact h
    have h1 := hid k1; have h2 := hid k2; clear k1 k2; clear k3
    go_upto_region 4 with (fail)
    refine wp_region_held_drew (S := fun w' => w'.cell? ⟨g, k, none⟩ = some (.slice po pn pc) ∧ w'.cell? ⟨g2, k, none⟩ = some (.slice yo yn yc)) (by kernel_rfl) ⟨HC.out.1 _ HSB.out.drew, HC.out.2 _ HSB.out.drew⟩ (fun hH => ?_)
    refine anyH_world (fun w11 hW => ?_)
    have W_11 : Hid (Below wr.heap.size wr w11) := by rw [hW]; exact HSB.out.drew
    rw [← hW] at hH; clear hW
    refine son 0 hH ?_; try simp only [nrm]
    refine son 1 hH ?_; try simp only [nrm]
    refine son 2 hH ?_; try simp only [nrm]
    refine son 3 hH ?_; try simp only [nrm]
    refine son 5 hH ?_; try simp only [nrm]
    refine son 6 hH ?_; try simp only [nrm]
    refine son 7 hH ?_; try simp only [nrm]
    refine son 8 hH ?_; try simp only [nrm]
    refine step_one 4 rfl (by kernel_rfl) (fun KK hK => ?_)
    go_simp; refine (rrof_any c1 d1 (HX.out.1.below W_11.out) HX.out.2.1 HX.out.2.2.1 HX.out.2.2.2).mono ?_
    rintro e w12 ⟨rfl, hB⟩; have W_12 := hid (Below.steps W_11.out hB); clear hB; go_wp2_with fail
    clear hH; refine hK.out _ _ ⟨HC.out.1 _ W_12.out, HC.out.2 _ W_12.out⟩ fun hH => ?_; clear hK KK
    try simp only [nrm]
    refine step_one 9 rfl (by kernel_rfl) (fun KK hK => ?_)
    go_simp; refine (rrof_any c2 d2 (HY.out.1.below W_12.out) HY.out.2.1 HY.out.2.2.1 HY.out.2.2.2).mono ?_
    rintro e w13 ⟨rfl, hB⟩; have W_13 := hid (Below.steps W_12.out hB); clear hB; go_wp2_with fail
    clear hH; refine hK.out _ _ ⟨HC.out.1 _ W_13.out, HC.out.2 _ W_13.out⟩ fun hH => ?_; clear hK KK
    try simp only [nrm]
    refine step_one 10 rfl (by kernel_rfl) (fun KK hK => ?_)
    go_simp; refine (rless_any c1 d1 c2 d2 false h1.out).mono ?_
    rintro e w14 ⟨rfl, hB⟩; have W_14 := hid (Below.steps W_13.out hB); clear hB; go_wp2_with fail
    clear hH; refine hK.out _ _ ⟨HC.out.1 _ W_14.out, HC.out.2 _ W_14.out⟩ fun hH => ?_; clear hK KK
    try simp only [nrm]
    refine wpAnyH_done (by kernel_rfl) ?_ _
    go_wp2_with fail
    go_upto_region 6 with (fail)
    refine wp_region_held_drew (S := fun w' => w'.cell? ⟨g, k, none⟩ = some (.slice po pn pc) ∧ w'.cell? ⟨g2, k, none⟩ = some (.slice yo yn yc)) (by kernel_rfl) ⟨HC.out.1 _ W_14.out.drew, HC.out.2 _ W_14.out.drew⟩ (fun hH => ?_)
    refine anyH_world (fun w15 hW => ?_)
    have W_15 : Hid (Below wr.heap.size wr w15) := by rw [hW]; exact W_14.out.drew
    rw [← hW] at hH; clear hW
    refine son 0 hH ?_; try simp only [nrm]
    refine son 1 hH ?_; try simp only [nrm]
    refine son 2 hH ?_; try simp only [nrm]
    refine son 3 hH ?_; try simp only [nrm]
    refine son 5 hH ?_; try simp only [nrm]
    refine son 6 hH ?_; try simp only [nrm]
    refine son 7 hH ?_; try simp only [nrm]
    refine son 8 hH ?_; try simp only [nrm]
    refine step_one 4 rfl (by kernel_rfl) (fun KK hK => ?_)
    go_simp; refine (rrof_any c2 d2 (HY.out.1.below W_15.out) HY.out.2.1 HY.out.2.2.1 HY.out.2.2.2).mono ?_
    rintro e w16 ⟨rfl, hB⟩; have W_16 := hid (Below.steps W_15.out hB); clear hB; go_wp2_with fail
    clear hH; refine hK.out _ _ ⟨HC.out.1 _ W_16.out, HC.out.2 _ W_16.out⟩ fun hH => ?_; clear hK KK
    try simp only [nrm]
    refine step_one 9 rfl (by kernel_rfl) (fun KK hK => ?_)
    go_simp; refine (rrof_any c1 d1 (HX.out.1.below W_16.out) HX.out.2.1 HX.out.2.2.1 HX.out.2.2.2).mono ?_
    rintro e w17 ⟨rfl, hB⟩; have W_17 := hid (Below.steps W_16.out hB); clear hB; go_wp2_with fail
    clear hH; refine hK.out _ _ ⟨HC.out.1 _ W_17.out, HC.out.2 _ W_17.out⟩ fun hH => ?_; clear hK KK
    try simp only [nrm]
    refine step_one 10 rfl (by kernel_rfl) (fun KK hK => ?_)
    go_simp; refine (rless_any c2 d2 c1 d1 true h2.out).mono ?_
    rintro e w18 ⟨rfl, hB⟩; have W_18 := hid (Below.steps W_17.out hB); clear hB; go_wp2_with fail
    clear hH; refine hK.out _ _ ⟨HC.out.1 _ W_18.out, HC.out.2 _ W_18.out⟩ fun hH => ?_; clear hK KK
    try simp only [nrm]
    refine wpAnyH_done (by kernel_rfl) ?_ _
    go_wp2_with fail
    go_ret
    rw [HZ1.out]
    exact ⟨rfl, Below.steps HS.out.1 W_18.out⟩
   ·have HN : Hid (difL ((ls.map rkP).drop (k + 1)) ((ms.map rkP).drop (k + 1)) = x) := by
     have h := HD.out; rw [k3, if_pos rfl] at h
     exact h.symm
    have h1 := hid k1; have h2 := hid k2; clear k1 k2; clear k3
    go_upto_region 4 with (fail)
    refine wp_region_held_drew (S := fun w' => w'.cell? ⟨g, k, none⟩ = some (.slice po pn pc) ∧ w'.cell? ⟨g2, k, none⟩ = some (.slice yo yn yc)) (by kernel_rfl) ⟨HC.out.1 _ HSB.out.drew, HC.out.2 _ HSB.out.drew⟩ (fun hH => ?_)
    refine anyH_world (fun w11 hW => ?_)
    have W_11 : Hid (Below wr.heap.size wr w11) := by rw [hW]; exact HSB.out.drew
    rw [← hW] at hH; clear hW
    refine son 0 hH ?_; try simp only [nrm]
    refine son 1 hH ?_; try simp only [nrm]
    refine son 2 hH ?_; try simp only [nrm]
    refine son 3 hH ?_; try simp only [nrm]
    refine son 5 hH ?_; try simp only [nrm]
    refine son 6 hH ?_; try simp only [nrm]
    refine son 7 hH ?_; try simp only [nrm]
    refine son 8 hH ?_; try simp only [nrm]
    refine step_one 4 rfl (by kernel_rfl) (fun KK hK => ?_)
    go_simp; refine (rrof_any c1 d1 (HX.out.1.below W_11.out) HX.out.2.1 HX.out.2.2.1 HX.out.2.2.2).mono ?_
    rintro e w12 ⟨rfl, hB⟩; have W_12 := hid (Below.steps W_11.out hB); clear hB; go_wp2_with fail
    clear hH; refine hK.out _ _ ⟨HC.out.1 _ W_12.out, HC.out.2 _ W_12.out⟩ fun hH => ?_; clear hK KK
    try simp only [nrm]
    refine step_one 9 rfl (by kernel_rfl) (fun KK hK => ?_)
    go_simp; refine (rrof_any c2 d2 (HY.out.1.below W_12.out) HY.out.2.1 HY.out.2.2.1 HY.out.2.2.2).mono ?_
    rintro e w13 ⟨rfl, hB⟩; have W_13 := hid (Below.steps W_12.out hB); clear hB; go_wp2_with fail
    clear hH; refine hK.out _ _ ⟨HC.out.1 _ W_13.out, HC.out.2 _ W_13.out⟩ fun hH => ?_; clear hK KK
    try simp only [nrm]
    refine step_one 10 rfl (by kernel_rfl) (fun KK hK => ?_)
    go_simp; refine (rless_any c1 d1 c2 d2 false h1.out).mono ?_
    rintro e w14 ⟨rfl, hB⟩; have W_14 := hid (Below.steps W_13.out hB); clear hB; go_wp2_with fail
    clear hH; refine hK.out _ _ ⟨HC.out.1 _ W_14.out, HC.out.2 _ W_14.out⟩ fun hH => ?_; clear hK KK
    try simp only [nrm]
    refine wpAnyH_done (by kernel_rfl) ?_ _
    go_wp2_with fail
    go_upto_region 6 with (fail)
    refine wp_region_held_drew (S := fun w' => w'.cell? ⟨g, k, none⟩ = some (.slice po pn pc) ∧ w'.cell? ⟨g2, k, none⟩ = some (.slice yo yn yc)) (by kernel_rfl) ⟨HC.out.1 _ W_14.out.drew, HC.out.2 _ W_14.out.drew⟩ (fun hH => ?_)
    refine anyH_world (fun w15 hW => ?_)
    have W_15 : Hid (Below wr.heap.size wr w15) := by rw [hW]; exact W_14.out.drew
    rw [← hW] at hH; clear hW
    refine son 0 hH ?_; try simp only [nrm]
    refine son 1 hH ?_; try simp only [nrm]
    refine son 2 hH ?_; try simp only [nrm]
    refine son 3 hH ?_; try simp only [nrm]
    refine son 5 hH ?_; try simp only [nrm]
    refine son 6 hH ?_; try simp only [nrm]
    refine son 7 hH ?_; try simp only [nrm]
    refine son 8 hH ?_; try simp only [nrm]
    refine step_one 4 rfl (by kernel_rfl) (fun KK hK => ?_)
    go_simp; refine (rrof_any c2 d2 (HY.out.1.below W_15.out) HY.out.2.1 HY.out.2.2.1 HY.out.2.2.2).mono ?_
    rintro e w16 ⟨rfl, hB⟩; have W_16 := hid (Below.steps W_15.out hB); clear hB; go_wp2_with fail
    clear hH; refine hK.out _ _ ⟨HC.out.1 _ W_16.out, HC.out.2 _ W_16.out⟩ fun hH => ?_; clear hK KK
    try simp only [nrm]
    refine step_one 9 rfl (by kernel_rfl) (fun KK hK => ?_)
    go_simp; refine (rrof_any c1 d1 (HX.out.1.below W_16.out) HX.out.2.1 HX.out.2.2.1 HX.out.2.2.2).mono ?_
    rintro e w17 ⟨rfl, hB⟩; have W_17 := hid (Below.steps W_16.out hB); clear hB; go_wp2_with fail
    clear hH; refine hK.out _ _ ⟨HC.out.1 _ W_17.out, HC.out.2 _ W_17.out⟩ fun hH => ?_; clear hK KK
    try simp only [nrm]
    refine step_one 10 rfl (by kernel_rfl) (fun KK hK => ?_)
    go_simp; refine (rless_any c2 d2 c1 d1 false h2.out).mono ?_
    rintro e w18 ⟨rfl, hB⟩; have W_18 := hid (Below.steps W_17.out hB); clear hB; go_wp2_with fail
    clear hH; refine hK.out _ _ ⟨HC.out.1 _ W_18.out, HC.out.2 _ W_18.out⟩ fun hH => ?_; clear hK KK
    try simp only [nrm]
    refine wpAnyH_done (by kernel_rfl) ?_ _
    go_wp2_with fail
    go_roundw
    case rel => exact ⟨k + 1, by go_num, by omega, by omega, Below.steps HS.out.1 W_18.out, HN.out⟩
    case measure => simp [intOf]; omega
  ·have HN : Hid (cmpI m n = z) := by
    have h := HS.out.2
    rw [difL_end (by rw [List.length_map, List.length_map, HPL.out.1, HPL.out.2]; omega)] at h
    rw [Hid, ← HZ.out, if_pos h.symm]
   have HB := hid HS.out.1
   have hkd : (k : Int) < (n : Int) → ¬ (k : Int) < (m : Int) := by omega
   clear HS
   rcases cmpI_is m n with ⟨h, e⟩ | ⟨h, e⟩ | ⟨h, e⟩
   ·have h1 : (m : Int) < (n : Int) := h
    have h2 : ¬ (n : Int) < (m : Int) := by omega
    have hkm3 : (k : Int) < (n : Int) := by omega
    have hkm4 : ¬ (k : Int) < (m : Int) := hkd hkm3
    have HE : Hid (z = -1) := by rw [Hid, ← HN.out, e]
    clear h e
    go_wp2
    go_ret
    rw [HE.out]
    exact ⟨rfl, HB.out⟩
   ·have h1 : ¬ (m : Int) < (n : Int) := by omega
    have h2 : (n : Int) < (m : Int) := h
    have hkm3 : ¬ (k : Int) < (n : Int) := fun hh => by have := hkd hh; omega
    have HE : Hid (z = 1) := by rw [Hid, ← HN.out, e]
    clear h e
    go_wp2
    go_ret
    rw [HE.out]
    exact ⟨rfl, HB.out⟩
   ·have h1 : ¬ (m : Int) < (n : Int) := by omega
    have h2 : ¬ (n : Int) < (m : Int) := by omega
    have hkm3 : ¬ (k : Int) < (n : Int) := fun hh => by have := hkd hh; omega
    have HE : Hid (z = 0) := by rw [Hid, ← HN.out, e]
    clear h e
    go_wp2
    go_ret
    rw [HE.out]
    exact ⟨rfl, HB.out⟩
end Go.Proofs.YtmmgipcacceakaaGreat

/-
  The contract of view.Coefficients.
-/
import Derived.Test.YtdgpnfjohijpeaaGreatVPile
import Derived.Test.YtdgpnfjohijpeaaGreatVBuild
set_option maxHeartbeats 40000000
set_option maxRecDepth 100000
namespace Go.Proofs.YtdgpnfjohijpeaaGreat
open Lib (hid)
open Go.RowKit
def filtP (p : List Term) (v e : Int) : List Term := p.filter fun t => expo t.2 v == e
def colK (p : List Term) (v : Int) (d k : Nat) : List (List Term) := (List.range (d + 1)).map fun e => filtP (p.take k) v (e : Nat)
def colJ (p : List Term) (v : Int) (d j : Nat) : List (List Term) := (List.range (d + 1)).map fun e => if e < j then coefP p v (e : Nat) else filtP p v (e : Nat)
theorem colK_zero (p : List Term) (v : Int) (d : Nat) : colK p v d 0 = List.replicate (d + 1) [] := by
 unfold colK filtP
 apply List.ext_getElem
 ·simp
 ·intro i h1 h2
  simp
theorem colK_get {p : List Term} {v : Int} {d k e : Nat} (h : e < d + 1) : (colK p v d k).getD e [] = filtP (p.take k) v (e : Nat) := by
 unfold colK
 simp [List.getD, h]
theorem colK_next {p : List Term} {v : Int} {d k e : Nat} {t : Term} (hk : k < p.length) (he : expo (p[k]).2 v = e) (ht : t = p.getD k (0, [])) : colK p v d (k + 1) = (colK p v d k).set e (filtP (p.take k) v e ++ [t]) := by
 have ht2 : p[k] = t := by rw [ht]; simp [List.getD, hk]
 unfold colK filtP
 apply List.ext_getElem
 ·simp
 ·intro i h1 h2
  rw [List.getElem_set]
  simp only [List.getElem_map, List.getElem_range, List.take_succ_eq_append_getElem hk, List.filter_append]
  by_cases hie : e = i
  ·subst hie
   rw [if_pos rfl, ht2]; rw [ht2] at he
   simp [he]
  ·rw [if_neg hie]
   have : (expo (p[k]).2 v == (i : Int)) = false := by rw [he]; simp; omega
   simp [this]
theorem colJ_zero (p : List Term) (v : Int) (d : Nat) : colJ p v d 0 = colK p v d p.length := by
 unfold colJ colK
 simp
theorem colJ_get {p : List Term} {v : Int} {d j : Nat} (h : j < d + 1) : (colJ p v d j).getD j [] = filtP p v (j : Nat) := by
 unfold colJ
 simp [List.getD, h]
theorem colJ_next {p : List Term} {v : Int} {d j : Nat} : colJ p v d (j + 1) = (colJ p v d j).set j (coefP p v (j : Nat)) := by
 unfold colJ
 apply List.ext_getElem
 ·simp
 ·intro i h1 h2
  rw [List.getElem_set]
  simp only [List.getElem_map, List.getElem_range]
  by_cases hij : j = i
  ·subst hij; simp
  ·rw [if_neg hij]
   by_cases h3 : i < j
   ·rw [if_pos (by omega), if_pos h3]
   ·rw [if_neg (by omega), if_neg h3]
theorem coef_filt (p : List Term) (v e : Int) : coefP (filtP p v e) v e = coefP p v e := by
 unfold coefP filtP
 rw [List.filter_filter]
 simp
theorem fall_tk : ∀ {p : List Term}, fall p → ∀ k, fall (p.take k)
 | [], _, k => by simp [fall]
 | t :: r, h, 0 => trivial
 | t :: r, h, k + 1 => by
  have ih := fall_tk h.2.2.2 k
  exact ⟨h.1, h.2.1, fun s hs => h.2.2.1 s (List.mem_of_mem_take hs), ih⟩
theorem Pile.fz {B K : Nat} {w : World} {g n cap : Nat} {X : List (List Value)} {ps : List (List Term)} (h : Pile B K w (some ⟨g, 0, none⟩) n cap X ps) (j : Nat) : w.frozen? ⟨g, j, none⟩ = false := by
 rcases h.row.parts with ⟨h1, _⟩ | ⟨g', cur, h1, _, _, _, hh⟩
 ·cases h1
 ·cases h1
  simp [World.frozen?, hh]
theorem Pile.monoB {B B' K : Nat} {w : World} {ao : Option Addr} {n cap : Nat} {X : List (List Value)} {ps : List (List Term)} (h : Pile B K w ao n cap X ps) (hB : B' ≤ B) : Pile B' K w ao n cap X ps :=
 ⟨h.row.mono hB, h.mem.imp fun _ _ ⟨ao, n, cap, h1, h2, h3⟩ => ⟨ao, n, cap, h1, h2.mono hB (Nat.le_refl _), h3⟩, h.apart⟩
theorem tms_lower {K K' : Nat} {w : World} : ∀ {X : List (List Value)} {p : List Term}, Tms (TmC K' w) X p → (∀ t ∈ p, Bd t.1 K) → Tms (TmC K w) X p
 | [], [], _, _ => trivial
 | _ :: _, t :: _, h, hb => ⟨by
  obtain ⟨m, ao, n, cap, bo, k, cb, h1, h2, h3, h4⟩ := h.1
  exact ⟨m, ao, n, cap, bo, k, cb, h1, h2, hb t (by simp), h4⟩, tms_lower h.2 fun s hs => hb s (by simp [hs])⟩
 | [], _ :: _, h, _ => h.elim
 | _ :: _, [], h, _ => h.elim
theorem Pw.lower {B K K' : Nat} {w : World} {ao : Option Addr} {n cap : Nat} {p : List Term} (h : Pw B K' w ao n cap p) (hb : ∀ t ∈ p, Bd t.1 K) : Pw B K w ao n cap p := by
 obtain ⟨X, h1, h2⟩ := h
 exact ⟨X, h1, tms_lower h2 hb⟩
theorem tms_bds {K : Nat} {w : World} : ∀ {X : List (List Value)} {p : List Term}, Tms (TmC K w) X p → ∀ t ∈ p, Bd t.1 K
 | _ :: _, s :: _, h, t, ht => by
  rcases List.mem_cons.1 ht with rfl | h1
  ·obtain ⟨m, ao, n, cap, bo, k, cb, _, _, h3, _⟩ := h.1
   exact h3
  ·exact tms_bds h.2 t h1
 | [], _ :: _, h, _, _ => h.elim
theorem Pc.bds {K : Nat} {w : World} {ao : Option Addr} {n cap : Nat} {p : List Term} (h : Pc K w ao n cap p) : ∀ t ∈ p, Bd t.1 K := by
 obtain ⟨X, h1, h2⟩ := h.ex
 exact tms_bds h2
theorem coef_bd {K : Nat} {p : List Term} (h : ∀ t ∈ p, Bd t.1 K) (v e : Int) : ∀ t ∈ coefP p v e, Bd t.1 K := fun t ht => by
 unfold coefP at ht
 obtain ⟨u, hu, rfl⟩ := List.mem_map.1 ht
 exact h u (List.mem_filter.1 hu).1
theorem Pile.row_ne {B K : Nat} {w : World} {g n cap : Nat} {X : List (List Value)} {ps : List (List Term)} (h : Pile B K w (some ⟨g, 0, none⟩) n cap X ps) {k : Nat} (hk : k < n) {po : Option Addr} {pn pc : Nat} (hx : X.getD k [] = [.slice po pn pc]) : ∀ r, blk po = some r → r ≠ g := fun r e e2 => by
 have hxm : X.getD k [] ∈ X := getD_in [] (by rw [h.len.1]; exact hk)
 obtain ⟨L, hL⟩ := at_mem h.mem _ hxm r (by rw [hx]; exact e)
 rcases h.row.parts with ⟨h1, _⟩ | ⟨g', cur, h1, _, _, _, hh⟩
 ·cases h1
 ·cases h1
  subst e2
  unfold AtN at hL
  rw [hh] at hL
  cases hL
theorem step_app {P : Program} {w : World} {ops : Array Oper} {o : Oper} {a : Act} {K : Act → World → Prop} {Q : Exit → Act → World → Prop} {E : Prop} (hg : o.guard = none) (s x : Operand) (t t2 : TypeId) (hop : o.op = Op.call { callee := Callee.builtin Builtin.append, args := #[s, x], argTypes := #[t, t2] })
  {u y v : Value} {w' : World} (hs : a.eval s = u) (hx : a.eval x = y) (hrun : (Builtin.append_ #[t, t2] o.type #[u, y]).run P w = .ok v w') (hK : K (a.put o.dst v) w') : if Region.wanted o (yielded ops a.tmps) = true then Oper.wp P o a w K Q else E := by
 have hw : Region.wanted o (yielded ops a.tmps) = true := by simp [Region.wanted, hg]
 rw [if_pos hw]
 unfold Oper.wp
 simp [execOp, hop, resolve, invoke, builtin, hs, hx, hrun, Result.andThen]
 exact hK
def NewPile (K : Nat) (w : World) (n : Nat) (ls : List (List Term)) (e : Ending) (w' : World) : Prop := ∃ ro rc X, e = .returned (.slice ro n rc) ∧ Pile w.heap.size K w' ro n rc X ls ∧ Below w.heap.size w w'
theorem vCoefs_any {K : Nat} {ao : Option Addr} {n cap : Nat} {ps : List Raw} {w : World} (v : Int) (hv : 1 ≤ v ∧ v ≤ 200) (hp : Pr w ao n cap ps) (hl : ∀ t ∈ ps, t.1.2.length ≤ K) (hn : n ≤ 100000) (hK : K ≤ 1000) (h0 : plnR ps ≠ []) (d : Nat) (hd : degP (plnR ps) v = d) :
  Calls Tryz.prog 14 #[.slice ao n cap, .int .i64 v] w (NewPile K w (d + 1) (colJ (plnR ps) v d (d + 1))) := by
 obtain ⟨i0, hi, hz0, hz1, hz2⟩ := info_parts Tryz.info_poly
 have hd4 : d ≤ 10000 := by have := degP_le (fall_mays (pln_fall hp.wfs)) v; omega
 have hwd : IntKind.i64.wrap ((d : Int) + 1) = (d : Int) + 1 := IntWalk.i64_in _ ⟨by omega, by omega⟩
 have hmk : ∀ W : World, (Instr.makeSlice 24 (.int .i64 ((d : Int) + 1)) (.int .i64 ((d : Int) + 1))).run Tryz.prog W = .ok (.slice (some ⟨W.heap.size, 0, none⟩) (d + 1) (d + 1)) (W.alloc (.cells (List.replicate (d + 1) (Value.slice none 0 0)).toArray 23)) := by
  intro W
  have h := run_make (P := Tryz.prog) W 24 23 i0 _ Tryz.underlying24 hi hz0 .i64 .i64 ((d + 1 : Nat) : Int) ((d + 1 : Nat) : Int) (by omega) (by omega) (by rw [hz2]; omega) (by omega)
  have e0 : (Instr.makeSlice 24 (.int .i64 ((d : Int) + 1)) (.int .i64 ((d : Int) + 1))).run Tryz.prog W = (Instr.makeSlice 24 (.int .i64 ((d + 1 : Nat) : Int)) (.int .i64 ((d + 1 : Nat) : Int))).run Tryz.prog W := rfl
  rw [e0, h, hz1]
  simp
  have e : madeCells (Value.slice none 0 0).cells (d + 1) = Array.replicate (d + 1) (Value.slice none 0 0) := Array.toList_inj.1 (by rw [show (Value.slice none 0 0).cells = #[Value.slice none 0 0] from rfl, toList_madeCells_one]; simp)
  rw [e]
 have hfl := pln_fall hp.wfs; have HL := hid hl; clear hi hz0 hz1 hz2
 go_enter Tryz.func14, Tryz.ntmps14
 go_wp2_with fail; refine (vorz_pc hp hl hK).mono ?_
 rintro e w1 ⟨bo, m, cb, rfl, hX, hmn, hB⟩; obtain ⟨p, hpp⟩ : ∃ p, plnR ps = p := ⟨_, rfl⟩; rw [hpp] at hX hfl h0 hd; rw [hpp]
 have hva : (decide (1 ≤ v) && decide (v ≤ 200)) = true := by simp [hv.1, hv.2]
 have hm0 : ((m : Int) == 0) = false := by have := hX.len; cases m with | zero => exact absurd (List.eq_nil_of_length_eq_zero this) h0 | succ m => simp; omega
 go_wp2_with fail; refine (isVar_any true v w1 hva).mono ?_
 rintro e w2 ⟨rfl, hB2⟩; have hf := fall_mays hfl; have hX2 := hX.below hB2; go_wp2_with fail; refine (vdegree_any v d hX2 hf hd).mono ?_; rintro e w3 ⟨rfl, hB3⟩; have HP := hid (hX2.below hB3); have HB3 := hid (Below.steps (Below.steps hB hB2) hB3); have HF := hid hfl; have HM := hid hf; have HD := hid hd
 have HPL : Hid (p.length = m) := hX.len
 have hmn2 : m ≤ 1000000 := by omega
 have HPP := hid hpp; clear hX hX2 hB hB2 hB3 hfl hf hd hpp hm0 hp hl HL h0; obtain ⟨g, hg⟩ : ∃ g, g = w3.heap.size := ⟨_, rfl⟩
 go_upto_region 6 with (fail)
 refine wp_world (fun W hW => ?_)
 rw [← hg]
 have HS0 : Hid (Pile g K W (some ⟨g, 0, none⟩) (d + 1) (d + 1) (List.replicate (d + 1) [.slice none 0 0]) (colK p v d 0) ∧ Below g w3 W) := by
  have hA : AtN W g (List.replicate (d + 1) (.slice none 0 0)) 23 := by rw [hW, hg]; exact AtN.new w3 _ _
  rw [colK_zero]
  exact ⟨pile_new hA (Nat.le_refl _) (by omega), by rw [hW, hg]; exact below_alloc _ _⟩
 have HG := hid hg
 have hgd : 0 < d + 1 := by omega
 clear hW hg; go_wp2_with fail
 go_loopw [29] (fun i wr => ∃ (k : Nat) (X : List (List Value)), i = .int .i64 k ∧ k ≤ m ∧ Hid (Pile g K wr (some ⟨g, 0, none⟩) (d + 1) (d + 1) X (colK p v d k) ∧ Below g w3 wr)) (fun i _ => m - (intOf i).toNat)
 case atStart => exact ⟨0, _, rfl, Nat.zero_le _, HS0.out⟩
 case round =>
  clear HS0; obtain ⟨k, X, rfl, hk, HS⟩ := hrel
  by_cases hkn : k < m
  ·obtain ⟨b, off, xm, xa, xn, xc, xp, xq, xr, hbo, hbl, hc, hCn, hBd, hMl⟩ := HP.out.at (k := k) hkn
   subst hbo
   have hbw : Below w3.heap.size w3 wr := by rw [← HG.out]; exact HS.out.2
   obtain ⟨c0, c1, c2⟩ := hc wr hbw
   have hkl : k < p.length := by rw [HPL.out]; exact hkn
   obtain ⟨t, ht⟩ : ∃ t, t = p.getD k (0, []) := ⟨_, rfl⟩; rw [← ht] at hCn hBd hMl
   have htp : t ∈ p := by rw [ht]; exact getD_in _ hkl
   have htm := HM.out t htp
   obtain ⟨e, he⟩ : ∃ e : Nat, expo t.2 v = e := ⟨(expo t.2 v).toNat, by have := (may_bd htm v).1; omega⟩
   have hed : e ≤ d := by have := degP_ge htp v; rw [HD.out, he] at this; omega
   have hpk : p[k] = t := by rw [ht]; simp [List.getD, hkl]
   have hnx : colK p v d (k + 1) = (colK p v d k).set e (filtP (p.take k) v e ++ [t]) := colK_next hkl (by rw [hpk]; exact he) ht
   have hfa : fall (filtP (p.take k) v e ++ [t]) := by
    have h := fall_filter (fun t => expo t.2 v == (e : Int)) (fall_tk HF.out (k + 1))
    rw [List.take_succ_eq_append_getElem hkl, List.filter_append, hpk] at h
    simpa [filtP, he] using h
   have hdg : exE t.2 v = e := by show expo (orM t.2) v = e; rw [orM_yes htm]; exact he
   have HT : Hid (∀ V, Below w3.heap.size w3 V → Cn V xm xa xn xc t.1 ∧ Ml V xp xq xr t.2) := fun V hV => ⟨hCn.below hV, hMl.below hV⟩
   have HBD := hid hBd; have HN := hid (And.intro hnx (And.intro hfa hdg))
   have hki : (k : Int) < (m : Int) := by omega
   clear hc hCn hBd hMl hbl ht htp htm he hpk hnx hfa hdg hkl
   go_upto_region 9 with (fail)
   refine wp_world (fun W1 hW => ?_)
   obtain ⟨b8, hb8⟩ : ∃ b8, b8 = wr.heap.size := ⟨_, rfl⟩
   have a1 : AtN W1 b8 [.bool xm, .slice xa xn xc, .slice xp xq xr] 53 ∧ Below wr.heap.size wr W1 := by rw [hW, hb8]; exact box1 wr [.bool xm, .slice xa xn xc, .slice xp xq xr] 53
   rw [← hb8]
   have hgw : g ≤ wr.heap.size := by rw [HG.out]; exact hbw.size
   have HS1 : Hid (Pile g K W1 (some ⟨g, 0, none⟩) (d + 1) (d + 1) X (colK p v d k) ∧ Below g w3 W1) := ⟨HS.out.1.below a1.2, HS.out.2.trans (a1.2.mono hgw)⟩
   have HA1 := hid a1.1
   have HX8 : Hid ((∀ vs ∈ X, blkV vs ≠ some b8) ∧ g < b8) := by
    refine ⟨fun vs hvs e => ?_, ?_⟩
    ·have := lt_mem HS.out.1.mem vs hvs b8 e; omega
    ·obtain ⟨g1, hg1, hlt, _⟩ := HS.out.1.get (k := 0) (by omega); cases hg1; omega
   obtain ⟨_, d1, _⟩ := HA1.out.c3; clear hW hb8 a1 c0 c1 c2 HS hbw hgw
   have HBV : Hid (∀ V : World, Below g w3 V → Below w3.heap.size w3 V) := fun V h => by rw [← HG.out]; exact h
   go_wp2_with fail; refine (degree_any (HT.out _ (HBV.out _ HS1.out.2)).2 v e HN.out.2.2).mono ?_
   rintro x w4 ⟨rfl, hB⟩
   have hgw : g ≤ W1.heap.size := by rw [HG.out]; exact HS1.out.2.size
   have HS2 : Hid (Pile g K w4 (some ⟨g, 0, none⟩) (d + 1) (d + 1) X (colK p v d k) ∧ Below g w3 w4) := ⟨HS1.out.1.below hB, HS1.out.2.trans (hB.mono hgw)⟩
   have HA2 := hid (HA1.out.below hB); clear hB HS1 HA1 d1 hgw
   go_upto_region 10 with (fail)
   refine wp_region_held_drew (S := fun w' => w'.cell? ⟨b8, 0, none⟩ = some (.bool xm) ∧ w'.cell? ⟨b8, 1, none⟩ = some (.slice xa xn xc) ∧ w'.cell? ⟨b8, 2, none⟩ = some (.slice xp xq xr)) (by kernel_rfl) (AtN.c3 (T := 53) (HA2.out.below (Below.refl _ _).drew)) (fun hH => ?_)
   refine anyH_world (fun V hW => ?_)
   have dr := (Below.refl w4.heap.size w4).drew
   have hgw : g ≤ w4.heap.size := by rw [HG.out]; exact HS2.out.2.size
   have HS3 : Hid (Pile g K V (some ⟨g, 0, none⟩) (d + 1) (d + 1) X (colK p v d k) ∧ Below g w3 V) := by rw [hW]; exact ⟨HS2.out.1.below dr, HS2.out.2.trans (dr.mono hgw)⟩
   have HA3 : Hid (AtN V b8 [.bool xm, .slice xa xn xc, .slice xp xq xr] 53) := by rw [hW]; exact HA2.out.below dr
   rw [← hW] at hH; clear dr HS2 HA2 hgw
   clear hW
   obtain ⟨g1, hg1, hglt, po, pn, pc, hxe, hce, hpe, hfe⟩ := HS3.out.1.get (k := e) (by omega)
   cases hg1
   rw [colK_get (by omega)] at hpe
   have HE := hid (And.intro hxe hpe)
   have hei : (0 : Int) ≤ (e : Int) := by omega
   have hei2 : (e : Int) < (d : Int) + 1 := by omega
   have HCE := hid hce; clear hxe hpe hfe
   refine son 0 hH ?_; try simp only [nrm]
   refine son 1 hH ?_; try simp only [nrm]
   refine son 2 hH ?_; try simp only [nrm]
   refine son 3 hH ?_; try simp only [nrm]
   refine son 4 hH ?_; try simp only [nrm]
   refine son 6 hH ?_; try simp only [nrm]
   have hgb : g ≤ V.heap.size := by rw [HG.out]; exact HS3.out.2.size
   have hpn : pn < 1000000 := by have h1 := HE.out.2.len; have h2 : (filtP (p.take k) v e).length ≤ (p.take k).length := List.length_filter_le _ _; rw [List.length_take] at h2; omega
   obtain ⟨v8, W8, hr8, hps⟩ := push_run (t := t) HE.out.2 hgb hpn (HT.out _ (HBV.out _ HS3.out.2)).1 HBD.out (HT.out _ (HBV.out _ HS3.out.2)).2 53 23; have HPU := hid hps; clear hps hpn
   have hal : Below V.heap.size V (V.alloc (.cells #[.bool xm, .slice xa xn xc, .slice xp xq xr] 53)) := below_alloc V (.cells #[.bool xm, .slice xa xn xc, .slice xp xq xr] 53)
   have hce2 : (V.alloc (.cells #[.bool xm, .slice xa xn xc, .slice xp xq xr] 53)).cell? ⟨g, e, none⟩ = some (.slice po pn pc) := by rw [hal.cell hglt]; exact hce
   refine wpAnyH_ready (rs := [5, 7]) (by kernel_rfl) (by simp) (ready_cons rfl (fun KK hK => ?_) (ready_cons rfl (fun KK hK => ?_) (AllReadyH.nil)))
   rotate_left
   go_simp
   clear hH; refine hK.out _ _ (AtN.c3 (T := 53) (HA3.out.below hal)) fun hH => ?_; clear hK KK
   try simp only [nrm]
   refine step_one 5 rfl (by kernel_rfl) (fun KK hK => ?_)
   go_simp
   clear hH; refine hK.out _ _ (AtN.c3 (T := 53) (HA3.out.below hal)) fun hH => ?_; clear hK KK
   try simp only [nrm]
   rotate_left
   go_simp
   clear hH; refine hK.out _ _ (AtN.c3 (T := 53) HA3.out) fun hH => ?_; clear hK KK
   try simp only [nrm]
   refine step_one 7 rfl (by kernel_rfl) (fun KK hK => ?_)
   go_simp
   clear hH; refine hK.out _ _ (AtN.c3 (T := 53) (HA3.out.below hal)) fun hH => ?_; clear hK KK
   try simp only [nrm]
   all_goals
    clear hce hce2 hal
    refine step_one 8 rfl (by kernel_rfl) (fun KK hK => ?_)
    refine step_app rfl (.tmp 42) (.tmp 44) _ _ rfl rfl rfl hr8 ?_
    clear hr8; obtain ⟨po8, pc8, rfl, hp1, hp2, hp3⟩ := HPU.out; clear HPU
    have hxm : X.getD e [] ∈ X := getD_in [] (by rw [HS3.out.1.len.1]; omega)
    have hbne : ∀ r, blk po = some r → r ≠ b8 := fun r h h2 => HX8.out.1 _ hxm (by rw [HE.out.1]; exact h2 ▸ h)
    have hgne : ∀ r, blk po = some r → r ≠ g := HS3.out.1.row_ne (by omega) HE.out.1
    have HA8 : Hid (AtN W8 b8 [.bool xm, .slice xa xn xc, .slice xp xq xr] 53) := HA3.out.stepG hp2 hbne
    have hgr : W8.heap[g]? = V.heap[g]? := hp2.block g hglt fun h => hgne g h.symm rfl
    have hce8 : W8.cell? ⟨g, e, none⟩ = some (.slice po pn pc) := by rw [World.cell?_of_block (w := V) hgr]; exact HCE.out
    have hfz8 : W8.frozen? ⟨g, e, none⟩ = false := by rw [World.frozen?_of_block (w := V) hgr]; exact HS3.out.1.fz e
    have HS9 : Hid (Pile g K (W8.setCell ⟨g, e, none⟩ (.slice po8 (pn + 1) pc8)) (some ⟨g, 0, none⟩) (d + 1) (d + 1) (X.set e [.slice po8 (pn + 1) pc8]) (colK p v d (k + 1)) ∧ Below g w3 (W8.setCell ⟨g, e, none⟩ (.slice po8 (pn + 1) pc8))) := by
     rw [HN.out.1]
     exact ⟨HS3.out.1.pushed (by omega) HE.out.1 hp1 HN.out.2.1 hp2 hp3, ((HS3.out.2.grown hp2 hgb fun r h => (HE.out.2.lt r h).1)).setCell (Nat.le_refl _) _⟩
    clear hp1 hp2 hp3 hxm hbne hgne hgr
    clear hH; refine hK.out _ _ (AtN.c3 (T := 53) HA8.out) fun hH => ?_; clear hK KK
    try simp only [nrm]
    refine son 9 hH ?_; try simp only [nrm]
    refine step_one 10 rfl (by kernel_rfl) (fun KK hK => ?_)
    go_simp
    clear hH; refine hK.out _ _ (AtN.c3 (T := 53) (HA8.out.keep (Below.heap_setCell _ _ _ _ (Nat.ne_of_gt HX8.out.2)))) fun hH => ?_; clear hK KK
    try simp only [nrm]
    refine wpAnyH_done (by kernel_rfl) ?_ _
    clear hH hce8 hfz8; go_wp2_with fail
    go_roundw
    case rel => exact ⟨k + 1, _, by go_num, by omega, HS9.out⟩
    case measure => simp [intOf]; omega
  ·obtain rfl : k = m := by omega
   have HS0 : Hid (Pile g K wr (some ⟨g, 0, none⟩) (d + 1) (d + 1) X (colJ p v d 0) ∧ Below g w3 wr) := by
    rw [colJ_zero, HPL.out]
    exact HS.out
   have HBK : Hid (∀ t ∈ p, Bd t.1 K) := HP.out.bds
   have HFF : Hid (∀ e : Int, fall (filtP p v e)) := fun e => fall_filter _ HF.out
   clear HS; go_wp2_with fail
   go_loopw [49] (fun i wr => ∃ (j : Nat) (X2 : List (List Value)), i = .int .i64 j ∧ j ≤ d + 1 ∧ Hid (Pile g K wr (some ⟨g, 0, none⟩) (d + 1) (d + 1) X2 (colJ p v d j) ∧ Below g w3 wr)) (fun i _ => d + 1 - (intOf i).toNat)
   case atStart => exact ⟨0, _, rfl, Nat.zero_le _, HS0.out⟩
   case round =>
    clear HS0; obtain ⟨j, X2, rfl, hj, HS⟩ := hrel
    by_cases hjd : j < d + 1
    ·have hji : (j : Int) < (d : Int) + 1 := by omega
     have hj0 : (0 : Int) ≤ (j : Int) := by omega
     obtain ⟨g1, hg1, hglt, po, pn, pc, hxe, hce, hpe, hfe⟩ := HS.out.1.get (k := j) hjd
     cases hg1
     rw [colJ_get hjd] at hpe
     have hpl : pn ≤ 1000000 := by have h1 := hpe.len; have h2 : (filtP p v j).length ≤ p.length := List.length_filter_le _ _; rw [HPL.out] at h2; omega
     have HE := hid (And.intro hxe hpe); have HCE := hid hce
     have hgw : g ≤ wr.heap.size := by rw [HG.out]; exact HS.out.2.size
     clear hxe hpe hfe; go_wp2_with fail
     refine (coef_any v j HE.out.2.pc (fall_mays (HFF.out j)) hpl (by omega)).mono ?_
     rintro x V2 ⟨ro, rn, rc, rfl, hR, hB⟩; rw [coef_filt] at hR; have hR2 := hR.lower (K := K) (coef_bd HBK.out v j); have hfc := coef_fall HF.out v j
     have HS9 : Hid (Pile g K (V2.setCell ⟨g, j, none⟩ (.slice ro rn rc)) (some ⟨g, 0, none⟩) (d + 1) (d + 1) (X2.set j [.slice ro rn rc]) (colJ p v d (j + 1)) ∧ Below g w3 (V2.setCell ⟨g, j, none⟩ (.slice ro rn rc))) := by
      rw [colJ_next]
      exact ⟨HS.out.1.pushed hjd HE.out.1 (hR2.mono hgw (Nat.le_refl _)) hfc (grown_below _ hB) (.inr fun g2 h => (hR.lt g2 h).1), (HS.out.2.trans (hB.mono hgw)).setCell (Nat.le_refl _) _⟩
     have hce8 : V2.cell? ⟨g, j, none⟩ = some (.slice po pn pc) := by rw [hB.cell hglt]; exact HCE.out
     have hfz8 : V2.frozen? ⟨g, j, none⟩ = false := (HS.out.1.below hB).fz j
     clear hR hR2 hB hfc hce HS; go_wp2_with fail
     go_roundw
     case rel => exact ⟨j + 1, _, by go_num, by omega, HS9.out⟩
     case measure => simp [intOf]; omega
    ·obtain rfl : j = d + 1 := by omega
     have HR : Hid (NewPile K w (d + 1) (colJ p v d (d + 1)) (.returned (.slice (some ⟨g, 0, none⟩) (d + 1) (d + 1))) wr) := ⟨_, _, X2, rfl, HS.out.1.monoB (by rw [HG.out]; exact HB3.out.size), HB3.out.trans (HS.out.2.mono (by rw [HG.out]; exact HB3.out.size))⟩
     clear HS; go_wp2_with fail
     go_ret
     rw [HPP.out]
     exact HR.out
end Go.Proofs.YtdgpnfjohijpeaaGreat

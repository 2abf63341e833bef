/- Tms, Tm, Put, PAdd, PTimes, PNeg, PSub, POf, PPoly, PRaw -/
import Derived.Test.YtmmgipcacceakaaGreatGl
import Derived.Test.YtmmgipcacceakaaGreatEn
import Derived.Test.YtmmgipcacceakaaGreatGPp
import Derived.Test.YtmmgipcacceakaaGreatGWZ2
import Derived.Test.YtmmgipcacceakaaGreatGM3
set_option maxHeartbeats 40000000
set_option maxRecDepth 100000
namespace Go.Proofs.YtmmgipcacceakaaGreat
open Go.RowKit
def Tms {α : Type} (R : List Value → α → Prop) : List (List Value) → List α → Prop
 | [], [] => True
 | v :: vs, a :: l => R v a ∧ Tms R vs l
 | _, _ => False
theorem Tms.len {α : Type} {R : List Value → α → Prop} : ∀ {vs : List (List Value)} {l : List α}, Tms R vs l → vs.length = l.length
 | [], [], _ => rfl
 | _ :: _, _ :: _, h => by simp [Tms.len h.2]
 | [], _ :: _, h => h.elim
 | _ :: _, [], h => h.elim
theorem Tms.imp {α : Type} {R S : List Value → α → Prop} (hRS : ∀ v a, R v a → S v a) : ∀ {vs : List (List Value)} {l : List α}, Tms R vs l → Tms S vs l
 | [], [], _ => trivial
 | _ :: _, _ :: _, h => ⟨hRS _ _ h.1, Tms.imp hRS h.2⟩
 | [], _ :: _, h => h.elim
 | _ :: _, [], h => h.elim
theorem Tms.get {α : Type} {R : List Value → α → Prop} (d : α) : ∀ {vs : List (List Value)} {l : List α}, Tms R vs l → ∀ t, t < l.length → R (vs.getD t []) (l.getD t d)
 | _ :: _, _ :: _, h, 0, _ => h.1
 | _ :: _, _ :: _, h, t + 1, ht => by
  have := Tms.get d h.2 t (by simpa using ht)
  simpa using this
 | [], [], _, _, ht => by simp at ht
 | [], _ :: _, h, _, _ => h.elim
 | _ :: _, [], h, _, _ => h.elim
theorem Tms.append {α : Type} {R : List Value → α → Prop} : ∀ {vs us : List (List Value)} {l k : List α}, Tms R vs l → Tms R us k → Tms R (vs ++ us) (l ++ k)
 | [], _, [], _, _, hk => hk
 | _ :: _, _, _ :: _, _, h, hk => ⟨h.1, Tms.append h.2 hk⟩
 | [], _, _ :: _, _, h, _ => h.elim
 | _ :: _, _, [], _, h, _ => h.elim
theorem Tms.take {α : Type} {R : List Value → α → Prop} : ∀ {vs : List (List Value)} {l : List α}, Tms R vs l → ∀ k, Tms R (vs.take k) (l.take k)
 | [], [], _, k => by simp [Tms]
 | _ :: _, _ :: _, _, 0 => by simp [Tms]
 | _ :: _, _ :: _, h, k + 1 => ⟨h.1, Tms.take h.2 k⟩
 | [], _ :: _, h, _ => h.elim
 | _ :: _, [], h, _ => h.elim
theorem Tms.drop {α : Type} {R : List Value → α → Prop} : ∀ {vs : List (List Value)} {l : List α}, Tms R vs l → ∀ k, Tms R (vs.drop k) (l.drop k)
 | [], [], _, k => by simp [Tms]
 | _ :: _, _ :: _, h, 0 => h
 | _ :: _, _ :: _, h, k + 1 => Tms.drop h.2 k
 | [], _ :: _, h, _ => h.elim
 | _ :: _, [], h, _ => h.elim
theorem tms_notInt {α : Type} {R : List Value → α → Prop} (hR : ∀ v a, R v a → ∀ u ∈ v, notInt u = true) : ∀ {vs : List (List Value)} {l : List α}, Tms R vs l → ∀ u ∈ vs.flatten, notInt u = true
 | [], [], _, u, hu => by simp at hu
 | v :: vs, a :: l, h, u, hu => by
  rw [List.flatten_cons] at hu
  rcases List.mem_append.1 hu with hu | hu
  ·exact hR v a h.1 u hu
  ·exact tms_notInt hR h.2 u hu
 | [], _ :: _, h, _, _ => h.elim
 | _ :: _, [], h, _, _ => h.elim
def TmZ [Ol] (K : Nat) (w : World) (vs : List Value) (t : Term) : Prop :=
 ∃ m ao n cap bo k cb, vs = [.bool m, .slice ao n cap, .slice bo k cb] ∧ Zd w m ao n cap t.1 ∧ Bd t.1 K ∧ Ml w bo k cb t.2
theorem TmZ.below [Ol] {K : Nat} {w w' : World} {vs : List Value} {t : Term} (h : TmZ K w vs t) (hb : Below w.heap.size w w') : TmZ K w' vs t := by
 obtain ⟨m, ao, n, cap, bo, k, cb, h1, h2, h3, h4⟩ := h
 exact ⟨m, ao, n, cap, bo, k, cb, h1, h2.below hb, h3, h4.below hb⟩
theorem TmZ.mono [Ol] {K L : Nat} {w : World} {vs : List Value} {t : Term} (h : TmZ K w vs t) (hk : K ≤ L) : TmZ L w vs t := by
 obtain ⟨m, ao, n, cap, bo, k, cb, h1, h2, h3, h4⟩ := h
 exact ⟨m, ao, n, cap, bo, k, cb, h1, h2, h3.mono hk, h4⟩
theorem Ml.stays [Ol] {B : Nat} {e : TypeId} {sz : Nat} {w w' : World} {ao : Option Addr} {n cap : Nat} {vss : List (List Value)} {bo : Option Addr} {k cb : Nat} {ps : List (Int × Int)} (h : Ml w bo k cb ps) (hO : Go1 B e sz w ao n cap vss) (hG : w.grownBy w' (Value.slice ao n cap).ownBlock) : Ml w' bo k cb ps :=
 ⟨h.len, h.le, h.big, h.wf, h.nil, fun ad had t ht => ⟨hO.stays hG (h.cells ad had t ht).1, hO.stays hG (h.cells ad had t ht).2⟩, fun h0 ad had => by
  obtain ⟨x, hx⟩ := h.int h0 had
  exact (h.kp h0 ad had).grown (h.blt h0 had) hG fun eq => (hO.cln _ eq.symm).far hx rfl⟩
theorem Zd.stays [Ol] {B : Nat} {e : TypeId} {sz : Nat} {w w' : World} {ao : Option Addr} {n cap : Nat} {vss : List (List Value)} {m : Bool} {bo : Option Addr} {k cb : Nat} {z : Int} (h : Zd w m bo k cb z) (hO : Go1 B e sz w ao n cap vss) (hG : w.grownBy w' (Value.slice ao n cap).ownBlock) : Zd w' m bo k cb z :=
 ⟨h.neg, h.sl.len, h.sl.le, h.sl.big, h.sl.wf, h.sl.nil, (fun ad had t ht => hO.stays hG (h.sl.cells ad had t ht)), fun h0 ad had => by
  obtain ⟨x, hx⟩ := h.sl.int h0 had
  exact (h.sl.kp h0 ad had).grown (h.sl.blt h0 had) hG fun eq => (hO.cln _ eq.symm).far hx rfl⟩
theorem TmZ.stays [Ol] {B : Nat} {e : TypeId} {sz : Nat} {w w' : World} {ao : Option Addr} {n cap : Nat} {vss : List (List Value)} {K : Nat} {vs : List Value} {t : Term} (h : TmZ K w vs t) (hO : Go1 B e sz w ao n cap vss) (hG : w.grownBy w' (Value.slice ao n cap).ownBlock) : TmZ K w' vs t := by
 obtain ⟨m, ao, n, cap, bo, k, cb, h1, h2, h3, h4⟩ := h
 exact ⟨m, ao, n, cap, bo, k, cb, h1, h2.stays hO hG, h3, h4.stays hO hG⟩
theorem tmZ_notInt [Ol] {K : Nat} {w : World} {vs : List Value} {t : Term} (h : TmZ K w vs t) : ∀ u ∈ vs, notInt u = true := by
 obtain ⟨m, ao, n, cap, bo, k, cb, rfl, _⟩ := h
 intro u hu
 simp at hu
 rcases hu with rfl | rfl | rfl <;> rfl
structure Pz [Ol] (K : Nat) (w : World) (ao : Option Addr) (n cap : Nat) (p : List Term) : Prop where
 ex : ∃ vss, Gl 3 w ao n cap vss ∧ Tms (TmZ K w) vss p
theorem Pz.len [Ol] {K : Nat} {w : World} {ao : Option Addr} {n cap : Nat} {p : List Term} (h : Pz K w ao n cap p) : p.length = n := by
 obtain ⟨vss, h1, h2⟩ := h.ex; rw [← h2.len, h1.len]
theorem Pz.le [Ol] {K : Nat} {w : World} {ao : Option Addr} {n cap : Nat} {p : List Term} (h : Pz K w ao n cap p) : n ≤ cap := by
 obtain ⟨vss, h1, h2⟩ := h.ex
 exact h1.le
theorem Pz.below [Ol] {K : Nat} {w w' : World} {ao : Option Addr} {n cap : Nat} {p : List Term} (h : Pz K w ao n cap p) (hb : Below w.heap.size w w') : Pz K w' ao n cap p := by
 obtain ⟨vss, h1, h2⟩ := h.ex
 exact ⟨vss, h1.below hb, h2.imp fun v a h => h.below hb⟩
theorem Pz.mono [Ol] {K L : Nat} {w : World} {ao : Option Addr} {n cap : Nat} {p : List Term} (h : Pz K w ao n cap p) (hk : K ≤ L) : Pz L w ao n cap p := by
 obtain ⟨vss, h1, h2⟩ := h.ex
 exact ⟨vss, h1, h2.imp fun v a h => h.mono hk⟩
theorem Pz.zero [Ol] (K : Nat) (w : World) : Pz K w none 0 0 [] := ⟨[], Gl.zero 3 w, trivial⟩
def NewPz [Ol] (K : Nat) (w : World) (p : List Term) (e : Ending) (w' : World) : Prop := ∃ ao n cap, e = .returned (.slice ao n cap) ∧ Pz K w' ao n cap p ∧ Below w.heap.size w w'
theorem Tryz.info_T : (Tryz.prog.info? 79).map (fun i => (i.zero, i.size, i.bytes)) = some (some (.agg #[.bool false, .slice none 0 0, .slice none 0 0]), 3, 56) := by kernel_rfl
theorem putT_parts (c : Int) (m : List (Int × Int)) : ∀ (p : List Term) (k : Nat), k ≤ p.length → (∀ t, t < k → 0 < cmpM (p.getD t (0, [])).2 m) →
  putT p c m = p.take k ++ putT (p.drop k) c m
 | _, 0, _, _ => by simp
 | t :: r, k + 1, hk, h => by
  have h0 : 0 < cmpM t.2 m := by simpa using h 0 (by omega)
  have ih := putT_parts c m r k (by simpa using hk) (fun j hj => by simpa using h (j + 1) (by omega))
  rw [List.take_succ_cons, List.drop_succ_cons, List.cons_append, ← ih]
  conv => lhs; unfold putT
  rw [if_pos h0]
 | [], k + 1, hk, _ => by simp at hk
open Lib (hid)
theorem zd_set2 [Ol] {w : World} {b : Nat} {vs : List Value} {T : TypeId} {m : Bool} {ao : Option Addr} {n cap : Nat} {z : Int} (hb : AtN w b vs T) (h : Zd w m ao n cap z) (u v : Value) (hv : ∀ x ∈ vs, notInt x = true) : Zd ((w.setCell ⟨b, 0, none⟩ u).setCell ⟨b, 1, none⟩ v) m ao n cap z := by
 have hcl : CleanB w b := fun cur T fr hh => by
  unfold AtN at hb
  rw [hb] at hh
  cases hh
  exact hv
 refine ⟨h.neg, h.sl.len, h.sl.le, h.sl.big, h.sl.wf, h.sl.nil, fun ad had t ht => ?_, fun h0 ad had => ?_⟩
 rotate_left
 ·obtain ⟨x, hx⟩ := h.sl.int h0 had
  have hne := hcl.far hx
  exact (h.sl.kp h0 ad had).keep ((Below.heap_setCell _ _ _ _ hne).trans (Below.heap_setCell _ _ _ _ hne))
 have hc := h.sl.cells ad had t ht; have hne := hcl.far hc
 exact (World.cell?_of_block ((Below.heap_setCell _ _ _ _ hne).trans (Below.heap_setCell _ _ _ _ hne))).trans hc
theorem put_any [Ol] {K : Nat} {ao zo mo : Option Addr} {n cap zn zc mn mc : Nat} {mz : Bool} {p : List Term} {c : Int} {m : List (Int × Int)} {w : World} (hp : Pz K w ao n cap p) (hz : Zd w mz zo zn zc c) (hbz : Bd c K) (hm : Ml w mo mn mc m)
  (hf : fall p) (hmm : mayM 0 m = true) (hn : n ≤ 2000000) (hK : K ≤ 9000) :
  Calls Tryz.prog 61 #[.slice ao n cap, .agg #[.bool mz, .slice zo zn zc], .slice mo mn mc] w (NewPz (K + 1) w (putT p c m)) := by
 obtain ⟨i0, hi, hz0, hz1, hz2⟩ := info_parts Tryz.info_T; obtain ⟨vss, hG, hT⟩ := hp.ex; have hle := hG.le; have hbig := hG.big; have hpl := hp.len; have HG := hid hG; have HT := hid hT; have HZ := hid hz; have HBZ := hid hbz; have HM := hid hm; have HF := hid hf; have HMM := hid hmm; have HPL := hid hpl; clear hp hz hbz hm hf hmm hG hT hpl
 go_enter Tryz.func61, Tryz.ntmps61
 go_upto_region 1 with (fail)
 refine wp_world (fun W hW => ?_)
 have HB : Hid (Below w.heap.size w W) := by rw [hW]; exact below_alloc _ _
 have HX : Hid (AtN W w.heap.size [.bool mz, .slice zo zn zc] 77) := by rw [hW]; exact AtN.new w [.bool mz, .slice zo zn zc] _
 clear hW
 go_wp2
 go_loopw [7, 8] (fun o i wr => ∃ (k cp : Nat) (oo : Option Addr), i = .int .i64 k ∧ o = .slice oo k cp ∧ k ≤ n ∧ Hid (∀ t, t < k → 0 < cmpM (p.getD t (0, [])).2 m) ∧ Hid (Go1 w.heap.size 79 3 wr oo k cp (vss.take k) ∧ AtN wr w.heap.size [.bool mz, .slice zo zn zc] 77 ∧ Below w.heap.size w wr)) (fun _ i _ => n - (intOf i).toNat)
 case atStart => exact ⟨0, 0, none, rfl, rfl, Nat.zero_le _, fun t ht => by omega, Go1.nil _ _ _ _, HX.out, HB.out⟩
 case round =>
  clear HX HB; obtain ⟨k, cp, oo, rfl, rfl, hk, HC, HS⟩ := hrel
  by_cases hkn : k < n
  ·obtain ⟨b, off, rfl, hb, hcl⟩ := HG.out.at (by omega)
   obtain ⟨tm, ta, tn, tc, ba, bn, bc, hv, tz, tb, tmm⟩ := Tms.get (0, []) HT.out k (by rw [HPL.out]; exact hkn)
   have hmay : mayM 0 (p.getD k (0, [])).2 = true := fall_may HF.out _ (by simp only [List.getD, List.getElem?_eq_getElem (show k < p.length by rw [HPL.out]; exact hkn), Option.getD_some]; exact List.getElem_mem _)
   have hcells : ∀ V : World, Below w.heap.size w V → V.cell? ⟨b, off + k * 3, none⟩ = some (.bool tm) ∧ V.cell? ⟨b, off + k * 3 + 1, none⟩ = some (.slice ta tn tc) ∧ V.cell? ⟨b, off + k * 3 + 2, none⟩ = some (.slice ba bn bc) := by
    intro V hV
    have h0 := hcl V hV k hkn 0 (by omega)
    have h1 := hcl V hV k hkn 1 (by omega)
    have h2 := hcl V hV k hkn 2 (by omega)
    rw [hv] at h0 h1 h2
    exact ⟨h0, h1, h2⟩
   have HV : Hid (vss.getD k [] = [.bool tm, .slice ta tn tc, .slice ba bn bc]) := hv
   have HCL := hid hcells; have HTZ := hid tz; have HTB := hid tb; have HTM := hid tmm; have HMY := hid hmay; clear hcl hv hcells tz tb tmm hmay; obtain ⟨z, hz⟩ : ∃ z, z = cmpM (p.getD k (0, [])).2 m := ⟨_, rfl⟩
   have HZC : Hid (IsCmp z (exE (p.getD k (0, [])).2) (exE m)) := by rw [hz, exE_yes HMY.out, exE_yes HMM.out]; exact cmpM_is HMY.out HMM.out
   have HZE := hid hz; clear hz; obtain ⟨c0, c1, c2⟩ := HCL.out _ HS.out.2.2; go_wp2_with fail; refine (compare7_any (HTM.out.below HS.out.2.2) (HM.out.below HS.out.2.2) z HZC.out).mono ?_; rintro e w2 ⟨rfl, hB⟩
   have HS2 : Hid (Go1 w.heap.size 79 3 w2 oo k cp (vss.take k) ∧ AtN w2 w.heap.size [.bool mz, .slice zo zn zc] 77 ∧ Below w.heap.size w w2) := ⟨HS.out.1.below hB, HS.out.2.1.below hB, Below.steps HS.out.2.2 hB⟩
   clear hB HS c0 c1 c2
   by_cases g : 0 < z
   ·have g1 : decide (0 < z) = true := decide_eq_true g
    have HGZ := hid g; clear g; obtain ⟨c0, c1, c2⟩ := HCL.out _ HS2.out.2.2
    have hk2 : k + 1 ≤ 2000001 := by omega
    go_wp2_with (at_builtin; refine wpList_pushG w2 w rfl (.tmp 23) (.tmp 28) 36 rfl w.heap.size 79 3 56 i0 (.agg #[.bool false, .slice none 0 0, .slice none 0 0]) Tryz.underlying36 hi hz0 hz1 hz2 rfl (by omega) oo k cp (vss.take k) rfl HS2.out.1 [.bool tm, .slice ta tn tc, .slice ba bn bc] rfl (by simp [Value.oneCell']) (by simp [Value.cells, notInt]) (by simp [notInt]) _ rfl HS2.out.2.2 HS2.out.2.2.size (by omega) (by omega) ?_; intro o2 cp2 w3 hO hB3 hG3; have HO := hid hO; have HB3 := hid hB3; have HX3 := hid ((HS2.out.2.1.below (below_alloc w2 _)).grown (HS2.out.1.below (below_alloc w2 _)) (by decide) hG3); clear hO hB3 hG3 c0 c1 c2)
    go_roundw
    case rel =>
     refine ⟨k + 1, cp2, o2, by go_num, rfl, by omega, fun t ht => ?_, ?_, HX3.out, HB3.out⟩
     ·by_cases h : t < k
      ·exact HC.out t h
      ·obtain rfl : t = k := by omega
       rw [← HZE.out]; exact HGZ.out
     ·have e : vss.take (k + 1) = vss.take k ++ [[.bool tm, .slice ta tn tc, .slice ba bn bc]] := by
       rw [List.take_succ_eq_append_getElem (by rw [HG.out.len]; exact hkn)]
       congr 2
       rw [← HV.out]
       simp [List.getD, List.getElem?_eq_getElem (show k < vss.length by rw [HG.out.len]; exact hkn)]
      rw [e]; exact HO.out
    case measure => simp [intOf]; omega
   ·have g1 : decide (0 < z) = false := decide_eq_false g
    have HNG := hid g; clear g; obtain ⟨c0, c1, c2⟩ := HCL.out _ HS2.out.2.2; go_wp2_with fail; refine (compare7_any (HTM.out.below HS2.out.2.2) (HM.out.below HS2.out.2.2) z HZC.out).mono ?_; rintro e w3 ⟨rfl, hB⟩
    have HS3 : Hid (Go1 w.heap.size 79 3 w3 oo k cp (vss.take k) ∧ AtN w3 w.heap.size [.bool mz, .slice zo zn zc] 77 ∧ Below w.heap.size w w3) := ⟨HS2.out.1.below hB, HS2.out.2.1.below hB, Below.steps HS2.out.2.2 hB⟩
    clear hB HS2 c0 c1 c2; obtain ⟨c0, c1, c2⟩ := HCL.out _ HS3.out.2.2
    by_cases gz : z = 0
    ·have HZ0 := hid gz
     have g2 : (z == 0) = true := by simpa using gz
     clear gz
     have HR : Hid (putT p c m = p.take k ++ ((if c + (p.getD k (0, [])).1 = 0 then [] else [(c + (p.getD k (0, [])).1, m)]) ++ p.drop (k + 1))) := by
      have hl : k < p.length := by rw [HPL.out]; exact hkn
      rw [Hid, putT_parts c m p k (by omega) HC.out, List.drop_eq_getElem_cons hl]
      have e : p.getD k (0, []) = p[k] := by simp [List.getD, List.getElem?_eq_getElem hl]
      have h1 := HZE.out; rw [e] at h1 ⊢
      simp only [putT]
      rw [if_neg (by rw [← h1]; have := HNG.out; omega), if_pos (by rw [← h1]; exact HZ0.out)]
      by_cases hc : c + (p[k]).1 = 0
      ·rw [if_pos hc, if_pos hc]; rfl
      ·rw [if_neg hc, if_neg hc]; rfl
     clear HC c0 c1 c2
     go_upto_region 7 with (fail)
     have hcc : ∀ V : World, Below w.heap.size w V → V.cell? ⟨b, off + k * 3, none⟩ = some (.bool tm) ∧ V.cell? ⟨b, off + k * 3 + 1, none⟩ = some (.slice ta tn tc) := fun V hV => ⟨(HCL.out V hV).1, (HCL.out V hV).2.1⟩
     have HCC := hid hcc; clear hcc
     refine wp_region_held_drew (S := fun w' => w'.cell? ⟨b, off + k * 3, none⟩ = some (.bool tm) ∧ w'.cell? ⟨b, off + k * 3 + 1, none⟩ = some (.slice ta tn tc)) (by kernel_rfl) (HCC.out _ HS3.out.2.2.drew) (fun hH => ?_)
     refine anyH_world (fun w4 hW => ?_)
     have HS4 : Hid (Go1 w.heap.size 79 3 w4 oo k cp (vss.take k) ∧ AtN w4 w.heap.size [.bool mz, .slice zo zn zc] 77 ∧ Below w.heap.size w w4) := by rw [hW]; exact ⟨HS3.out.1.below (Below.refl _ _).drew, HS3.out.2.1.below (Below.refl _ _).drew, HS3.out.2.2.drew⟩
     rw [← hW] at hH; clear hW HS3
     refine son 1 hH ?_; try simp only [nrm]
     refine son 2 hH ?_; try simp only [nrm]
     refine son 3 hH ?_; try simp only [nrm]
     refine son 4 hH ?_; try simp only [nrm]
     refine son 5 hH ?_; try simp only [nrm]
     refine step_one 0 rfl (by kernel_rfl) (fun KK hK => ?_)
     have x0 := HS4.out.2.1.cell 0; have x1 := HS4.out.2.1.cell 1
     simp only [List.getElem?_cons_zero, List.getElem?_cons_succ] at x0 x1
     go_simp; clear x0 x1
     clear hH; refine hK.out _ _ (HCC.out _ HS4.out.2.2) fun hH => ?_; clear hK KK
     try simp only [nrm]
     refine step_one 6 rfl (by kernel_rfl) (fun KK hK => ?_)
     go_simp
     refine (zadd_any ((HZ.out.below HS4.out.2.2).zx HBZ.out (by omega)) ((HTZ.out.below HS4.out.2.2).zx HTB.out (by omega))).mono ?_
     rintro e w5 ⟨rm, ra, rn, rc, rfl, hX, hB⟩
     have HS5 : Hid (Go1 w.heap.size 79 3 w5 oo k cp (vss.take k) ∧ AtN w5 w.heap.size [.bool mz, .slice zo zn zc] 77 ∧ Below w.heap.size w w5) := ⟨HS4.out.1.below hB, HS4.out.2.1.below hB, Below.steps HS4.out.2.2 hB⟩
     have HZ5 := hid hX; clear HS4 hX hB; go_wp2_with fail
     clear hH; refine hK.out _ _ (HCC.out _ HS5.out.2.2) fun hH => ?_; clear hK KK
     try simp only [nrm]
     refine step_one 7 rfl (by kernel_rfl) (fun KK hK => ?_)
     have x0 := HS5.out.2.1.cell 0; have x1 := HS5.out.2.1.cell 1; have y0 := HS5.out.2.1.fz 0; have y1 := HS5.out.2.1.fz 1
     simp only [List.getElem?_cons_zero, List.getElem?_cons_succ] at x0 x1
     go_simp; clear x0 x1 y0 y1
     have HSx : Hid (Go1 w.heap.size 79 3 _ oo k cp (vss.take k) ∧ AtN _ w.heap.size [.bool rm, .slice ra rn rc] 77 ∧ Below w.heap.size w _) := ⟨(HS5.out.1.far HS5.out.2.1 (by decide) 0 (.bool rm)).far (HS5.out.2.1.set 0 (.bool rm)) (by decide) 1 (.slice ra rn rc), (HS5.out.2.1.set 0 (.bool rm)).set 1 (.slice ra rn rc), (HS5.out.2.2.setCell (p := ⟨w.heap.size, 0, none⟩) (Nat.le_refl _) (.bool rm)).setCell (p := ⟨w.heap.size, 1, none⟩) (Nat.le_refl _) (.slice ra rn rc)⟩
     have HZ2 := hid (zd_set2 HS5.out.2.1 HZ5.out (.bool rm) (.slice ra rn rc) (by simp [notInt]))
     clear HS5 HZ5
     refine hK.out _ _ (HCC.out _ HSx.out.2.2) (fun h2 => ?_)
     clear hK KK hH h2
     try simp only [nrm]
     refine anyH_world (fun w6 hW => ?_)
     rw [← hW] at HSx HZ2; clear hW
     refine wpAnyH_done (by kernel_rfl) ?_ _
     have HB2 : Hid (Bd (c + (p.getD k (0, [])).1) (K + 1)) := Bd.add HBZ.out HTB.out (Nat.le_refl _)
     obtain ⟨cc, hcc⟩ : ∃ cc, cc = c + (p.getD k (0, [])).1 := ⟨_, rfl⟩; rw [← hcc] at HZ2 HR HB2
     have hk1 : k + 1 ≤ n := by omega
     clear hcc HCC HZ HBZ HTB HTZ HZC HZE
     by_cases hck : cap = k + 1
     ·obtain ⟨s, hs⟩ : ∃ s, (cc).sign = s := ⟨_, rfl⟩
      have HSG := hid hs; clear hs; have x0 := HSx.out.2.1.cell 0; have x1 := HSx.out.2.1.cell 1
      simp only [List.getElem?_cons_zero, List.getElem?_cons_succ] at x0 x1
      go_wp2_with fail
      refine (zsign_is s (HZ2.out.zx HB2.out (by omega)) HSG.out).mono ?_
      rintro e w7 ⟨rfl, hB⟩
      have HS7 : Hid (Go1 w.heap.size 79 3 w7 oo k cp (vss.take k) ∧ AtN w7 w.heap.size [.bool rm, .slice ra rn rc] 77 ∧ Below w.heap.size w w7) := ⟨HSx.out.1.below hB, HSx.out.2.1.below hB, Below.steps HSx.out.2.2 hB⟩
      have HZ7 := hid (HZ2.out.below hB); clear hB HSx HZ2 x0 x1
      by_cases h0 : cc = 0
      ·obtain rfl : s = 0 := by rw [← HSG.out, h0]; rfl
       have HR2 : Hid (putT p c m = p.take k ++ p.drop (k + 1)) := HR.out.trans (by rw [if_pos h0]; rfl)
       clear h0 HR HSG
       go_wp2_with (at_builtin; go_must (refine wpList_joinG w7 w rfl (.tmp 64) (.tmp 67) 36 rfl w.heap.size 79 3 56 i0 (.agg #[.bool false, .slice none 0 0, .slice none 0 0]) Tryz.underlying36 hi hz0 hz1 hz2 rfl (by omega) oo k cp (vss.take k) rfl HS7.out.1 (some ⟨b, off, none⟩) _ _ (vss.drop (k + 1)) rfl (((HG.out.dropEq (k + 1) (by omega) hck).below HS7.out.2.2).cast (by omega) (by omega)) HS7.out.2.2 HS7.out.2.2.size (by omega) (by omega) (by simp [Value.cells, notInt]) (tms_notInt (fun _ _ h => tmZ_notInt h) (Tms.drop HT.out (k + 1))) ?_); intro o8 cp8 w8 hO hB8 _; have HO8 := hid hO; have HB8 := hid hB8; clear hO hB8)
       go_ret
       exact ⟨_, _, _, rfl, ⟨_, HO8.out.gl.cast (by omega) rfl, by rw [HR2.out]; exact Tms.append (Tms.take (Tms.imp (fun v a h => (h.below HB8.out).mono (Nat.le_succ K)) HT.out) _) (Tms.drop (Tms.imp (fun v a h => (h.below HB8.out).mono (Nat.le_succ K)) HT.out) _)⟩, HB8.out⟩
      ·have hs0 : (s == 0) = false := by rw [← HSG.out]; simpa using h0
       have hs1 : (s != 0) = true := by rw [← HSG.out]; simpa using h0
       have HR2 : Hid (putT p c m = p.take k ++ ([(cc, m)] ++ p.drop (k + 1))) := HR.out.trans (by rw [if_neg h0])
       have x0 := HS7.out.2.1.cell 0; have x1 := HS7.out.2.1.cell 1
       simp only [List.getElem?_cons_zero, List.getElem?_cons_succ] at x0 x1
       clear h0 HR HSG
       go_wp2_with (first
        | (at_builtin; refine wpList_pushG w7 w rfl (.tmp 58) (.tmp 62) 36 rfl w.heap.size 79 3 56 i0 (.agg #[.bool false, .slice none 0 0, .slice none 0 0]) Tryz.underlying36 hi hz0 hz1 hz2 rfl (by omega) oo k cp (vss.take k) rfl HS7.out.1 [.bool rm, .slice ra rn rc, .slice mo mn mc] rfl (by simp [Value.oneCell']) (by simp [Value.cells, notInt]) (by simp [notInt]) _ rfl HS7.out.2.2 HS7.out.2.2.size (by omega) (by omega) ?_; intro o9 cp9 w9 hO hB9 hG9; have HO9 := hid hO; have HB9 := hid hB9; have HZ9 := hid ((HZ7.out.below (below_alloc w7 _)).stays (HS7.out.1.below (below_alloc w7 _)) hG9); clear hO hB9 hG9 x0 x1)
        | (at_builtin; refine wpList_joinG w9 w rfl (.tmp 64) (.tmp 67) 36 rfl w.heap.size 79 3 56 i0 (.agg #[.bool false, .slice none 0 0, .slice none 0 0]) Tryz.underlying36 hi hz0 hz1 hz2 rfl (by omega) o9 _ cp9 (vss.take k ++ [[.bool rm, .slice ra rn rc, .slice mo mn mc]]) rfl HO9.out (some ⟨b, off, none⟩) _ _ (vss.drop (k + 1)) rfl (((HG.out.dropEq (k + 1) (by omega) hck).below HB9.out).cast (by omega) (by omega)) HB9.out HB9.out.size (by omega) (by omega) (by simp [Value.cells, notInt]) (tms_notInt (fun _ _ h => tmZ_notInt h) (Tms.drop HT.out (k + 1))) ?_; intro o8 cp8 w8 hO hB8 hG8; have HO8 := hid hO; have HB8 := hid hB8; have HZ8 := hid (HZ9.out.stays HO9.out hG8); clear hO hB8 hG8))
       go_ret
       refine ⟨_, _, _, rfl, ⟨_, HO8.out.gl.cast (by omega) rfl, ?_⟩, HB8.out⟩
       rw [HR2.out, List.append_assoc]
       exact Tms.append (Tms.take (Tms.imp (fun v a h => (h.below HB8.out).mono (Nat.le_succ K)) HT.out) _) (Tms.append ⟨⟨_, _, _, _, _, _, _, rfl, HZ8.out, HB2.out, HM.out.below HB8.out⟩, trivial⟩ (Tms.drop (Tms.imp (fun v a h => (h.below HB8.out).mono (Nat.le_succ K)) HT.out) _))
     ·obtain ⟨s, hs⟩ : ∃ s, (cc).sign = s := ⟨_, rfl⟩
      have HSG := hid hs; clear hs; have x0 := HSx.out.2.1.cell 0; have x1 := HSx.out.2.1.cell 1
      simp only [List.getElem?_cons_zero, List.getElem?_cons_succ] at x0 x1
      go_wp2_with fail
      refine (zsign_is s (HZ2.out.zx HB2.out (by omega)) HSG.out).mono ?_
      rintro e w7 ⟨rfl, hB⟩
      have HS7 : Hid (Go1 w.heap.size 79 3 w7 oo k cp (vss.take k) ∧ AtN w7 w.heap.size [.bool rm, .slice ra rn rc] 77 ∧ Below w.heap.size w w7) := ⟨HSx.out.1.below hB, HSx.out.2.1.below hB, Below.steps HSx.out.2.2 hB⟩
      have HZ7 := hid (HZ2.out.below hB); clear hB HSx HZ2 x0 x1
      by_cases h0 : cc = 0
      ·obtain rfl : s = 0 := by rw [← HSG.out, h0]; rfl
       have HR2 : Hid (putT p c m = p.take k ++ p.drop (k + 1)) := HR.out.trans (by rw [if_pos h0]; rfl)
       clear h0 HR HSG
       go_wp2_with (at_builtin; go_must (refine wpList_joinG w7 w rfl (.tmp 64) (.tmp 67) 36 rfl w.heap.size 79 3 56 i0 (.agg #[.bool false, .slice none 0 0, .slice none 0 0]) Tryz.underlying36 hi hz0 hz1 hz2 rfl (by omega) oo k cp (vss.take k) rfl HS7.out.1 (some ⟨b, off + (k + 1) * 3, none⟩) _ _ (vss.drop (k + 1)) rfl (((HG.out.dropNe (k + 1) (by omega) hck).below HS7.out.2.2).cast (by omega) (by omega)) HS7.out.2.2 HS7.out.2.2.size (by omega) (by omega) (by simp [Value.cells, notInt]) (tms_notInt (fun _ _ h => tmZ_notInt h) (Tms.drop HT.out (k + 1))) ?_); intro o8 cp8 w8 hO hB8 _; have HO8 := hid hO; have HB8 := hid hB8; clear hO hB8)
       go_ret
       exact ⟨_, _, _, rfl, ⟨_, HO8.out.gl.cast (by omega) rfl, by rw [HR2.out]; exact Tms.append (Tms.take (Tms.imp (fun v a h => (h.below HB8.out).mono (Nat.le_succ K)) HT.out) _) (Tms.drop (Tms.imp (fun v a h => (h.below HB8.out).mono (Nat.le_succ K)) HT.out) _)⟩, HB8.out⟩
      ·have hs0 : (s == 0) = false := by rw [← HSG.out]; simpa using h0
       have hs1 : (s != 0) = true := by rw [← HSG.out]; simpa using h0
       have HR2 : Hid (putT p c m = p.take k ++ ([(cc, m)] ++ p.drop (k + 1))) := HR.out.trans (by rw [if_neg h0])
       have x0 := HS7.out.2.1.cell 0; have x1 := HS7.out.2.1.cell 1
       simp only [List.getElem?_cons_zero, List.getElem?_cons_succ] at x0 x1
       clear h0 HR HSG
       go_wp2_with (first
        | (at_builtin; refine wpList_pushG w7 w rfl (.tmp 58) (.tmp 62) 36 rfl w.heap.size 79 3 56 i0 (.agg #[.bool false, .slice none 0 0, .slice none 0 0]) Tryz.underlying36 hi hz0 hz1 hz2 rfl (by omega) oo k cp (vss.take k) rfl HS7.out.1 [.bool rm, .slice ra rn rc, .slice mo mn mc] rfl (by simp [Value.oneCell']) (by simp [Value.cells, notInt]) (by simp [notInt]) _ rfl HS7.out.2.2 HS7.out.2.2.size (by omega) (by omega) ?_; intro o9 cp9 w9 hO hB9 hG9; have HO9 := hid hO; have HB9 := hid hB9; have HZ9 := hid ((HZ7.out.below (below_alloc w7 _)).stays (HS7.out.1.below (below_alloc w7 _)) hG9); clear hO hB9 hG9 x0 x1)
        | (at_builtin; refine wpList_joinG w9 w rfl (.tmp 64) (.tmp 67) 36 rfl w.heap.size 79 3 56 i0 (.agg #[.bool false, .slice none 0 0, .slice none 0 0]) Tryz.underlying36 hi hz0 hz1 hz2 rfl (by omega) o9 _ cp9 (vss.take k ++ [[.bool rm, .slice ra rn rc, .slice mo mn mc]]) rfl HO9.out (some ⟨b, off + (k + 1) * 3, none⟩) _ _ (vss.drop (k + 1)) rfl (((HG.out.dropNe (k + 1) (by omega) hck).below HB9.out).cast (by omega) (by omega)) HB9.out HB9.out.size (by omega) (by omega) (by simp [Value.cells, notInt]) (tms_notInt (fun _ _ h => tmZ_notInt h) (Tms.drop HT.out (k + 1))) ?_; intro o8 cp8 w8 hO hB8 hG8; have HO8 := hid hO; have HB8 := hid hB8; have HZ8 := hid (HZ9.out.stays HO9.out hG8); clear hO hB8 hG8))
       go_ret
       refine ⟨_, _, _, rfl, ⟨_, HO8.out.gl.cast (by omega) rfl, ?_⟩, HB8.out⟩
       rw [HR2.out, List.append_assoc]
       exact Tms.append (Tms.take (Tms.imp (fun v a h => (h.below HB8.out).mono (Nat.le_succ K)) HT.out) _) (Tms.append ⟨⟨_, _, _, _, _, _, _, rfl, HZ8.out, HB2.out, HM.out.below HB8.out⟩, trivial⟩ (Tms.drop (Tms.imp (fun v a h => (h.below HB8.out).mono (Nat.le_succ K)) HT.out) _))
    ·have HN0 := hid gz
     have g2 : (z == 0) = false := by simpa using gz
     clear gz
     have HR : Hid (putT p c m = p.take k ++ ((if c = 0 then [] else [(c, m)]) ++ p.drop k)) := by
      have hl : k < p.length := by rw [HPL.out]; exact hkn
      rw [Hid, putT_parts c m p k (by omega) HC.out, List.drop_eq_getElem_cons hl]
      have e : p.getD k (0, []) = p[k] := by simp [List.getD, List.getElem?_eq_getElem hl]
      have h1 := HZE.out; rw [e] at h1
      simp only [putT]
      rw [if_neg (by rw [← h1]; have := HNG.out; omega), if_neg (by rw [← h1]; exact HN0.out)]
      by_cases hc : c = 0
      ·rw [if_pos hc, if_pos hc]; rfl
      ·rw [if_neg hc, if_neg hc]; rfl
     have HSx := HS3; have HZ2 := hid (HZ.out.below HS3.out.2.2); have HB2 := hid (HBZ.out.mono (Nat.le_succ K)); clear HC HS3 HZ c0 c1 c2
     have hck : cap ≠ k := by omega
     obtain ⟨s, hs⟩ : ∃ s, (c).sign = s := ⟨_, rfl⟩; have HSG := hid hs; clear hs; have x0 := HSx.out.2.1.cell 0; have x1 := HSx.out.2.1.cell 1
     simp only [List.getElem?_cons_zero, List.getElem?_cons_succ] at x0 x1
     go_wp2_with fail
     refine (zsign_is s (HZ2.out.zx HB2.out (by omega)) HSG.out).mono ?_
     rintro e w7 ⟨rfl, hB⟩
     have HS7 : Hid (Go1 w.heap.size 79 3 w7 oo k cp (vss.take k) ∧ AtN w7 w.heap.size [.bool mz, .slice zo zn zc] 77 ∧ Below w.heap.size w w7) := ⟨HSx.out.1.below hB, HSx.out.2.1.below hB, Below.steps HSx.out.2.2 hB⟩
     have HZ7 := hid (HZ2.out.below hB); clear hB HSx HZ2 x0 x1
     by_cases h0 : c = 0
     ·obtain rfl : s = 0 := by rw [← HSG.out, h0]; rfl
      have HR2 : Hid (putT p c m = p.take k ++ p.drop k) := HR.out.trans (by rw [if_pos h0]; rfl)
      clear h0 HR HSG
      go_wp2_with (at_builtin; go_must (refine wpList_joinG w7 w rfl (.tmp 64) (.tmp 67) 36 rfl w.heap.size 79 3 56 i0 (.agg #[.bool false, .slice none 0 0, .slice none 0 0]) Tryz.underlying36 hi hz0 hz1 hz2 rfl (by omega) oo k cp (vss.take k) rfl HS7.out.1 (some ⟨b, off + k * 3, none⟩) _ _ (vss.drop k) rfl (((HG.out.dropNe k (by omega) hck).below HS7.out.2.2).cast (by omega) (by omega)) HS7.out.2.2 HS7.out.2.2.size (by omega) (by omega) (by simp [Value.cells, notInt]) (tms_notInt (fun _ _ h => tmZ_notInt h) (Tms.drop HT.out k)) ?_); intro o8 cp8 w8 hO hB8 _; have HO8 := hid hO; have HB8 := hid hB8; clear hO hB8)
      go_ret
      exact ⟨_, _, _, rfl, ⟨_, HO8.out.gl.cast (by omega) rfl, by rw [HR2.out]; exact Tms.append (Tms.take (Tms.imp (fun v a h => (h.below HB8.out).mono (Nat.le_succ K)) HT.out) _) (Tms.drop (Tms.imp (fun v a h => (h.below HB8.out).mono (Nat.le_succ K)) HT.out) _)⟩, HB8.out⟩
     ·have hs0 : (s == 0) = false := by rw [← HSG.out]; simpa using h0
      have hs1 : (s != 0) = true := by rw [← HSG.out]; simpa using h0
      have HR2 : Hid (putT p c m = p.take k ++ ([(c, m)] ++ p.drop k)) := HR.out.trans (by rw [if_neg h0])
      have x0 := HS7.out.2.1.cell 0; have x1 := HS7.out.2.1.cell 1
      simp only [List.getElem?_cons_zero, List.getElem?_cons_succ] at x0 x1
      clear h0 HR HSG
      go_wp2_with (first
       | (at_builtin; refine wpList_pushG w7 w rfl (.tmp 58) (.tmp 62) 36 rfl w.heap.size 79 3 56 i0 (.agg #[.bool false, .slice none 0 0, .slice none 0 0]) Tryz.underlying36 hi hz0 hz1 hz2 rfl (by omega) oo k cp (vss.take k) rfl HS7.out.1 [.bool mz, .slice zo zn zc, .slice mo mn mc] rfl (by simp [Value.oneCell']) (by simp [Value.cells, notInt]) (by simp [notInt]) _ rfl HS7.out.2.2 HS7.out.2.2.size (by omega) (by omega) ?_; intro o9 cp9 w9 hO hB9 hG9; have HO9 := hid hO; have HB9 := hid hB9; have HZ9 := hid ((HZ7.out.below (below_alloc w7 _)).stays (HS7.out.1.below (below_alloc w7 _)) hG9); clear hO hB9 hG9 x0 x1)
       | (at_builtin; refine wpList_joinG w9 w rfl (.tmp 64) (.tmp 67) 36 rfl w.heap.size 79 3 56 i0 (.agg #[.bool false, .slice none 0 0, .slice none 0 0]) Tryz.underlying36 hi hz0 hz1 hz2 rfl (by omega) o9 _ cp9 (vss.take k ++ [[.bool mz, .slice zo zn zc, .slice mo mn mc]]) rfl HO9.out (some ⟨b, off + k * 3, none⟩) _ _ (vss.drop k) rfl (((HG.out.dropNe k (by omega) hck).below HB9.out).cast (by omega) (by omega)) HB9.out HB9.out.size (by omega) (by omega) (by simp [Value.cells, notInt]) (tms_notInt (fun _ _ h => tmZ_notInt h) (Tms.drop HT.out k)) ?_; intro o8 cp8 w8 hO hB8 hG8; have HO8 := hid hO; have HB8 := hid hB8; have HZ8 := hid (HZ9.out.stays HO9.out hG8); clear hO hB8 hG8))
      go_ret
      refine ⟨_, _, _, rfl, ⟨_, HO8.out.gl.cast (by omega) rfl, ?_⟩, HB8.out⟩
      rw [HR2.out, List.append_assoc]
      exact Tms.append (Tms.take (Tms.imp (fun v a h => (h.below HB8.out).mono (Nat.le_succ K)) HT.out) _) (Tms.append ⟨⟨_, _, _, _, _, _, _, rfl, HZ8.out, HB2.out, HM.out.below HB8.out⟩, trivial⟩ (Tms.drop (Tms.imp (fun v a h => (h.below HB8.out).mono (Nat.le_succ K)) HT.out) _))
  ·obtain rfl : k = n := by omega
   have HR : Hid (putT p c m = p.take k ++ ((if c = 0 then [] else [(c, m)]) ++ p.drop k)) := by
    rw [Hid, putT_parts c m p k (by rw [HPL.out]; exact Nat.le_refl _) HC.out, List.drop_eq_nil_of_le (by rw [HPL.out]; exact Nat.le_refl _)]
    simp [putT]
   have HSx := HS; have HZ2 := hid (HZ.out.below HS.out.2.2); have HB2 := hid (HBZ.out.mono (Nat.le_succ K)); clear HC HS HZ
   cases ao with
   | none =>
    obtain rfl : cap = 0 := HG.out.nil rfl
    obtain rfl : k = 0 := by omega
    obtain ⟨s, hs⟩ : ∃ s, (c).sign = s := ⟨_, rfl⟩; have HSG := hid hs; clear hs; have x0 := HSx.out.2.1.cell 0; have x1 := HSx.out.2.1.cell 1
    simp only [List.getElem?_cons_zero, List.getElem?_cons_succ] at x0 x1
    go_wp2_with fail
    refine (zsign_is s (HZ2.out.zx HB2.out (by omega)) HSG.out).mono ?_
    rintro e w7 ⟨rfl, hB⟩
    have HS7 : Hid (Go1 w.heap.size 79 3 w7 oo 0 cp (vss.take 0) ∧ AtN w7 w.heap.size [.bool mz, .slice zo zn zc] 77 ∧ Below w.heap.size w w7) := ⟨HSx.out.1.below hB, HSx.out.2.1.below hB, Below.steps HSx.out.2.2 hB⟩
    have HZ7 := hid (HZ2.out.below hB); clear hB HSx HZ2 x0 x1
    by_cases h0 : c = 0
    ·obtain rfl : s = 0 := by rw [← HSG.out, h0]; rfl
     have HR2 : Hid (putT p c m = p.take 0 ++ p.drop 0) := HR.out.trans (by rw [if_pos h0]; rfl)
     clear h0 HR HSG
     go_wp2_with (at_builtin; go_must (refine wpList_joinG w7 w rfl (.tmp 64) (.tmp 67) 36 rfl w.heap.size 79 3 56 i0 (.agg #[.bool false, .slice none 0 0, .slice none 0 0]) Tryz.underlying36 hi hz0 hz1 hz2 rfl (by omega) oo 0 cp (vss.take 0) rfl HS7.out.1 none _ _ [] rfl ((Gl.zero 3 _).cast (by omega) (by omega)) HS7.out.2.2 HS7.out.2.2.size (by omega) (by omega) (by simp [Value.cells, notInt]) (by simp) ?_); intro o8 cp8 w8 hO hB8 _; have HO8 := hid hO; have HB8 := hid hB8; clear hO hB8)
     go_ret
     exact ⟨_, _, _, rfl, ⟨_, HO8.out.gl.cast (by omega) rfl, by rw [HR2.out]; exact Tms.append (Tms.take (Tms.imp (fun v a h => (h.below HB8.out).mono (Nat.le_succ K)) HT.out) _) (by simp [List.drop_eq_nil_of_le, HPL.out, Tms])⟩, HB8.out⟩
    ·have hs0 : (s == 0) = false := by rw [← HSG.out]; simpa using h0
     have hs1 : (s != 0) = true := by rw [← HSG.out]; simpa using h0
     have HR2 : Hid (putT p c m = p.take 0 ++ ([(c, m)] ++ p.drop 0)) := HR.out.trans (by rw [if_neg h0])
     have x0 := HS7.out.2.1.cell 0; have x1 := HS7.out.2.1.cell 1
     simp only [List.getElem?_cons_zero, List.getElem?_cons_succ] at x0 x1
     clear h0 HR HSG
     go_wp2_with (first
      | (at_builtin; refine wpList_pushG w7 w rfl (.tmp 58) (.tmp 62) 36 rfl w.heap.size 79 3 56 i0 (.agg #[.bool false, .slice none 0 0, .slice none 0 0]) Tryz.underlying36 hi hz0 hz1 hz2 rfl (by omega) oo 0 cp (vss.take 0) rfl HS7.out.1 [.bool mz, .slice zo zn zc, .slice mo mn mc] rfl (by simp [Value.oneCell']) (by simp [Value.cells, notInt]) (by simp [notInt]) _ rfl HS7.out.2.2 HS7.out.2.2.size (by omega) (by omega) ?_; intro o9 cp9 w9 hO hB9 hG9; have HO9 := hid hO; have HB9 := hid hB9; have HZ9 := hid ((HZ7.out.below (below_alloc w7 _)).stays (HS7.out.1.below (below_alloc w7 _)) hG9); clear hO hB9 hG9 x0 x1)
      | (at_builtin; refine wpList_joinG w9 w rfl (.tmp 64) (.tmp 67) 36 rfl w.heap.size 79 3 56 i0 (.agg #[.bool false, .slice none 0 0, .slice none 0 0]) Tryz.underlying36 hi hz0 hz1 hz2 rfl (by omega) o9 _ cp9 (vss.take 0 ++ [[.bool mz, .slice zo zn zc, .slice mo mn mc]]) rfl HO9.out none _ _ [] rfl ((Gl.zero 3 _).cast (by omega) (by omega)) HB9.out HB9.out.size (by omega) (by omega) (by simp [Value.cells, notInt]) (by simp) ?_; intro o8 cp8 w8 hO hB8 hG8; have HO8 := hid hO; have HB8 := hid hB8; have HZ8 := hid (HZ9.out.stays HO9.out hG8); clear hO hB8 hG8))
     go_ret
     refine ⟨_, _, _, rfl, ⟨_, HO8.out.gl.cast (by omega) rfl, ?_⟩, HB8.out⟩
     rw [HR2.out, List.append_assoc]
     exact Tms.append (Tms.take (Tms.imp (fun v a h => (h.below HB8.out).mono (Nat.le_succ K)) HT.out) _) (Tms.append ⟨⟨_, _, _, _, _, _, _, rfl, HZ8.out, HB2.out, HM.out.below HB8.out⟩, trivial⟩ (by simp [List.drop_eq_nil_of_le, HPL.out, Tms]))
   | some ad =>
    obtain ⟨b, off, sp⟩ := ad
    by_cases hck : cap = k
    ·obtain ⟨s, hs⟩ : ∃ s, (c).sign = s := ⟨_, rfl⟩
     have HSG := hid hs; clear hs; have x0 := HSx.out.2.1.cell 0; have x1 := HSx.out.2.1.cell 1
     simp only [List.getElem?_cons_zero, List.getElem?_cons_succ] at x0 x1
     go_wp2_with fail
     refine (zsign_is s (HZ2.out.zx HB2.out (by omega)) HSG.out).mono ?_
     rintro e w7 ⟨rfl, hB⟩
     have HS7 : Hid (Go1 w.heap.size 79 3 w7 oo k cp (vss.take k) ∧ AtN w7 w.heap.size [.bool mz, .slice zo zn zc] 77 ∧ Below w.heap.size w w7) := ⟨HSx.out.1.below hB, HSx.out.2.1.below hB, Below.steps HSx.out.2.2 hB⟩
     have HZ7 := hid (HZ2.out.below hB); clear hB HSx HZ2 x0 x1
     by_cases h0 : c = 0
     ·obtain rfl : s = 0 := by rw [← HSG.out, h0]; rfl
      have HR2 : Hid (putT p c m = p.take k ++ p.drop k) := HR.out.trans (by rw [if_pos h0]; rfl)
      clear h0 HR HSG
      go_wp2_with (at_builtin; go_must (refine wpList_joinG w7 w rfl (.tmp 64) (.tmp 67) 36 rfl w.heap.size 79 3 56 i0 (.agg #[.bool false, .slice none 0 0, .slice none 0 0]) Tryz.underlying36 hi hz0 hz1 hz2 rfl (by omega) oo k cp (vss.take k) rfl HS7.out.1 (some ⟨b, off, sp⟩) _ _ (vss.drop k) rfl (((HG.out.dropEq k (by omega) hck).below HS7.out.2.2).cast (by omega) (by omega)) HS7.out.2.2 HS7.out.2.2.size (by omega) (by omega) (by simp [Value.cells, notInt]) (tms_notInt (fun _ _ h => tmZ_notInt h) (Tms.drop HT.out k)) ?_); intro o8 cp8 w8 hO hB8 _; have HO8 := hid hO; have HB8 := hid hB8; clear hO hB8)
      go_ret
      exact ⟨_, _, _, rfl, ⟨_, HO8.out.gl.cast (by omega) rfl, by rw [HR2.out]; exact Tms.append (Tms.take (Tms.imp (fun v a h => (h.below HB8.out).mono (Nat.le_succ K)) HT.out) _) (Tms.drop (Tms.imp (fun v a h => (h.below HB8.out).mono (Nat.le_succ K)) HT.out) _)⟩, HB8.out⟩
     ·have hs0 : (s == 0) = false := by rw [← HSG.out]; simpa using h0
      have hs1 : (s != 0) = true := by rw [← HSG.out]; simpa using h0
      have HR2 : Hid (putT p c m = p.take k ++ ([(c, m)] ++ p.drop k)) := HR.out.trans (by rw [if_neg h0])
      have x0 := HS7.out.2.1.cell 0; have x1 := HS7.out.2.1.cell 1
      simp only [List.getElem?_cons_zero, List.getElem?_cons_succ] at x0 x1
      clear h0 HR HSG
      go_wp2_with (first
       | (at_builtin; refine wpList_pushG w7 w rfl (.tmp 58) (.tmp 62) 36 rfl w.heap.size 79 3 56 i0 (.agg #[.bool false, .slice none 0 0, .slice none 0 0]) Tryz.underlying36 hi hz0 hz1 hz2 rfl (by omega) oo k cp (vss.take k) rfl HS7.out.1 [.bool mz, .slice zo zn zc, .slice mo mn mc] rfl (by simp [Value.oneCell']) (by simp [Value.cells, notInt]) (by simp [notInt]) _ rfl HS7.out.2.2 HS7.out.2.2.size (by omega) (by omega) ?_; intro o9 cp9 w9 hO hB9 hG9; have HO9 := hid hO; have HB9 := hid hB9; have HZ9 := hid ((HZ7.out.below (below_alloc w7 _)).stays (HS7.out.1.below (below_alloc w7 _)) hG9); clear hO hB9 hG9 x0 x1)
       | (at_builtin; refine wpList_joinG w9 w rfl (.tmp 64) (.tmp 67) 36 rfl w.heap.size 79 3 56 i0 (.agg #[.bool false, .slice none 0 0, .slice none 0 0]) Tryz.underlying36 hi hz0 hz1 hz2 rfl (by omega) o9 _ cp9 (vss.take k ++ [[.bool mz, .slice zo zn zc, .slice mo mn mc]]) rfl HO9.out (some ⟨b, off, sp⟩) _ _ (vss.drop k) rfl (((HG.out.dropEq k (by omega) hck).below HB9.out).cast (by omega) (by omega)) HB9.out HB9.out.size (by omega) (by omega) (by simp [Value.cells, notInt]) (tms_notInt (fun _ _ h => tmZ_notInt h) (Tms.drop HT.out k)) ?_; intro o8 cp8 w8 hO hB8 hG8; have HO8 := hid hO; have HB8 := hid hB8; have HZ8 := hid (HZ9.out.stays HO9.out hG8); clear hO hB8 hG8))
      go_ret
      refine ⟨_, _, _, rfl, ⟨_, HO8.out.gl.cast (by omega) rfl, ?_⟩, HB8.out⟩
      rw [HR2.out, List.append_assoc]
      exact Tms.append (Tms.take (Tms.imp (fun v a h => (h.below HB8.out).mono (Nat.le_succ K)) HT.out) _) (Tms.append ⟨⟨_, _, _, _, _, _, _, rfl, HZ8.out, HB2.out, HM.out.below HB8.out⟩, trivial⟩ (Tms.drop (Tms.imp (fun v a h => (h.below HB8.out).mono (Nat.le_succ K)) HT.out) _))
    ·obtain rfl : sp = none := HG.out.spot _ rfl (by omega)
     obtain ⟨s, hs⟩ : ∃ s, (c).sign = s := ⟨_, rfl⟩; have HSG := hid hs; clear hs; have x0 := HSx.out.2.1.cell 0; have x1 := HSx.out.2.1.cell 1
     simp only [List.getElem?_cons_zero, List.getElem?_cons_succ] at x0 x1
     go_wp2_with fail
     refine (zsign_is s (HZ2.out.zx HB2.out (by omega)) HSG.out).mono ?_
     rintro e w7 ⟨rfl, hB⟩
     have HS7 : Hid (Go1 w.heap.size 79 3 w7 oo k cp (vss.take k) ∧ AtN w7 w.heap.size [.bool mz, .slice zo zn zc] 77 ∧ Below w.heap.size w w7) := ⟨HSx.out.1.below hB, HSx.out.2.1.below hB, Below.steps HSx.out.2.2 hB⟩
     have HZ7 := hid (HZ2.out.below hB); clear hB HSx HZ2 x0 x1
     by_cases h0 : c = 0
     ·obtain rfl : s = 0 := by rw [← HSG.out, h0]; rfl
      have HR2 : Hid (putT p c m = p.take k ++ p.drop k) := HR.out.trans (by rw [if_pos h0]; rfl)
      clear h0 HR HSG
      go_wp2_with (at_builtin; go_must (refine wpList_joinG w7 w rfl (.tmp 64) (.tmp 67) 36 rfl w.heap.size 79 3 56 i0 (.agg #[.bool false, .slice none 0 0, .slice none 0 0]) Tryz.underlying36 hi hz0 hz1 hz2 rfl (by omega) oo k cp (vss.take k) rfl HS7.out.1 (some ⟨b, off + k * 3, none⟩) _ _ (vss.drop k) rfl (((HG.out.dropNe k (by omega) hck).below HS7.out.2.2).cast (by omega) (by omega)) HS7.out.2.2 HS7.out.2.2.size (by omega) (by omega) (by simp [Value.cells, notInt]) (tms_notInt (fun _ _ h => tmZ_notInt h) (Tms.drop HT.out k)) ?_); intro o8 cp8 w8 hO hB8 _; have HO8 := hid hO; have HB8 := hid hB8; clear hO hB8)
      go_ret
      exact ⟨_, _, _, rfl, ⟨_, HO8.out.gl.cast (by omega) rfl, by rw [HR2.out]; exact Tms.append (Tms.take (Tms.imp (fun v a h => (h.below HB8.out).mono (Nat.le_succ K)) HT.out) _) (Tms.drop (Tms.imp (fun v a h => (h.below HB8.out).mono (Nat.le_succ K)) HT.out) _)⟩, HB8.out⟩
     ·have hs0 : (s == 0) = false := by rw [← HSG.out]; simpa using h0
      have hs1 : (s != 0) = true := by rw [← HSG.out]; simpa using h0
      have HR2 : Hid (putT p c m = p.take k ++ ([(c, m)] ++ p.drop k)) := HR.out.trans (by rw [if_neg h0])
      have x0 := HS7.out.2.1.cell 0; have x1 := HS7.out.2.1.cell 1
      simp only [List.getElem?_cons_zero, List.getElem?_cons_succ] at x0 x1
      clear h0 HR HSG
      go_wp2_with (first
       | (at_builtin; refine wpList_pushG w7 w rfl (.tmp 58) (.tmp 62) 36 rfl w.heap.size 79 3 56 i0 (.agg #[.bool false, .slice none 0 0, .slice none 0 0]) Tryz.underlying36 hi hz0 hz1 hz2 rfl (by omega) oo k cp (vss.take k) rfl HS7.out.1 [.bool mz, .slice zo zn zc, .slice mo mn mc] rfl (by simp [Value.oneCell']) (by simp [Value.cells, notInt]) (by simp [notInt]) _ rfl HS7.out.2.2 HS7.out.2.2.size (by omega) (by omega) ?_; intro o9 cp9 w9 hO hB9 hG9; have HO9 := hid hO; have HB9 := hid hB9; have HZ9 := hid ((HZ7.out.below (below_alloc w7 _)).stays (HS7.out.1.below (below_alloc w7 _)) hG9); clear hO hB9 hG9 x0 x1)
       | (at_builtin; refine wpList_joinG w9 w rfl (.tmp 64) (.tmp 67) 36 rfl w.heap.size 79 3 56 i0 (.agg #[.bool false, .slice none 0 0, .slice none 0 0]) Tryz.underlying36 hi hz0 hz1 hz2 rfl (by omega) o9 _ cp9 (vss.take k ++ [[.bool mz, .slice zo zn zc, .slice mo mn mc]]) rfl HO9.out (some ⟨b, off + k * 3, none⟩) _ _ (vss.drop k) rfl (((HG.out.dropNe k (by omega) hck).below HB9.out).cast (by omega) (by omega)) HB9.out HB9.out.size (by omega) (by omega) (by simp [Value.cells, notInt]) (tms_notInt (fun _ _ h => tmZ_notInt h) (Tms.drop HT.out k)) ?_; intro o8 cp8 w8 hO hB8 hG8; have HO8 := hid hO; have HB8 := hid hB8; have HZ8 := hid (HZ9.out.stays HO9.out hG8); clear hO hB8 hG8))
      go_ret
      refine ⟨_, _, _, rfl, ⟨_, HO8.out.gl.cast (by omega) rfl, ?_⟩, HB8.out⟩
      rw [HR2.out, List.append_assoc]
      exact Tms.append (Tms.take (Tms.imp (fun v a h => (h.below HB8.out).mono (Nat.le_succ K)) HT.out) _) (Tms.append ⟨⟨_, _, _, _, _, _, _, rfl, HZ8.out, HB2.out, HM.out.below HB8.out⟩, trivial⟩ (Tms.drop (Tms.imp (fun v a h => (h.below HB8.out).mono (Nat.le_succ K)) HT.out) _))
open Lib (hid)
theorem putT_length (c : Int) (m : List (Int × Int)) : ∀ p : List Term, (putT p c m).length ≤ p.length + 1
 | [] => by unfold putT; split <;> simp
 | t :: r => by
  have ih := putT_length c m r
  unfold putT
  split
  ·simp; omega
  ·split
   ·split <;> simp <;> omega
   ·split <;> simp
theorem addT_length (p : List Term) : ∀ q : List Term, (addT p q).length ≤ p.length + q.length := by
 intro q
 induction q generalizing p with
 | nil => simp [addT]
 | cons t r ih =>
  have h := ih (putT p t.1 t.2); have h2 := putT_length t.1 t.2 p
  show (addT (putT p t.1 t.2) r).length ≤ _
  simp only [List.length_cons]
  omega
theorem tmsZ_lower [Ol] {K K' : Nat} {w : World} : ∀ {X : List (List Value)} {p : List Term}, Tms (TmZ K' w) X p → (∀ t ∈ p, Bd t.1 K) → Tms (TmZ K w) X p
 | [], [], _, _ => trivial
 | _ :: _, _ :: _, h, hb => by
  obtain ⟨m, ao, n, cap, bo, k, cb, h1, h2, _, h4⟩ := h.1
  exact ⟨⟨m, ao, n, cap, bo, k, cb, h1, h2, hb _ (by simp), h4⟩, tmsZ_lower h.2 fun t ht => hb t (by simp [ht])⟩
 | [], _ :: _, h, _ => h.elim
 | _ :: _, [], h, _ => h.elim
theorem Pz.lower [Ol] {K K' : Nat} {w : World} {ao : Option Addr} {n cap : Nat} {p : List Term} (h : Pz K' w ao n cap p) (hb : ∀ t ∈ p, Bd t.1 K) : Pz K w ao n cap p := by
 obtain ⟨X, h1, h2⟩ := h.ex
 exact ⟨X, h1, tmsZ_lower h2 hb⟩
theorem Pz.next [Ol] {K K' : Nat} {w : World} {ao : Option Addr} {n cap : Nat} {p : List Term} (h : Pz K' w ao n cap p) (hs : K' ≤ K ∨ ∀ t ∈ p, Bd t.1 K) : Pz K w ao n cap p := hs.elim h.mono h.lower
theorem add_anyG [Ol] {K : Nat} {bd : Nat → Nat} {ao bo : Option Addr} {n cap l cb : Nat} {p q : List Term} {w : World} (hp : Pz (bd 0) w ao n cap p) (hq : Pz K w bo l cb q) (hf : fall p) (hm : mays q) (hn : n + l ≤ 2000000) (hK : ∀ k, k ≤ l → K ≤ bd k ∧ bd k ≤ 9000) (hs : ∀ k, k < l → bd k + 1 ≤ bd (k + 1) ∨ ∀ t ∈ addT p (q.take (k + 1)), Bd t.1 (bd (k + 1))) :
  Calls Tryz.prog 25 #[.slice ao n cap, .slice bo l cb] w (NewPz (bd l) w (addT p q)) := by
 have HBB := hid hK; have HSS := hid hs; clear hK hs; obtain ⟨vss, hG, hT⟩ := hq.ex; have hle := hG.le; have hbig := hG.big; have hpl := hp.len; have hql := hq.len; have HP := hid hp; have HG := hid hG; have HT := hid hT; have HF := hid hf; have HMM := hid hm; have HPL := hid hpl; have HQL := hid hql; clear hp hq hf hm hG hT hpl hql
 go_enter Tryz.func25, Tryz.ntmps25
 go_wp2
 go_loopw [5, 6] (fun o i wr => ∃ (k n2 c2 : Nat) (oo : Option Addr), i = .int .i64 k ∧ o = .slice oo n2 c2 ∧ k ≤ l ∧ Hid (Pz (bd k) wr oo n2 c2 (addT p (q.take k)) ∧ Below w.heap.size w wr)) (fun _ i _ => l - (intOf i).toNat)
 case atStart => exact ⟨0, n, cap, ao, rfl, rfl, Nat.zero_le _, by simpa [addT] using HP.out, Below.refl _ _⟩
 case round =>
  clear HP; obtain ⟨k, n2, c2, oo, rfl, rfl, hk, HS⟩ := hrel
  by_cases hkl : k < l
  ·obtain ⟨b, off, rfl, hb, hcl⟩ := HG.out.at (by omega)
   obtain ⟨tm, ta, tn, tc, ba, bn, bc, hv, tz, tb, tmm⟩ := Tms.get (0, []) HT.out k (by rw [HQL.out]; exact hkl)
   have hcells : ∀ V : World, Below w.heap.size w V → V.cell? ⟨b, off + k * 3, none⟩ = some (.bool tm) ∧ V.cell? ⟨b, off + k * 3 + 1, none⟩ = some (.slice ta tn tc) ∧ V.cell? ⟨b, off + k * 3 + 2, none⟩ = some (.slice ba bn bc) := by
    intro V hV
    have h0 := hcl V hV k hkl 0 (by omega)
    have h1 := hcl V hV k hkl 1 (by omega)
    have h2 := hcl V hV k hkl 2 (by omega)
    rw [hv] at h0 h1 h2
    exact ⟨h0, h1, h2⟩
   have HCL := hid hcells; have HTZ := hid tz; have HTB := hid tb; have HTM := hid tmm; obtain ⟨t, ht⟩ : ∃ t, t = q.getD k (0, []) := ⟨_, rfl⟩
   have hlq : k < q.length := by rw [HQL.out]; exact hkl
   have ht2 : t = q[k] := by rw [ht]; simp [List.getD, List.getElem?_eq_getElem hlq]
   have HMY : Hid (mayM 0 t.2 = true) := HMM.out _ (by rw [ht2]; exact List.getElem_mem _)
   have HQ : Hid (addT p (q.take (k + 1)) = putT (addT p (q.take k)) t.1 t.2) := by
    rw [Hid, List.take_succ_eq_append_getElem hlq, addT_append, ← ht2]
    simp [addT]
   have HFL : Hid (fall (addT p (q.take k))) := (addT_spec HF.out (fun s hs => HMM.out s (List.mem_of_mem_take hs))).1
   have HNL : Hid (n2 ≤ 2000000) := by
    have h1 := HS.out.1.len; have h2 := addT_length p (q.take k); rw [List.length_take, HPL.out] at h2
    rw [Hid]; omega
   have HKK : Hid (K ≤ bd k ∧ bd k ≤ 9000) := HBB.out k (by omega)
   have HSK : Hid (bd k + 1 ≤ bd (k + 1) ∨ ∀ t ∈ addT p (q.take (k + 1)), Bd t.1 (bd (k + 1))) := HSS.out k hkl
   rw [← ht] at HTZ HTB HTM; clear hcl hv hcells tz tb tmm ht ht2 hlq
   go_upto_region 5 with (fail)
   refine wp_region_held_drew (S := fun w' => w'.cell? ⟨b, off + k * 3, none⟩ = some (.bool tm) ∧ w'.cell? ⟨b, off + k * 3 + 1, none⟩ = some (.slice ta tn tc) ∧ w'.cell? ⟨b, off + k * 3 + 2, none⟩ = some (.slice ba bn bc)) (by kernel_rfl) (HCL.out _ HS.out.2.drew) (fun hH => ?_)
   refine anyH_world (fun w4 hW => ?_)
   have HS4 : Hid (Pz (bd k) w4 oo n2 c2 (addT p (q.take k)) ∧ Below w.heap.size w w4) := by rw [hW]; exact ⟨HS.out.1.below (Below.refl _ _).drew, HS.out.2.drew⟩
   rw [← hW] at hH; clear hW HS
   refine son 0 hH ?_; try simp only [nrm]
   refine son 1 hH ?_; try simp only [nrm]
   refine son 2 hH ?_; try simp only [nrm]
   refine son 3 hH ?_; try simp only [nrm]
   refine son 4 hH ?_; try simp only [nrm]
   refine son 5 hH ?_; try simp only [nrm]
   refine son 6 hH ?_; try simp only [nrm]
   refine son 7 hH ?_; try simp only [nrm]
   refine son 8 hH ?_; try simp only [nrm]
   refine son 9 hH ?_; try simp only [nrm]
   refine son 10 hH ?_; try simp only [nrm]
   refine step_one 11 rfl (by kernel_rfl) (fun KK hK => ?_)
   go_simp; refine (put_any HS4.out.1 (HTZ.out.below HS4.out.2) (HTB.out.mono HKK.out.1) (HTM.out.below HS4.out.2) HFL.out HMY.out HNL.out HKK.out.2).mono ?_
   rintro e w5 ⟨o3, n3, c3, rfl, hX, hB⟩
   have HS5 : Hid (Pz (bd (k + 1)) w5 o3 n3 c3 (addT p (q.take (k + 1))) ∧ Below w.heap.size w w5) := ⟨by have h := HSK.out; rw [HQ.out] at h ⊢; exact hX.next h, Below.steps HS4.out.2 hB⟩
   clear HS4 hX hB HQ; go_wp2_with fail
   clear hH; refine hK.out _ _ (HCL.out _ HS5.out.2) fun hH => ?_; clear hK KK
   try simp only [nrm]
   refine son 12 hH ?_; try simp only [nrm]
   refine wpAnyH_done (by kernel_rfl) ?_ _
   go_wp2_with fail
   go_roundw
   case rel => exact ⟨k + 1, n3, c3, o3, by go_num, rfl, by omega, HS5.out⟩
   case measure => simp [intOf]; omega
  ·obtain rfl : k = l := by omega
   go_wp2_with fail
   go_ret
   refine ⟨_, _, _, rfl, ?_, HS.out.2⟩
   have h := HS.out.1
   rw [List.take_of_length_le (by rw [HQL.out]; exact Nat.le_refl _)] at h
   exact h
theorem add_any8 [Ol] {K : Nat} {ao bo : Option Addr} {n cap l cb : Nat} {p q : List Term} {w : World} (hp : Pz K w ao n cap p) (hq : Pz K w bo l cb q) (hf : fall p) (hm : mays q) (hn : n + l ≤ 100000) (hK : K + l ≤ 9000) :
  Calls Tryz.prog 25 #[.slice ao n cap, .slice bo l cb] w (NewPz (K + l) w (addT p q)) :=
 add_anyG (bd := fun k => K + k) hp hq hf hm (by omega) (fun k hk => ⟨Nat.le_add_right _ _, by show K + k ≤ 9000; omega⟩) fun k _ => .inl (Nat.le_refl _)
open Lib (hid)
theorem mulT_length (t : Term) (q : List Term) : (mulT t q).length = q.length := by simp [mulT]
theorem mulL_length (q : List Term) : ∀ p : List Term, (mulL p q).length = p.length * q.length
 | [] => by simp [mulL]
 | t :: r => by simp only [mulL, List.length_append, mulT_length, mulL_length q r, List.length_cons, Nat.add_mul]; omega
theorem mulL_append (q : List Term) : ∀ a b : List Term, mulL (a ++ b) q = mulL a q ++ mulL b q
 | [], _ => rfl
 | t :: a, b => by simp [mulL, mulL_append q a b]
def fitB (p q : List Term) : Bool := p.all fun t => q.all fun s => mayM 0 (mulM t.2 s.2)
theorem fitB_iff {p q : List Term} : fitB p q = true ↔ fitT p q := by
 unfold fitB fitT
 simp only [List.all_eq_true]
def tryT (p q : List Term) : List Term × Bool := if fitB p q = true then (timesT p q, true) else ([], false)
theorem tryT_yes {p q : List Term} (h : fitT p q) : tryT p q = (timesT p q, true) := if_pos (fitB_iff.2 h)
theorem tryT_no {p q : List Term} (h : ¬ fitT p q) : tryT p q = ([], false) := if_neg (fun g => h (fitB_iff.1 g))
def NewPB [Ol] (K : Nat) (w : World) (p : List Term) (b : Bool) (e : Ending) (w' : World) : Prop := ∃ ao n cap, e = .returned (.tuple #[.slice ao n cap, .bool b]) ∧ Pz K w' ao n cap p ∧ Below w.heap.size w w'
def upT (p q : List Term) (t : Term) (k j : Nat) : List Term := ofT (mulL (p.take k) q ++ mulT t (q.take j))
theorem upT_next {p q : List Term} (t : Term) (k j : Nat) (hj : j < q.length) : upT p q t k (j + 1) = putT (upT p q t k j) (t.1 * (q[j]).1) (mulM t.2 (q[j]).2) := by
 unfold upT mulT ofT
 rw [List.take_succ_eq_append_getElem hj, List.map_append, ← List.append_assoc, addT_append]
 simp [addT]
theorem upT_zero {p q : List Term} (t : Term) (k : Nat) : upT p q t k 0 = timesT (p.take k) q := by simp [upT, mulT, timesT]
theorem upT_row {p q : List Term} (k : Nat) (hk : k < p.length) : upT p q p[k] k q.length = timesT (p.take (k + 1)) q := by
 unfold upT timesT
 rw [List.take_succ_eq_append_getElem hk, mulL_append, List.take_length]
 simp [mulL]
theorem upT_len {p q : List Term} (t : Term) (k j : Nat) (hk : k ≤ p.length) (hj : j ≤ q.length) : (upT p q t k j).length ≤ k * q.length + j := by
 unfold upT ofT
 have h := addT_length [] (mulL (p.take k) q ++ mulT t (q.take j)); rw [List.length_append, mulL_length, mulT_length, List.length_take, List.length_take, Nat.min_eq_left hk, Nat.min_eq_left hj] at h
 simpa using h
theorem upT_fall {p q : List Term} (t : Term) (k j : Nat) (h1 : fitT (p.take k) q) (h2 : ∀ s ∈ q.take j, mayM 0 (mulM t.2 s.2) = true) : fall (upT p q t k j) := by
 refine (ofT_spec fun s hs => ?_).1
 rcases List.mem_append.1 hs with hs | hs
 ·exact mulL_mays h1 s hs
 ·obtain ⟨u, hu, rfl⟩ := List.mem_map.1 hs
  exact h2 u hu
theorem fit_next {p q : List Term} (k : Nat) (hk : k < p.length) (h1 : fitT (p.take k) q) (h2 : ∀ s ∈ q, mayM 0 (mulM (p[k]).2 s.2) = true) : fitT (p.take (k + 1)) q := by
 intro t ht s hs
 rw [List.take_succ_eq_append_getElem hk] at ht
 rcases List.mem_append.1 ht with ht | ht
 ·exact h1 t ht s hs
 ·rw [List.mem_singleton] at ht
  subst ht
  exact h2 s hs
theorem fit_in {t : Term} {q : List Term} (j : Nat) (hj : j < q.length) (h : ∀ s ∈ q.take j, mayM 0 (mulM t.2 s.2) = true) (h2 : mayM 0 (mulM t.2 (q[j]).2) = true) : ∀ s ∈ q.take (j + 1), mayM 0 (mulM t.2 s.2) = true := by
 intro s hs
 rw [List.take_succ_eq_append_getElem hj] at hs
 rcases List.mem_append.1 hs with hs | hs
 ·exact h s hs
 ·rw [List.mem_singleton] at hs
  subst hs
  exact h2
theorem times_anyG [Ol] {Kp Kq : Nat} {bd : Nat → Nat} {ao bo : Option Addr} {n cap l cb : Nat} {p q : List Term} {w : World} (hp : Pz Kp w ao n cap p) (hq : Pz Kq w bo l cb q) (hmp : mays p) (hmq : mays q) (hL : n * l ≤ 2000000) (hB : ∀ i, i ≤ n * l → Kp + Kq ≤ bd i ∧ bd i ≤ 9000)
  (hs : ∀ k j (hk : k < p.length), j < q.length → bd (k * l + j) + 1 ≤ bd (k * l + (j + 1)) ∨ ∀ t ∈ upT p q p[k] k (j + 1), Bd t.1 (bd (k * l + (j + 1)))) :
  Calls Tryz.prog 60 #[.slice ao n cap, .slice bo l cb] w (NewPB (bd (n * l)) w (tryT p q).1 (tryT p q).2) := by
 obtain ⟨A, hA⟩ : ∃ A, A = n * l := ⟨_, rfl⟩; rw [← hA] at hB hL; rw [← hA]; have HBB := hid hB; have HSS := hid hs; clear hB hs; obtain ⟨vss, hG, hT⟩ := hp.ex; obtain ⟨uss, hG2, hT2⟩ := hq.ex; have hbig := hG.big; have hbig2 := hG2.big; have HLP := hid hp.len; have HLQ := hid hq.len; have HGP := hid hG; have HTP := hid hT; have HGQ := hid hG2; have HTQ := hid hT2; have HMP := hid hmp; have HMQ := hid hmq; have HA := hid hA; obtain ⟨R, hR⟩ : ∃ R, R = tryT p q := ⟨_, rfl⟩; rw [← hR]; have HR := hid hR
 clear hp hq hmp hmq hG hT hG2 hT2 hR hA
 go_enter Tryz.func60, Tryz.ntmps60
 go_wp2
 go_loopw [6, 7, 8, 9, 10] (fun o i _ _ _ wr => ∃ (k n2 c2 : Nat) (oo : Option Addr), i = .int .i64 k ∧ o = .slice oo n2 c2 ∧ k ≤ n ∧ Hid (fitT (p.take k) q) ∧ Hid (Pz (bd (k * l)) wr oo n2 c2 (timesT (p.take k) q) ∧ Below w.heap.size w wr)) (fun _ i _ _ _ _ => n - (intOf i).toNat)
 case atStart => exact ⟨0, 0, 0, none, rfl, rfl, Nat.zero_le _, fun _ h => by simp at h, Pz.zero _ _, Below.refl _ _⟩
 case round =>
  obtain ⟨k, n2, c2, oo, rfl, rfl, hk, HFT, HS⟩ := hrel
  by_cases hkn : k < n
  ·obtain ⟨N, hN⟩ : ∃ N, N = k * l := ⟨_, rfl⟩
   have hNA : N + l ≤ A := by
    rw [hN, HA.out]; have h := Nat.mul_le_mul_right l (show k + 1 ≤ n from hkn)
    rwa [Nat.add_mul, Nat.one_mul] at h
   obtain ⟨b, off, rfl, _, hcl⟩ := HGP.out.at (by omega)
   obtain ⟨xm, xa, xn, xc, xp, xq, xr, hv, tz, tb, tmm⟩ := Tms.get (0, []) HTP.out k (by rw [HLP.out]; assumption)
   have hcells : ∀ V : World, Below w.heap.size w V → (V.cell? ⟨b, off + k * 3, none⟩ = some (.bool xm) ∧ V.cell? ⟨b, off + k * 3 + 1, none⟩ = some (.slice xa xn xc) ∧ V.cell? ⟨b, off + k * 3 + 2, none⟩ = some (.slice xp xq xr)) := by
    intro V hV
    have h0 := hcl V hV k (by assumption) 0 (by omega)
    have h1 := hcl V hV k (by assumption) 1 (by omega)
    have h2 := hcl V hV k (by assumption) 2 (by omega)
    rw [hv] at h0 h1 h2
    exact ⟨h0, h1, h2⟩
   have HCP := hid hcells; clear hcl hv hcells
   have hlP : k < p.length := by rw [HLP.out]; assumption
   have eqP : p.getD k (0, []) = p[k] := by simp [List.getD, List.getElem?_eq_getElem hlP]
   rw [eqP] at tz tb tmm; have HZP := hid tz
   have HBP := hid tb; have HMLP := hid tmm; clear tz tb tmm eqP; have HN := hid hN
   have HS0 : Hid (Pz (bd (N + 0)) wr oo n2 c2 (upT p q p[k] k 0) ∧ Below w.heap.size w wr) := by rw [upT_zero, hN]; exact HS.out
   clear HS hN
   go_wp2
   go_loopw [6, 8, 9, 10] (fun o i _ _ wi => ∃ (j n3 c3 : Nat) (o3 : Option Addr), i = .int .i64 j ∧ o = .slice o3 n3 c3 ∧ j ≤ l ∧ Hid (∀ s ∈ q.take j, mayM 0 (mulM (p[k]).2 s.2) = true) ∧ Hid (Pz (bd (N + j)) wi o3 n3 c3 (upT p q p[k] k j) ∧ Below w.heap.size w wi)) (fun _ i _ _ _ => l - (intOf i).toNat)
   case atStart => exact ⟨0, n2, c2, oo, rfl, rfl, Nat.zero_le _, fun _ h => by simp at h, HS0.out⟩
   case round =>
    clear HS0; obtain ⟨j, n3, c3, o3, rfl, rfl, hj, HFI, HS⟩ := hrel
    by_cases hjl : j < l
    ·obtain ⟨d, dff, rfl, _, hcl⟩ := HGQ.out.at (by omega)
     obtain ⟨ym, ya, yn, yc, yp, yq, yr, hv, tz, tb, tmm⟩ := Tms.get (0, []) HTQ.out j (by rw [HLQ.out]; assumption)
     have hcells : ∀ V : World, Below w.heap.size w V → (V.cell? ⟨d, dff + j * 3, none⟩ = some (.bool ym) ∧ V.cell? ⟨d, dff + j * 3 + 1, none⟩ = some (.slice ya yn yc) ∧ V.cell? ⟨d, dff + j * 3 + 2, none⟩ = some (.slice yp yq yr)) := by
      intro V hV
      have h0 := hcl V hV j (by assumption) 0 (by omega)
      have h1 := hcl V hV j (by assumption) 1 (by omega)
      have h2 := hcl V hV j (by assumption) 2 (by omega)
      rw [hv] at h0 h1 h2
      exact ⟨h0, h1, h2⟩
     have HCQ := hid hcells; clear hcl hv hcells
     have hlQ : j < q.length := by rw [HLQ.out]; assumption
     have eqQ : q.getD j (0, []) = q[j] := by simp [List.getD, List.getElem?_eq_getElem hlQ]
     rw [eqQ] at tz tb tmm; have HZQ := hid tz
     have HBQ := hid tb; have HMLQ := hid tmm; clear tz tb tmm eqQ
     have HMX : Hid (mayM 0 (p[k]).2 = true) := HMP.out _ (List.getElem_mem _)
     have HMY : Hid (mayM 0 (q[j]).2 = true) := HMQ.out _ (List.getElem_mem _)
     have HFL : Hid (fall (upT p q p[k] k j)) := upT_fall _ k j HFT.out HFI.out
     have HNL : Hid (n3 ≤ 2000000) := by
      have h1 := HS.out.1.len
      have h2 := upT_len (p := p) (q := q) p[k] k j (by omega) (by omega)
      rw [HLQ.out, ← HN.out] at h2
      rw [Hid]; omega
     have HKK : Hid (Kp + Kq ≤ bd (N + j) ∧ bd (N + j) ≤ 9000) := HBB.out _ (by omega)
     have HSK : Hid (bd (N + j) + 1 ≤ bd (N + (j + 1)) ∨ ∀ t ∈ upT p q p[k] k (j + 1), Bd t.1 (bd (N + (j + 1)))) := by have h := HSS.out k j hlP hlQ; rwa [← HN.out] at h
     go_upto_region 8 with (fail)
     refine wp_region_held_drew (S := fun w' => (w'.cell? ⟨b, off + k * 3, none⟩ = some (.bool xm) ∧ w'.cell? ⟨b, off + k * 3 + 1, none⟩ = some (.slice xa xn xc) ∧ w'.cell? ⟨b, off + k * 3 + 2, none⟩ = some (.slice xp xq xr)) ∧ (w'.cell? ⟨d, dff + j * 3, none⟩ = some (.bool ym) ∧ w'.cell? ⟨d, dff + j * 3 + 1, none⟩ = some (.slice ya yn yc) ∧ w'.cell? ⟨d, dff + j * 3 + 2, none⟩ = some (.slice yp yq yr))) (by kernel_rfl) ⟨HCP.out _ (HS.out.2).drew, HCQ.out _ (HS.out.2).drew⟩ (fun hH => ?_)
     refine anyH_world (fun w4 hW => ?_)
     have HS4 : Hid (Pz (bd (N + j)) w4 o3 n3 c3 (upT p q p[k] k j) ∧ Below w.heap.size w w4) := by rw [hW]; exact ⟨HS.out.1.below (Below.refl _ _).drew, HS.out.2.drew⟩
     clear HS; rw [← hW] at hH; clear hW
     refine son 0 hH ?_; try simp only [nrm]
     refine son 1 hH ?_; try simp only [nrm]
     refine son 2 hH ?_; try simp only [nrm]
     refine son 3 hH ?_; try simp only [nrm]
     refine son 4 hH ?_; try simp only [nrm]
     refine son 5 hH ?_; try simp only [nrm]
     refine son 6 hH ?_; try simp only [nrm]
     refine son 7 hH ?_; try simp only [nrm]
     refine son 8 hH ?_; try simp only [nrm]
     refine son 9 hH ?_; try simp only [nrm]
     refine step_one 10 rfl (by kernel_rfl) (fun KK hK => ?_)
     go_simp; have ht7 := times7_any (HMLP.out.below HS4.out.2) (HMLQ.out.below HS4.out.2)
     by_cases hfit : mayM 0 (mulM (p[k]).2 (q[j]).2) = true
     ·rw [show joinR (fun x y => x + y) 8 (p[k]).2 (q[j]).2 = (mulM (p[k]).2 (q[j]).2, 0) from by unfold joinR; rw [if_pos ⟨HMX.out, HMY.out⟩]; exact if_pos hfit] at ht7
      refine ht7.mono ?_
      rintro e w5 ⟨mo, mn, mc, rfl, hX, hB⟩; clear ht7
      have HS5 : Hid (Pz (bd (N + j)) w5 o3 n3 c3 (upT p q p[k] k j) ∧ Below w.heap.size w w5) := ⟨HS4.out.1.below hB, Below.steps HS4.out.2 hB⟩
      have HML := hid hX
      have HFJ : Hid (∀ s ∈ q.take (j + 1), mayM 0 (mulM (p[k]).2 s.2) = true) := fit_in j hlQ HFI.out hfit
      have HFIT := hid hfit; clear hX hB HS4 HFI hfit; go_wp2_with fail
      clear hH; refine hK.out _ _ ⟨HCP.out _ HS5.out.2, HCQ.out _ HS5.out.2⟩ fun hH => ?_; clear hK KK
      try simp only [nrm]
      refine son 11 hH ?_; try simp only [nrm]
      refine son 12 hH ?_; try simp only [nrm]
      refine son 13 hH ?_; try simp only [nrm]
      refine son 14 hH ?_; try simp only [nrm]
      refine son 15 hH ?_; try simp only [nrm]
      refine wpAnyH_done (by kernel_rfl) ?_ _
      go_upto_region 11 with (fail)
      refine wp_region_held_drew (S := fun w' => (w'.cell? ⟨b, off + k * 3, none⟩ = some (.bool xm) ∧ w'.cell? ⟨b, off + k * 3 + 1, none⟩ = some (.slice xa xn xc) ∧ w'.cell? ⟨b, off + k * 3 + 2, none⟩ = some (.slice xp xq xr)) ∧ (w'.cell? ⟨d, dff + j * 3, none⟩ = some (.bool ym) ∧ w'.cell? ⟨d, dff + j * 3 + 1, none⟩ = some (.slice ya yn yc) ∧ w'.cell? ⟨d, dff + j * 3 + 2, none⟩ = some (.slice yp yq yr))) (by kernel_rfl) ⟨HCP.out _ (HS5.out.2).drew, HCQ.out _ (HS5.out.2).drew⟩ (fun hH => ?_)
      refine anyH_world (fun w4 hW => ?_)
      have HS6 : Hid (Pz (bd (N + j)) w4 o3 n3 c3 (upT p q p[k] k j) ∧ Below w.heap.size w w4) := by rw [hW]; exact ⟨HS5.out.1.below (Below.refl _ _).drew, HS5.out.2.drew⟩
      have HML6 : Hid (Ml w4 mo mn mc (mulM (p[k]).2 (q[j]).2)) := by rw [hW]; exact HML.out.below (Below.refl _ _).drew
      clear HS5 HML; rw [← hW] at hH; clear hW
      refine son 0 hH ?_; try simp only [nrm]
      refine son 1 hH ?_; try simp only [nrm]
      refine son 2 hH ?_; try simp only [nrm]
      refine son 3 hH ?_; try simp only [nrm]
      refine son 4 hH ?_; try simp only [nrm]
      refine son 5 hH ?_; try simp only [nrm]
      refine son 6 hH ?_; try simp only [nrm]
      refine son 7 hH ?_; try simp only [nrm]
      refine son 8 hH ?_; try simp only [nrm]
      refine son 9 hH ?_; try simp only [nrm]
      refine son 10 hH ?_; try simp only [nrm]
      refine son 12 hH ?_; try simp only [nrm]
      refine step_one 11 rfl (by kernel_rfl) (fun KK hK => ?_)
      go_simp
      refine (zmul_any ((HZP.out.below HS6.out.2).zx HBP.out (by have := HKK.out; omega)) ((HZQ.out.below HS6.out.2).zx HBQ.out (by have := HKK.out; omega))).mono ?_
      rintro e w6 ⟨rm, ra, rn, rc, rfl, hX, hB⟩
      have HS7 : Hid (Pz (bd (N + j)) w6 o3 n3 c3 (upT p q p[k] k j) ∧ Below w.heap.size w w6) := ⟨HS6.out.1.below hB, Below.steps HS6.out.2 hB⟩
      have HML7 := hid (HML6.out.below hB); have HZ7 := hid hX
      have HB7 : Hid (Bd ((p[k]).1 * (q[j]).1) (bd (N + j))) := (HBP.out.mul HBQ.out).mono HKK.out.1
      clear HS6 HML6 hX hB; go_wp2_with fail
      clear hH; refine hK.out _ _ ⟨HCP.out _ HS7.out.2, HCQ.out _ HS7.out.2⟩ fun hH => ?_; clear hK KK
      try simp only [nrm]
      refine step_one 13 rfl (by kernel_rfl) (fun KK hK => ?_)
      go_simp; refine (put_any HS7.out.1 HZ7.out HB7.out HML7.out HFL.out HFIT.out HNL.out HKK.out.2).mono ?_
      rintro e w8 ⟨o8, n8, c8, rfl, hX, hB⟩
      have HS8 : Hid (Pz (bd (N + (j + 1))) w8 o8 n8 c8 (upT p q p[k] k (j + 1)) ∧ Below w.heap.size w w8) := ⟨by have h := HSK.out; rw [upT_next _ k j hlQ] at h ⊢; exact hX.next h, Below.steps HS7.out.2 hB⟩
      clear HS7 HML7 HZ7 HB7 hX hB HFL HFIT; go_wp2_with fail
      clear hH; refine hK.out _ _ ⟨HCP.out _ HS8.out.2, HCQ.out _ HS8.out.2⟩ fun hH => ?_; clear hK KK
      try simp only [nrm]
      refine son 14 hH ?_; try simp only [nrm]
      refine wpAnyH_done (by kernel_rfl) ?_ _
      go_wp2_with fail
      go_roundw
      case rel => exact ⟨j + 1, n8, c8, o8, by go_num, rfl, by omega, HFJ, HS8.out⟩
      case measure => simp [intOf]; omega
     ·have HR2 : Hid (R = ([], false)) := HR.out.trans (tryT_no fun h => hfit (h _ (List.getElem_mem _) _ (List.getElem_mem _)))
      rw [show joinR (fun x y => x + y) 8 (p[k]).2 (q[j]).2 = ([], 8) from by unfold joinR; rw [if_pos ⟨HMX.out, HMY.out⟩]; exact if_neg hfit] at ht7
      refine ht7.mono ?_
      rintro e w5 ⟨mo, mn, mc, rfl, hX, hB⟩; clear ht7 hfit
      have HB5 : Hid (Below w.heap.size w w5) := Below.steps HS4.out.2 hB
      clear hX hB HS4; go_wp2_with fail
      clear hH; refine hK.out _ _ ⟨HCP.out _ HB5.out, HCQ.out _ HB5.out⟩ fun hH => ?_; clear hK KK
      try simp only [nrm]
      refine son 11 hH ?_; try simp only [nrm]
      refine son 12 hH ?_; try simp only [nrm]
      refine son 13 hH ?_; try simp only [nrm]
      refine son 14 hH ?_; try simp only [nrm]
      refine son 15 hH ?_; try simp only [nrm]
      refine wpAnyH_done (by kernel_rfl) ?_ _
      go_wp2_with fail
      refine bodyPost_ret (v := .tuple #[.slice none 0 0, .bool false]) (by simp [results, Tryz.results60, go_sem]) rfl ?_
      exact ⟨none, 0, 0, by rw [HR2.out], by rw [HR2.out]; exact Pz.zero _ _, HB5.out⟩
    ·obtain rfl : j = l := by omega
     have HFN : Hid (fitT (p.take (k + 1)) q) := fit_next k hlP HFT.out (by have h := HFI.out; rwa [List.take_of_length_le (by rw [HLQ.out]; exact Nat.le_refl _)] at h)
     have HS2 : Hid (Pz (bd ((k + 1) * j)) wr o3 n3 c3 (timesT (p.take (k + 1)) q) ∧ Below w.heap.size w wr) := by
      rw [← upT_row k hlP, HLQ.out, Nat.add_mul, Nat.one_mul, ← HN.out]
      exact HS.out
     clear HS HFI HFT; go_wp2_with fail
     go_roundw
     case rel => exact ⟨k + 1, n3, c3, o3, by go_num, rfl, by omega, HFN, HS2⟩
     case measure => simp [intOf]; omega
  ·obtain rfl : k = n := by omega
   have HFN : Hid (fitT p q) := by have h := HFT.out; rwa [List.take_of_length_le (by rw [HLP.out]; exact Nat.le_refl _)] at h
   have HR2 : Hid (R = (timesT p q, true)) := HR.out.trans (tryT_yes HFN.out)
   have HS2 : Hid (Pz (bd A) wr oo n2 c2 (timesT p q) ∧ Below w.heap.size w wr) := by have h := HS.out; rwa [List.take_of_length_le (by rw [HLP.out]; exact Nat.le_refl _), ← HA.out] at h
   clear HS HFT; go_wp2_with fail
   refine bodyPost_ret (v := .tuple #[.slice oo n2 c2, .bool true]) (by simp [results, Tryz.results60, go_sem]) rfl ?_
   exact ⟨_, _, _, by rw [HR2.out], by rw [HR2.out]; exact HS2.out.1, HS2.out.2⟩
theorem times_any8 [Ol] {Kp Kq : Nat} {ao bo : Option Addr} {n cap l cb : Nat} {p q : List Term} {w : World} (hp : Pz Kp w ao n cap p) (hq : Pz Kq w bo l cb q) (hmp : mays p) (hmq : mays q) (hK : Kp + Kq + n * l ≤ 9000) :
  Calls Tryz.prog 60 #[.slice ao n cap, .slice bo l cb] w (NewPB (Kp + Kq + n * l) w (tryT p q).1 (tryT p q).2) :=
 times_anyG (bd := fun i => Kp + Kq + i) hp hq hmp hmq (by omega) (fun i hi => ⟨Nat.le_add_right _ _, by show Kp + Kq + i ≤ 9000; omega⟩) fun k j _ _ => .inl (Nat.le_refl _)
open Lib (hid)
def smallT (n : Int) : List Term := putT [] n []
theorem smallT_fall (n : Int) : fall (smallT n) := (putT_spec n (p := []) trivial rfl).1
theorem bd_small {n : Int} (h : -9223372036854775808 ≤ n ∧ n ≤ 9223372036854775807) : Bd n 2 := by
 unfold Bd
 have : (2 : Nat) ^ (32 * 2) = 18446744073709551616 := by decide
 omega
theorem mul_any8 [Ol] {Kp Kq : Nat} {ao bo : Option Addr} {n cap l cb : Nat} {p q : List Term} {w : World} (hp : Pz Kp w ao n cap p) (hq : Pz Kq w bo l cb q) (hmp : mays p) (hmq : mays q) (hK : Kp + Kq + n * l ≤ 9000) :
  Calls Tryz.prog 24 #[.slice ao n cap, .slice bo l cb] w (NewPz (Kp + Kq + n * l) w (tryT p q).1) := by
 have ht := times_any8 hp hq hmp hmq hK; have HT := hid ht; clear hp hq hmp hmq ht hK
 go_enter Tryz.func24, Tryz.ntmps24
 go_wp2_with fail
 refine HT.out.mono ?_
 rintro e w1 ⟨ro, rn, rc, rfl, hX, hB⟩; have HR := hid hX; have HB := hid hB; clear hX hB HT; go_wp2_with fail
 go_ret
 exact ⟨_, _, _, rfl, HR.out, HB.out⟩
theorem small_any8 [Ol] (n : Int) (w : World) (h : -9223372036854775808 ≤ n ∧ n ≤ 9223372036854775807) :
  Calls Tryz.prog 26 #[.int .i64 n] w (NewPz 3 w (smallT n)) := by
 have HN := hid h; clear h
 go_enter Tryz.func26, Tryz.ntmps26
 go_wp2_with fail; refine (zsmall_any n w HN.out).mono ?_
 rintro e w1 ⟨m, ao, k, cap, rfl, hX, hB⟩; have HX := hid hX; have HB := hid hB; clear hX hB; go_wp2_with fail
 refine (put_any (K := 2) (p := []) (Pz.zero _ _) HX.out (bd_small HN.out) (Ml.zero _) trivial rfl (by omega) (by omega)).mono ?_
 rintro e w2 ⟨ro, rn, rc, rfl, hX, hB⟩; have HR := hid hX; have HB2 := hid (Below.steps HB.out hB); clear hX hB HB; go_wp2_with fail
 go_ret
 exact ⟨_, _, _, rfl, HR.out, HB2.out⟩
open Lib (hid)
def TmI [Ol] (K : Nat) (w : World) (vs : List Value) (t : Term) : Prop :=
 ∃ m ao n cap bo k cb, vs = [.bool m, .slice ao n cap, .slice bo k cb] ∧ In w m ao n cap t.1 ∧ n ≤ K ∧ Ml w bo k cb t.2
theorem TmI.below [Ol] {K : Nat} {w w' : World} {vs : List Value} {t : Term} (h : TmI K w vs t) (hb : Below w.heap.size w w') : TmI K w' vs t := by
 obtain ⟨m, ao, n, cap, bo, k, cb, h1, h2, h3, h4⟩ := h
 exact ⟨m, ao, n, cap, bo, k, cb, h1, h2.below hb, h3, h4.below hb⟩
structure Pi [Ol] (K : Nat) (w : World) (ao : Option Addr) (n cap : Nat) (p : List Term) : Prop where
 ex : ∃ vss, Gl 3 w ao n cap vss ∧ Tms (TmI K w) vss p
theorem Pi.len [Ol] {K : Nat} {w : World} {ao : Option Addr} {n cap : Nat} {p : List Term} (h : Pi K w ao n cap p) : p.length = n := by
 obtain ⟨vss, h1, h2⟩ := h.ex; rw [← h2.len, h1.len]
theorem Pi.below [Ol] {K : Nat} {w w' : World} {ao : Option Addr} {n cap : Nat} {p : List Term} (h : Pi K w ao n cap p) (hb : Below w.heap.size w w') : Pi K w' ao n cap p := by
 obtain ⟨vss, h1, h2⟩ := h.ex
 exact ⟨vss, h1.below hb, h2.imp fun v a h => h.below hb⟩
theorem of_any8 [Ol] {K : Nat} {bo : Option Addr} {l cb : Nat} {q : List Term} {w : World} (hq : Pi K w bo l cb q) (hm : mays q) (hn : l ≤ 100000) (hK : K + l ≤ 9000) :
  Calls Tryz.prog 35 #[.slice bo l cb] w (NewPz (K + l) w (ofT q)) := by
 obtain ⟨vss, hG, hT⟩ := hq.ex; have hle := hG.le; have hbig := hG.big; have hql := hq.len; have HG := hid hG; have HT := hid hT; have HMM := hid hm; have HQL := hid hql; clear hq hm hG hT hql
 go_enter Tryz.func35, Tryz.ntmps35
 go_wp2
 go_loopw [3, 4] (fun o i wr => ∃ (k n2 c2 : Nat) (oo : Option Addr), i = .int .i64 k ∧ o = .slice oo n2 c2 ∧ k ≤ l ∧ Hid (Pz (K + k) wr oo n2 c2 (ofT (q.take k)) ∧ Below w.heap.size w wr)) (fun _ i _ => l - (intOf i).toNat)
 case atStart => exact ⟨0, 0, 0, none, rfl, rfl, Nat.zero_le _, Pz.zero _ _, Below.refl _ _⟩
 case round =>
  obtain ⟨k, n2, c2, oo, rfl, rfl, hk, HS⟩ := hrel
  by_cases hkl : k < l
  ·obtain ⟨b, off, rfl, hb, hcl⟩ := HG.out.at (by omega)
   obtain ⟨tm, ta, tn, tc, ba, bn, bc, hv, tz, tb, tmm⟩ := Tms.get (0, []) HT.out k (by rw [HQL.out]; exact hkl)
   have hcells : ∀ V : World, Below w.heap.size w V → V.cell? ⟨b, off + k * 3, none⟩ = some (.bool tm) ∧ V.cell? ⟨b, off + k * 3 + 1, none⟩ = some (.slice ta tn tc) ∧ V.cell? ⟨b, off + k * 3 + 2, none⟩ = some (.slice ba bn bc) := by
    intro V hV
    have h0 := hcl V hV k hkl 0 (by omega)
    have h1 := hcl V hV k hkl 1 (by omega)
    have h2 := hcl V hV k hkl 2 (by omega)
    rw [hv] at h0 h1 h2
    exact ⟨h0, h1, h2⟩
   have HCL := hid hcells; have HTZ := hid tz; have HTB := hid tb; have HTM := hid tmm; obtain ⟨t, ht⟩ : ∃ t, t = q.getD k (0, []) := ⟨_, rfl⟩
   have hlq : k < q.length := by rw [HQL.out]; exact hkl
   have ht2 : t = q[k] := by rw [ht]; simp [List.getD, List.getElem?_eq_getElem hlq]
   have HMY : Hid (mayM 0 t.2 = true) := HMM.out _ (by rw [ht2]; exact List.getElem_mem _)
   have HQ : Hid (ofT (q.take (k + 1)) = putT (ofT (q.take k)) t.1 t.2) := by
    unfold ofT
    rw [Hid, List.take_succ_eq_append_getElem hlq, addT_append, ← ht2]
    simp [addT]
   have HFL : Hid (fall (ofT (q.take k))) := (ofT_spec (fun s hs => HMM.out s (List.mem_of_mem_take hs))).1
   have HNL : Hid (n2 ≤ 2000000) := by
    have h1 := HS.out.1.len; have h2 := addT_length [] (q.take k); rw [List.length_take] at h2
    unfold ofT at h1
    simp only [List.length_nil] at h2
    rw [Hid]; omega
   have HKK : Hid (K + k ≤ 9000) := by rw [Hid]; omega
   rw [← ht] at HTZ HTM; clear hcl hv hcells tz tb tmm ht ht2 hlq
   go_upto_region 5 with (fail)
   refine wp_region_held_drew (S := fun w' => w'.cell? ⟨b, off + k * 3, none⟩ = some (.bool tm) ∧ w'.cell? ⟨b, off + k * 3 + 1, none⟩ = some (.slice ta tn tc) ∧ w'.cell? ⟨b, off + k * 3 + 2, none⟩ = some (.slice ba bn bc)) (by kernel_rfl) (HCL.out _ HS.out.2.drew) (fun hH => ?_)
   refine anyH_world (fun w4 hW => ?_)
   have HS4 : Hid (Pz (K + k) w4 oo n2 c2 (ofT (q.take k)) ∧ Below w.heap.size w w4) := by rw [hW]; exact ⟨HS.out.1.below (Below.refl _ _).drew, HS.out.2.drew⟩
   rw [← hW] at hH; clear hW HS
   refine son 0 hH ?_; try simp only [nrm]
   refine son 1 hH ?_; try simp only [nrm]
   refine son 2 hH ?_; try simp only [nrm]
   refine son 3 hH ?_; try simp only [nrm]
   refine son 4 hH ?_; try simp only [nrm]
   refine son 5 hH ?_; try simp only [nrm]
   refine son 7 hH ?_; try simp only [nrm]
   refine son 8 hH ?_; try simp only [nrm]
   refine son 9 hH ?_; try simp only [nrm]
   refine son 10 hH ?_; try simp only [nrm]
   refine son 11 hH ?_; try simp only [nrm]
   refine step_one 6 rfl (by kernel_rfl) (fun KK hK => ?_)
   go_simp
   refine (zof_any ⟨HTZ.out.below HS4.out.2, Nat.le_trans HTB.out (by omega)⟩).mono ?_
   rintro e w5 ⟨rm, ra, rn, rc, rfl, hX, hB⟩
   have HS5 : Hid (Pz (K + k) w5 oo n2 c2 (ofT (q.take k)) ∧ Below w.heap.size w w5) := ⟨HS4.out.1.below hB, Below.steps HS4.out.2 hB⟩
   have HZ5 := hid hX
   have HB5 : Hid (Bd t.1 (K + k)) := (HTZ.out.bd HTB.out).mono (Nat.le_add_right K k)
   clear HS4 hX hB HTZ; go_wp2_with fail
   clear hH; refine hK.out _ _ (HCL.out _ HS5.out.2) fun hH => ?_; clear hK KK
   try simp only [nrm]
   refine step_one 12 rfl (by kernel_rfl) (fun KK hK => ?_)
   go_simp; refine (put_any HS5.out.1 HZ5.out HB5.out (HTM.out.below HS5.out.2) HFL.out HMY.out HNL.out HKK.out).mono ?_
   rintro e w6 ⟨o3, n3, c3, rfl, hX, hB⟩
   have HS6 : Hid (Pz (K + (k + 1)) w6 o3 n3 c3 (ofT (q.take (k + 1))) ∧ Below w.heap.size w w6) := ⟨by rw [HQ.out]; exact hX, Below.steps HS5.out.2 hB⟩
   clear HS5 hX hB HQ HZ5; go_wp2_with fail
   clear hH; refine hK.out _ _ (HCL.out _ HS6.out.2) fun hH => ?_; clear hK KK
   try simp only [nrm]
   refine son 13 hH ?_; try simp only [nrm]
   refine wpAnyH_done (by kernel_rfl) ?_ _
   go_wp2_with fail
   go_roundw
   case rel => exact ⟨k + 1, n3, c3, o3, by go_num, rfl, by omega, HS6.out⟩
   case measure => simp [intOf]; omega
  ·obtain rfl : k = l := by omega
   go_wp2_with fail
   go_ret
   refine ⟨_, _, _, rfl, ?_, HS.out.2⟩
   have h := HS.out.1
   rw [List.take_of_length_le (by rw [HQL.out]; exact Nat.le_refl _)] at h
   exact h
open Lib (hid)
theorem clean_stays {w w' : World} {g : Nat} (hc : CleanB w g) (hG : w.grownBy w' (some g)) {k : IntKind} {x : Int} {ad : Addr} (h : w.cell? ad = some (.int k x)) : w'.cell? ad = some (.int k x) :=
 hG.cell h fun eq => hc.far h (Option.some.inj eq)
theorem Ml.staysC [Ol] {w w' : World} {g : Nat} (hc : CleanB w g) (hG : w.grownBy w' (some g)) {bo : Option Addr} {k cb : Nat} {ps : List (Int × Int)} (h : Ml w bo k cb ps) : Ml w' bo k cb ps :=
 ⟨h.len, h.le, h.big, h.wf, h.nil, fun ad had t ht => ⟨clean_stays hc hG (h.cells ad had t ht).1, clean_stays hc hG (h.cells ad had t ht).2⟩, fun h0 ad had => by
  obtain ⟨x, hx⟩ := h.int h0 had
  exact (h.kp h0 ad had).grown (h.blt h0 had) hG fun eq => hc.far hx (Option.some.inj eq)⟩
theorem Cn.staysC {w w' : World} {g : Nat} (hc : CleanB w g) (hG : w.grownBy w' (some g)) {m : Bool} {bo : Option Addr} {k cb : Nat} {z : Int} (h : Cn w m bo k cb z) : Cn w' m bo k cb z :=
 ⟨h.neg, h.sl.len, h.sl.le, h.sl.big, h.sl.wf, h.sl.nil, fun ad had t ht => clean_stays hc hG (h.sl.cells ad had t ht)⟩
theorem Cn.stays {B : Nat} {e : TypeId} {sz : Nat} {w w' : World} {ao : Option Addr} {n cap : Nat} {vss : List (List Value)} {m : Bool} {bo : Option Addr} {k cb : Nat} {z : Int} (h : Cn w m bo k cb z) (hO : Go1 B e sz w ao n cap vss) (hG : w.grownBy w' (Value.slice ao n cap).ownBlock) : Cn w' m bo k cb z :=
 ⟨h.neg, h.sl.len, h.sl.le, h.sl.big, h.sl.wf, h.sl.nil, fun ad had t ht => hO.stays hG (h.sl.cells ad had t ht)⟩
theorem AtN.clean {w : World} {g : Nat} {T : TypeId} (h : AtN w g [] T) : CleanB w g := fun cur T' fr hh u hu => by
 unfold AtN at h
 rw [h] at hh
 cases hh
 simp at hu
theorem Go1.other {B : Nat} {e : TypeId} {sz : Nat} {w w' : World} {ao : Option Addr} {n cap : Nat} {vss : List (List Value)} (h : Go1 B e sz w ao n cap vss) {g : Nat} {us : List Value} {T : TypeId} (hg : AtN w g us T) (hT : T ≠ e) (hG : w.grownBy w' (some g)) : Go1 B e sz w' ao n cap vss := by
 refine h.keep fun a ha => ?_
 rcases h.parts with ⟨h1, _⟩ | ⟨g', cur, h1, _, hlt, _, hh⟩
 ·rw [h1] at ha; cases ha
 ·rw [h1] at ha
  cases ha
  refine hG.block g' hlt fun eq => ?_
  have e' : g' = g := Option.some.inj eq
  subst e'
  unfold AtN at hg
  rw [hg] at hh
  cases hh
  exact hT rfl
def TmC [Ol] (K : Nat) (w : World) (vs : List Value) (t : Term) : Prop :=
 ∃ m ao n cap bo k cb, vs = [.bool m, .slice ao n cap, .slice bo k cb] ∧ Cn w m ao n cap t.1 ∧ Bd t.1 K ∧ Ml w bo k cb t.2
theorem TmC.below [Ol] {K : Nat} {w w' : World} {vs : List Value} {t : Term} (h : TmC K w vs t) (hb : Below w.heap.size w w') : TmC K w' vs t := by
 obtain ⟨m, ao, n, cap, bo, k, cb, h1, h2, h3, h4⟩ := h
 exact ⟨m, ao, n, cap, bo, k, cb, h1, h2.below hb, h3, h4.below hb⟩
theorem TmC.inn [Ol] {K : Nat} {w : World} {vs : List Value} {t : Term} (h : TmC K w vs t) : TmI K w vs t := by
 obtain ⟨m, ao, n, cap, bo, k, cb, h1, h2, h3, h4⟩ := h
 exact ⟨m, ao, n, cap, bo, k, cb, h1, h2.inn, h2.le h3, h4⟩
theorem TmC.mono [Ol] {K L : Nat} {w : World} {vs : List Value} {t : Term} (h : TmC K w vs t) (hk : K ≤ L) : TmC L w vs t := by
 obtain ⟨m, ao, n, cap, bo, k, cb, h1, h2, h3, h4⟩ := h
 exact ⟨m, ao, n, cap, bo, k, cb, h1, h2, h3.mono hk, h4⟩
theorem TmC.stays [Ol] {B : Nat} {e : TypeId} {sz : Nat} {w w' : World} {ao : Option Addr} {n cap : Nat} {vss : List (List Value)} {K : Nat} {vs : List Value} {t : Term} (h : TmC K w vs t) (hO : Go1 B e sz w ao n cap vss) (hG : w.grownBy w' (Value.slice ao n cap).ownBlock) : TmC K w' vs t := by
 obtain ⟨m, ao, n, cap, bo, k, cb, h1, h2, h3, h4⟩ := h
 exact ⟨m, ao, n, cap, bo, k, cb, h1, h2.stays hO hG, h3, h4.stays hO hG⟩
theorem TmC.staysC [Ol] {w w' : World} {g : Nat} (hc : CleanB w g) (hG : w.grownBy w' (some g)) {K : Nat} {vs : List Value} {t : Term} (h : TmC K w vs t) : TmC K w' vs t := by
 obtain ⟨m, ao, n, cap, bo, k, cb, h1, h2, h3, h4⟩ := h
 exact ⟨m, ao, n, cap, bo, k, cb, h1, h2.staysC hc hG, h3, h4.staysC hc hG⟩
structure Pc [Ol] (K : Nat) (w : World) (ao : Option Addr) (n cap : Nat) (p : List Term) : Prop where
 ex : ∃ vss, Gl 3 w ao n cap vss ∧ Tms (TmC K w) vss p
theorem Pc.len [Ol] {K : Nat} {w : World} {ao : Option Addr} {n cap : Nat} {p : List Term} (h : Pc K w ao n cap p) : p.length = n := by
 obtain ⟨vss, h1, h2⟩ := h.ex; rw [← h2.len, h1.len]
theorem Pc.below [Ol] {K : Nat} {w w' : World} {ao : Option Addr} {n cap : Nat} {p : List Term} (h : Pc K w ao n cap p) (hb : Below w.heap.size w w') : Pc K w' ao n cap p := by
 obtain ⟨vss, h1, h2⟩ := h.ex
 exact ⟨vss, h1.below hb, h2.imp fun v a h => h.below hb⟩
theorem Pc.inn [Ol] {K : Nat} {w : World} {ao : Option Addr} {n cap : Nat} {p : List Term} (h : Pc K w ao n cap p) : Pi K w ao n cap p := by
 obtain ⟨vss, h1, h2⟩ := h.ex
 exact ⟨vss, h1, h2.imp fun v a h => h.inn⟩
theorem Pc.mono [Ol] {K L : Nat} {w : World} {ao : Option Addr} {n cap : Nat} {p : List Term} (h : Pc K w ao n cap p) (hk : K ≤ L) : Pc L w ao n cap p := by
 obtain ⟨vss, h1, h2⟩ := h.ex
 exact ⟨vss, h1, h2.imp fun v a h => h.mono hk⟩
theorem Pc.zero [Ol] (K : Nat) (w : World) : Pc K w none 0 0 [] := ⟨[], Gl.zero 3 w, trivial⟩
def NewPc [Ol] (K : Nat) (w : World) (p : List Term) (e : Ending) (w' : World) : Prop := ∃ ao n cap, e = .returned (.slice ao n cap) ∧ Pc K w' ao n cap p ∧ Below w.heap.size w w'
theorem Tryz.info_TT : (Tryz.prog.info? 56).map (fun i => (i.zero, i.size, i.bytes)) = some (some (.agg #[.bool false, .slice none 0 0, .slice none 0 0]), 3, 56) := by kernel_rfl
theorem wp_dupM [Ol] {P : Program} (wa w0 : World) {o : Oper} {a : Act} {K : Act → World → Prop} {Q : Exit → Act → World → Prop}
  (s x : Operand) (t : TypeId) (hop : o.op = Op.call { callee := Callee.builtin Builtin.append, args := #[s, x], argTypes := #[t, t] })
  (B : Nat) (i : TypeInfo) (z : Value) (h1 : P.underlying t = some (.slice 87)) (h2 : P.info? 87 = some i) (h3 : i.zero = some z) (h4 : i.size = 2) (h5 : i.bytes = 16) (h6 : z.cells.size = 2)
  (g : Nat) (hs : a.eval s = .slice (some ⟨g, 0, none⟩) 0 0) (hO : Mo B wa (some ⟨g, 0, none⟩) 0 0 []) (ao : Option Addr) (n cap : Nat) (ps : List (Int × Int)) (hx : a.eval x = .slice ao n cap) (hS : Ml wa ao n cap ps)
  (hb : Below B w0 wa) (hB : B ≤ wa.heap.size)
  (hK : ∀ ao' cap' w', Ml w' ao' n cap' ps → Below B w0 w' → wa.grownBy w' (some g) → K (a.put o.dst (.slice ao' n cap')) w') :
  Oper.wp P o a wa K Q := by
 cases ao with
 | none =>
  have hn : n = 0 := by have := hS.nil rfl; have := hS.le; omega
  have hc : cap = 0 := hS.nil rfl
  subst hn; subst hc
  have hxs : ps = [] := List.eq_nil_of_length_eq_zero hS.len
  subst hxs; have hrun := run_append_owned_none (P := P) wa B t o.type 87 i 2 h1 h2 _ 0 [] hO.row
  unfold Oper.wp
  simp [execOp, hop, resolve, invoke, builtin, hs, hx, hrun, Result.andThen]
  exact hK _ _ wa hO.ml hb (World.grownBy.refl _ _)
 | some ad =>
  refine wp_append_own wa s x t hop B 87 i z 2 16 h1 h2 h3 h4 h5 h6 (by decide) _ 0 [] hs hO.row ad n cap (pcells ps) hx (by rw [pcells_length, hS.len]) ?_ (pcells_one ps) (by have := hS.big; unfold maxLen; omega) (by have := hS.big; omega) hB ?_
  ·intro j u hj
   have hjl : j < n * 2 := by have := (List.getElem?_eq_some_iff.1 hj).1; rwa [pcells_length, hS.len] at this
   have hc := hS.cells ad rfl (j / 2) (by omega)
   have hp := pcells_get ps (j / 2) (by rw [hS.len]; omega)
   rcases (show j = j / 2 * 2 ∨ j = j / 2 * 2 + 1 by omega) with e | e
   ·rw [← e] at hc hp
    rw [hc.1, ← hp.1, hj]
   ·rw [← e] at hc hp
    rw [hc.2, ← hp.2, hj]
  ·intro v' w' hown' hgrow _
   obtain ⟨ao', cap', rfl⟩ := owns_shape2 hown'; rw [Nat.zero_add] at hown' ⊢
   have hM : Mo B w' ao' n cap' ps := ⟨by simpa using hown', hS.big, hS.wf⟩
   exact hK ao' cap' w' hM.ml (hb.grown hgrow hB fun k hk => (hO.row.lt k hk).1) hgrow
theorem Mo.empty (w : World) : Mo w.heap.size (w.alloc (.cells #[] 87)) (some ⟨w.heap.size, 0, none⟩) 0 0 [] :=
 ⟨World.ownsRow_made w #[] 0 (Nat.le_refl _) (Nat.zero_le _) rfl, Nat.zero_le _, fun _ h => by cases h⟩
theorem poly_any8 [Ol] {K : Nat} {bo : Option Addr} {l cb : Nat} {q : List Term} {w : World} (hq : Pz K w bo l cb q) (hn : l ≤ 100000) (hK : K ≤ 9000) :
  Calls Tryz.prog 14 #[.slice bo l cb] w (NewPc K w q) := by
 obtain ⟨i0, hi, hz0, hz1, hz2⟩ := info_parts Tryz.info_TT; obtain ⟨j0, hi2, hy0, hy1, hy2⟩ := info_parts Tryz.info_pow; obtain ⟨vss, hG, hT⟩ := hq.ex; have hle := hG.le; have hbig := hG.big; have hql := hq.len; have HGP := hid hG; have HTP := hid hT; have HLP := hid hql; clear hq hG hT hql
 go_enter Tryz.func14, Tryz.ntmps14
 go_wp2
 go_loopw [3, 4] (fun o i wr => ∃ (k c2 : Nat) (oo : Option Addr) (zs : List (List Value)), i = .int .i64 k ∧ o = .slice oo k c2 ∧ k ≤ l ∧ Hid (Go1 w.heap.size 56 3 wr oo k c2 zs ∧ Tms (TmC K wr) zs (q.take k) ∧ Below w.heap.size w wr)) (fun _ i _ => l - (intOf i).toNat)
 case atStart => exact ⟨0, 0, none, [], rfl, rfl, Nat.zero_le _, Go1.nil _ _ _ _, trivial, Below.refl _ _⟩
 case round =>
  obtain ⟨k, c2, oo, zs, rfl, rfl, hk, HS⟩ := hrel
  by_cases hkl : k < l
  ·obtain ⟨b, off, rfl, _, hcl⟩ := HGP.out.at (by omega)
   obtain ⟨xm, xa, xn, xc, xp, xq, xr, hv, tz, tb, tmm⟩ := Tms.get (0, []) HTP.out k (by rw [HLP.out]; assumption)
   have hcells : ∀ V : World, Below w.heap.size w V → (V.cell? ⟨b, off + k * 3, none⟩ = some (.bool xm) ∧ V.cell? ⟨b, off + k * 3 + 1, none⟩ = some (.slice xa xn xc) ∧ V.cell? ⟨b, off + k * 3 + 2, none⟩ = some (.slice xp xq xr)) := by
    intro V hV
    have h0 := hcl V hV k (by assumption) 0 (by omega)
    have h1 := hcl V hV k (by assumption) 1 (by omega)
    have h2 := hcl V hV k (by assumption) 2 (by omega)
    rw [hv] at h0 h1 h2
    exact ⟨h0, h1, h2⟩
   have HCP := hid hcells; clear hcl hv hcells
   have hlP : k < q.length := by rw [HLP.out]; assumption
   have eqP : q.getD k (0, []) = q[k] := by simp [List.getD, List.getElem?_eq_getElem hlP]
   rw [eqP] at tz tb tmm; have HZP := hid tz
   have HBP := hid tb; have HMP := hid tmm; clear tz tb tmm eqP
   have HQ : Hid (q.take (k + 1) = q.take k ++ [q[k]]) := List.take_succ_eq_append_getElem hlP
   go_upto_region 5 with (fail)
   refine wp_region_held_drew (S := fun w' => (w'.cell? ⟨b, off + k * 3, none⟩ = some (.bool xm) ∧ w'.cell? ⟨b, off + k * 3 + 1, none⟩ = some (.slice xa xn xc) ∧ w'.cell? ⟨b, off + k * 3 + 2, none⟩ = some (.slice xp xq xr))) (by kernel_rfl) (HCP.out _ HS.out.2.2.drew) (fun hH => ?_)
   refine anyH_world (fun w4 hW => ?_)
   have HS4 : Hid (Go1 w.heap.size 56 3 w4 oo k c2 zs ∧ Tms (TmC K w4) zs (q.take k) ∧ Below w.heap.size w w4) := by rw [hW]; exact ⟨HS.out.1.below (Below.refl _ _).drew, HS.out.2.1.imp (fun _ _ h => h.below (Below.refl _ _).drew), HS.out.2.2.drew⟩
   rw [← hW] at hH; clear hW HS
   refine son 0 hH ?_; try simp only [nrm]
   refine son 1 hH ?_; try simp only [nrm]
   refine son 2 hH ?_; try simp only [nrm]
   refine son 3 hH ?_; try simp only [nrm]
   refine son 4 hH ?_; try simp only [nrm]
   refine son 5 hH ?_; try simp only [nrm]
   refine son 8 hH ?_; try simp only [nrm]
   refine son 9 hH ?_; try simp only [nrm]
   refine son 10 hH ?_; try simp only [nrm]
   refine son 11 hH ?_; try simp only [nrm]
   refine son 12 hH ?_; try simp only [nrm]
   refine wpAnyH_ready (rs := [6, 7]) (by kernel_rfl) (by simp) (ready_cons rfl (fun KK hK => ?_) (ready_cons rfl (fun KK hK => ?_) AllReadyH.nil))
   ·go_simp
    refine (zint_any ((HZP.out.below HS4.out.2.2).zx HBP.out (by omega))).mono ?_
    rintro e w5 ⟨rm, ra, rn, rc, rfl, hX, hB⟩; have HZ5 := hid hX
    have HS5 : Hid (Go1 w.heap.size 56 3 w5 oo k c2 zs ∧ Tms (TmC K w5) zs (q.take k) ∧ Below w.heap.size w w5) := ⟨HS4.out.1.below hB, HS4.out.2.1.imp (fun _ _ h => h.below hB), Below.steps HS4.out.2.2 hB⟩
    clear HS4 hX hB; go_wp2_with fail
    clear hH; refine hK.out _ _ (HCP.out _ HS5.out.2.2) fun hH => ?_; clear hK KK
    try simp only [nrm]
    refine step_one 7 rfl (by kernel_rfl) (fun KK hK => ?_)
    go_simp
    clear hH; refine hK.out _ _ (HCP.out _ (HS5.out.2.2.trans (Below.mono (below_alloc w5 _) HS5.out.2.2.size))) fun hH => ?_; clear hK KK
    try simp only [nrm]
    refine anyH_world (fun w6 hW => ?_)
    obtain ⟨g, hg⟩ : ∃ g, g = w5.heap.size := ⟨_, rfl⟩
    have HS6 : Hid (Go1 w.heap.size 56 3 w6 oo k c2 zs ∧ Tms (TmC K w6) zs (q.take k) ∧ Below w.heap.size w w6) := by rw [hW]; exact ⟨HS5.out.1.below (below_alloc w5 _), HS5.out.2.1.imp (fun _ _ h => h.below (below_alloc w5 _)), HS5.out.2.2.alloc HS5.out.2.2.size _⟩
    have HZ6 : Hid (Cn w6 rm ra rn rc (q[k]).1) := by rw [hW]; exact HZ5.out.below (below_alloc w5 _)
    have HM6 : Hid (Mo w.heap.size w6 (some ⟨g, 0, none⟩) 0 0 []) := by rw [hW, hg]; exact (Mo.empty w5).mono HS5.out.2.2.size
    have HA6 : Hid (AtN w6 g [] 87) := by rw [hW, hg]; exact AtN.new w5 [] _
    rw [← hW] at hH; rw [← hg]
    clear hW hg HS5 HZ5
    refine step_one 13 rfl (by kernel_rfl) (fun KK hK => ?_)
    refine wp_dupM w6 w (.tmp 18) (.tmp 23) 54 rfl w.heap.size j0 (.agg #[.int .i64 0, .int .i64 0]) Tryz.underlying54 hi2 hy0 hy1 hy2 rfl g rfl HM6.out _ _ _ _ rfl (HMP.out.below HS6.out.2.2) HS6.out.2.2 HS6.out.2.2.size ?_
    intro ma mc w7 hM7 hB7 hG7
    have HS7 : Hid (Go1 w.heap.size 56 3 w7 oo k c2 zs ∧ Tms (TmC K w7) zs (q.take k) ∧ Below w.heap.size w w7) := ⟨HS6.out.1.other HA6.out (by decide) hG7, HS6.out.2.1.imp (fun _ _ h => TmC.staysC HA6.out.clean hG7 h), hB7⟩
    have HZ7 : Hid (TmC K w7 [.bool rm, .slice ra rn rc, .slice ma xq mc] q[k]) := ⟨_, _, _, _, _, _, _, rfl, HZ6.out.staysC HA6.out.clean hG7, HBP.out, hM7⟩
    clear HS6 HZ6 HM6 HA6 hM7 hB7 hG7
    clear hH; refine hK.out _ _ (HCP.out _ HS7.out.2.2) fun hH => ?_; clear hK KK
    try simp only [nrm]
    refine son 14 hH ?_; try simp only [nrm]
    refine step_one 15 rfl (by kernel_rfl) (fun KK hK => ?_)
    go_simp
    clear hH; refine hK.out _ _ (HCP.out _ (HS7.out.2.2.trans (Below.mono (below_alloc w7 _) HS7.out.2.2.size))) fun hH => ?_; clear hK KK
    try simp only [nrm]
    refine step_one 16 rfl (by kernel_rfl) (fun KK hK => ?_)
    refine wp_joinG _ w (.tmp 11) (.tmp 26) 26 rfl w.heap.size 56 3 56 i0 (.agg #[.bool false, .slice none 0 0, .slice none 0 0]) Tryz.underlying26 hi hz0 hz1 hz2 rfl (by omega) oo k c2 zs rfl (HS7.out.1.below (below_alloc w7 _)) _ 1 1 [[.bool rm, .slice ra rn rc, .slice ma xq mc]] rfl (Gl.lit 3 w7 _ _ rfl (by simp [Value.oneCell'])) (HS7.out.2.2.alloc HS7.out.2.2.size _) (by have := HS7.out.2.2.size; simp; omega) (by omega) (by omega) (by simp [Value.cells, notInt]) (by simp [notInt]) ?_
    intro o8 c8 w8 hO hB8 hG8
    have HS8 : Hid (Go1 w.heap.size 56 3 w8 o8 (k + 1) c8 (zs ++ [[.bool rm, .slice ra rn rc, .slice ma xq mc]]) ∧ Tms (TmC K w8) (zs ++ [[.bool rm, .slice ra rn rc, .slice ma xq mc]]) (q.take (k + 1)) ∧ Below w.heap.size w w8) := ⟨hO, by rw [HQ.out]; exact Tms.append (HS7.out.2.1.imp (fun _ _ h => (h.below (below_alloc w7 _)).stays (HS7.out.1.below (below_alloc w7 _)) hG8)) ⟨(HZ7.out.below (below_alloc w7 _)).stays (HS7.out.1.below (below_alloc w7 _)) hG8, trivial⟩, hB8⟩
    clear HS7 hO hB8 hG8 HZ7 HQ
    clear hH; refine hK.out _ _ (HCP.out _ HS8.out.2.2) fun hH => ?_; clear hK KK
    try simp only [nrm]
    refine son 17 hH ?_; try simp only [nrm]
    refine wpAnyH_done (by kernel_rfl) ?_ _
    go_wp2_with fail
    go_roundw
    case rel => exact ⟨k + 1, c8, o8, _, by go_num, rfl, by omega, HS8.out⟩
    case measure => simp [intOf]; omega
   ·go_simp
    clear hH; refine hK.out _ _ (HCP.out _ (HS4.out.2.2.trans (Below.mono (below_alloc w4 _) HS4.out.2.2.size))) fun hH => ?_; clear hK KK
    try simp only [nrm]
    refine anyH_world (fun w9 hW => ?_)
    obtain ⟨g, hg⟩ : ∃ g, g = w4.heap.size := ⟨_, rfl⟩
    have HS9 : Hid (Go1 w.heap.size 56 3 w9 oo k c2 zs ∧ Tms (TmC K w9) zs (q.take k) ∧ Below w.heap.size w w9) := by rw [hW]; exact ⟨HS4.out.1.below (below_alloc w4 _), HS4.out.2.1.imp (fun _ _ h => h.below (below_alloc w4 _)), HS4.out.2.2.alloc HS4.out.2.2.size _⟩
    have HM9 : Hid (Mo w.heap.size w9 (some ⟨g, 0, none⟩) 0 0 []) := by rw [hW, hg]; exact (Mo.empty w4).mono HS4.out.2.2.size
    have HA9 : Hid (AtN w9 g [] 87) := by rw [hW, hg]; exact AtN.new w4 [] _
    rw [← hW] at hH; rw [← hg]
    clear hW hg HS4
    refine step_one 6 rfl (by kernel_rfl) (fun KK hK => ?_)
    go_simp
    refine (zint_any ((HZP.out.below HS9.out.2.2).zx HBP.out (by omega))).mono ?_
    rintro e w6 ⟨rm, ra, rn, rc, rfl, hX, hB⟩; have HZ6 := hid hX
    have HS6 : Hid (Go1 w.heap.size 56 3 w6 oo k c2 zs ∧ Tms (TmC K w6) zs (q.take k) ∧ Below w.heap.size w w6) := ⟨HS9.out.1.below hB, HS9.out.2.1.imp (fun _ _ h => h.below hB), Below.steps HS9.out.2.2 hB⟩
    have HM6 := hid (HM9.out.below hB); have HA6 := hid (HA9.out.below hB); clear HS9 HM9 HA9 hX hB; go_wp2_with fail
    clear hH; refine hK.out _ _ (HCP.out _ HS6.out.2.2) fun hH => ?_; clear hK KK
    try simp only [nrm]
    refine step_one 13 rfl (by kernel_rfl) (fun KK hK => ?_)
    refine wp_dupM w6 w (.tmp 18) (.tmp 23) 54 rfl w.heap.size j0 (.agg #[.int .i64 0, .int .i64 0]) Tryz.underlying54 hi2 hy0 hy1 hy2 rfl g rfl HM6.out _ _ _ _ rfl (HMP.out.below HS6.out.2.2) HS6.out.2.2 HS6.out.2.2.size ?_
    intro ma mc w7 hM7 hB7 hG7
    have HS7 : Hid (Go1 w.heap.size 56 3 w7 oo k c2 zs ∧ Tms (TmC K w7) zs (q.take k) ∧ Below w.heap.size w w7) := ⟨HS6.out.1.other HA6.out (by decide) hG7, HS6.out.2.1.imp (fun _ _ h => TmC.staysC HA6.out.clean hG7 h), hB7⟩
    have HZ7 : Hid (TmC K w7 [.bool rm, .slice ra rn rc, .slice ma xq mc] q[k]) := ⟨_, _, _, _, _, _, _, rfl, HZ6.out.staysC HA6.out.clean hG7, HBP.out, hM7⟩
    clear HS6 HZ6 HM6 HA6 hM7 hB7 hG7
    clear hH; refine hK.out _ _ (HCP.out _ HS7.out.2.2) fun hH => ?_; clear hK KK
    try simp only [nrm]
    refine son 14 hH ?_; try simp only [nrm]
    refine step_one 15 rfl (by kernel_rfl) (fun KK hK => ?_)
    go_simp
    clear hH; refine hK.out _ _ (HCP.out _ (HS7.out.2.2.trans (Below.mono (below_alloc w7 _) HS7.out.2.2.size))) fun hH => ?_; clear hK KK
    try simp only [nrm]
    refine step_one 16 rfl (by kernel_rfl) (fun KK hK => ?_)
    refine wp_joinG _ w (.tmp 11) (.tmp 26) 26 rfl w.heap.size 56 3 56 i0 (.agg #[.bool false, .slice none 0 0, .slice none 0 0]) Tryz.underlying26 hi hz0 hz1 hz2 rfl (by omega) oo k c2 zs rfl (HS7.out.1.below (below_alloc w7 _)) _ 1 1 [[.bool rm, .slice ra rn rc, .slice ma xq mc]] rfl (Gl.lit 3 w7 _ _ rfl (by simp [Value.oneCell'])) (HS7.out.2.2.alloc HS7.out.2.2.size _) (by have := HS7.out.2.2.size; simp; omega) (by omega) (by omega) (by simp [Value.cells, notInt]) (by simp [notInt]) ?_
    intro o8 c8 w8 hO hB8 hG8
    have HS8 : Hid (Go1 w.heap.size 56 3 w8 o8 (k + 1) c8 (zs ++ [[.bool rm, .slice ra rn rc, .slice ma xq mc]]) ∧ Tms (TmC K w8) (zs ++ [[.bool rm, .slice ra rn rc, .slice ma xq mc]]) (q.take (k + 1)) ∧ Below w.heap.size w w8) := ⟨hO, by rw [HQ.out]; exact Tms.append (HS7.out.2.1.imp (fun _ _ h => (h.below (below_alloc w7 _)).stays (HS7.out.1.below (below_alloc w7 _)) hG8)) ⟨(HZ7.out.below (below_alloc w7 _)).stays (HS7.out.1.below (below_alloc w7 _)) hG8, trivial⟩, hB8⟩
    clear HS7 hO hB8 hG8 HZ7 HQ
    clear hH; refine hK.out _ _ (HCP.out _ HS8.out.2.2) fun hH => ?_; clear hK KK
    try simp only [nrm]
    refine son 17 hH ?_; try simp only [nrm]
    refine wpAnyH_done (by kernel_rfl) ?_ _
    go_wp2_with fail
    go_roundw
    case rel => exact ⟨k + 1, c8, o8, _, by go_num, rfl, by omega, HS8.out⟩
    case measure => simp [intOf]; omega
  ·obtain rfl : k = l := by omega
   go_wp2_with fail
   go_ret
   refine ⟨_, _, _, rfl, ⟨_, HS.out.1.gl, ?_⟩, HS.out.2.2⟩
   have h := HS.out.2.1
   rw [List.take_of_length_le (by rw [HLP.out]; exact Nat.le_refl _)] at h
   exact h
open Lib (hid)
def rawZ : (Bool × List Nat) × List (Int × Int) := ((false, []), [])
abbrev Raw := (Bool × List Nat) × List (Int × Int)
def rawV (t : Raw) : Term := (zOf t.1.1 (val t.1.2), t.2)
def rawC (t : Term) : Raw := ((decide (t.1 < 0), limbs t.1.natAbs), t.2)
def TmR [Ol] (w : World) (vs : List Value) (t : Raw) : Prop :=
 ∃ ao n cap bo k cb, vs = [.bool t.1.1, .slice ao n cap, .slice bo k cb] ∧ Sl w ao n cap t.1.2 ∧ Ml w bo k cb t.2
theorem TmR.below [Ol] {w w' : World} {vs : List Value} {t : Raw} (h : TmR w vs t) (hb : Below w.heap.size w w') : TmR w' vs t := by
 obtain ⟨ao, n, cap, bo, k, cb, h1, h2, h4⟩ := h
 exact ⟨ao, n, cap, bo, k, cb, h1, h2.below hb, h4.below hb⟩
theorem TmC.raw [Ol] {K : Nat} {w : World} {vs : List Value} {t : Term} (h : TmC K w vs t) : TmR w vs (rawC t) := by
 obtain ⟨m, ao, n, cap, bo, k, cb, h1, h2, h3, h4⟩ := h
 exact ⟨ao, n, cap, bo, k, cb, by rw [h1, h2.neg]; rfl, h2.sl, h4⟩
theorem rawV_rawC (t : Term) : rawV (rawC t) = t := by
 unfold rawV rawC
 simp only [val_limbs, zOf_can]
structure Pr [Ol] (w : World) (ao : Option Addr) (n cap : Nat) (ts : List Raw) : Prop where
 ex : ∃ vss, Gl 3 w ao n cap vss ∧ Tms (TmR w) vss ts
theorem Pr.len [Ol] {w : World} {ao : Option Addr} {n cap : Nat} {p : List Raw} (h : Pr w ao n cap p) : p.length = n := by
 obtain ⟨vss, h1, h2⟩ := h.ex; rw [← h2.len, h1.len]
theorem Pr.below [Ol] {w w' : World} {ao : Option Addr} {n cap : Nat} {p : List Raw} (h : Pr w ao n cap p) (hb : Below w.heap.size w w') : Pr w' ao n cap p := by
 obtain ⟨vss, h1, h2⟩ := h.ex
 exact ⟨vss, h1.below hb, h2.imp fun v a h => h.below hb⟩
theorem Tms.map {α β : Type} {R : List Value → α → Prop} {S : List Value → β → Prop} (f : α → β) : ∀ {vs : List (List Value)} {l : List α}, (∀ v a, a ∈ l → R v a → S v (f a)) → Tms R vs l → Tms S vs (l.map f)
 | [], [], _, _ => trivial
 | _ :: _, _ :: _, hRS, h => ⟨hRS _ _ (by simp) h.1, Tms.map f (fun v a ha => hRS v a (by simp [ha])) h.2⟩
 | [], _ :: _, _, h => h.elim
 | _ :: _, [], _, h => h.elim
theorem Pc.raw [Ol] {K : Nat} {w : World} {ao : Option Addr} {n cap : Nat} {p : List Term} (h : Pc K w ao n cap p) : Pr w ao n cap (p.map rawC) := by
 obtain ⟨vss, h1, h2⟩ := h.ex
 exact ⟨vss, h1, Tms.map rawC (fun v a _ h => h.raw) h2⟩
theorem raw_same [Ol] (r : Bool) {m k : Bool} {ao bo : Option Addr} {n cap l cb : Nat} {xs ys : List Nat} {w : World} (hs : Sl w ao n cap xs) (ht : Sl w bo l cb ys) (h : decide ((m, xs) = (k, ys)) = r) :
  Calls Tryz.prog 39 #[.agg #[.bool m, .slice ao n cap], .agg #[.bool k, .slice bo l cb]] w (RetB (.bool r) w) := by
 by_cases hmk : m = k
 ·subst hmk
  exact same_limbs r hs ht (by rw [← h]; unfold sameB; simp)
 ·rw [show decide ((m, xs) = (k, ys)) = false from decide_eq_false (fun e => hmk (congrArg Prod.fst e))] at h
  subst h
  exact same_sign hmk
theorem same_any8 [Ol] (r : Bool) {ao bo : Option Addr} {n cap l cb : Nat} {ps qs : List Raw} {w : World} (hp : Pr w ao n cap ps) (hq : Pr w bo l cb qs) (h : decide (ps = qs) = r) :
  Calls Tryz.prog 13 #[.slice ao n cap, .slice bo l cb] w (RetB (.bool r) w) := by
 obtain ⟨vss, hG, hT⟩ := hp.ex; obtain ⟨uss, hG2, hT2⟩ := hq.ex; have hbig := hG.big; have hbig2 := hG2.big; have HLP := hid hp.len; have HLQ := hid hq.len; have HGP := hid hG; have HTP := hid hT; have HGQ := hid hG2; have HTQ := hid hT2; have HR := hid h; clear hp hq hG hT hG2 hT2 h
 by_cases hnl : n = l
 ·subst hnl
  have hd : ((n : Int) == (n : Int)) = true := beq_self_eq_true _
  have hd2 : ((n : Int) != (n : Int)) = false := by simp
  go_enter Tryz.func13, Tryz.ntmps13
  go_wp2
  go_loopw [5] (fun i wr => ∃ k : Nat, i = .int .i64 k ∧ k ≤ n ∧ Hid (ps.take k = qs.take k) ∧ Hid (Below w.heap.size w wr)) (fun i _ => n - (intOf i).toNat)
  case atStart => exact ⟨0, rfl, Nat.zero_le _, by simp [Hid], Below.refl _ _⟩
  case round =>
   obtain ⟨k, rfl, hk, HE, HB⟩ := hrel
   by_cases hkn : k < n
   ·obtain ⟨b, off, rfl, _, hcl⟩ := HGP.out.at (by omega)
    obtain ⟨xa, xn, xc, xp, xq, xr, hv, tz, tmm⟩ := Tms.get rawZ HTP.out k (by rw [HLP.out]; omega)
    have hlP : k < ps.length := by rw [HLP.out]; omega
    have eqP : ps.getD k rawZ = ps[k] := by simp [List.getD, List.getElem?_eq_getElem hlP]
    have hcells : ∀ V : World, Below w.heap.size w V → (V.cell? ⟨b, off + k * 3, none⟩ = some (.bool (ps.getD k rawZ).1.1) ∧ V.cell? ⟨b, off + k * 3 + 1, none⟩ = some (.slice xa xn xc) ∧ V.cell? ⟨b, off + k * 3 + 2, none⟩ = some (.slice xp xq xr)) := by
     intro V hV
     have h0 := hcl V hV k (by omega) 0 (by omega)
     have h1 := hcl V hV k (by omega) 1 (by omega)
     have h2 := hcl V hV k (by omega) 2 (by omega)
     rw [hv] at h0 h1 h2
     exact ⟨h0, h1, h2⟩
    rw [eqP] at tz tmm; obtain ⟨xm, hxm⟩ : ∃ xm, xm = (ps.getD k rawZ).1.1 := ⟨_, rfl⟩
    rw [← hxm] at hcells; rw [eqP] at hxm
    have HCP := hid hcells; have HSP := hid tz; have HMP := hid tmm; have HNP := hid hxm; clear hcl hv hcells tz tmm eqP hxm
    obtain ⟨d, dff, rfl, _, hcl⟩ := HGQ.out.at (by omega)
    obtain ⟨ya, yn, yc, yp, yq, yr, hv, tz, tmm⟩ := Tms.get rawZ HTQ.out k (by rw [HLQ.out]; omega)
    have hlQ : k < qs.length := by rw [HLQ.out]; omega
    have eqQ : qs.getD k rawZ = qs[k] := by simp [List.getD, List.getElem?_eq_getElem hlQ]
    have hcells : ∀ V : World, Below w.heap.size w V → (V.cell? ⟨d, dff + k * 3, none⟩ = some (.bool (qs.getD k rawZ).1.1) ∧ V.cell? ⟨d, dff + k * 3 + 1, none⟩ = some (.slice ya yn yc) ∧ V.cell? ⟨d, dff + k * 3 + 2, none⟩ = some (.slice yp yq yr)) := by
     intro V hV
     have h0 := hcl V hV k (by omega) 0 (by omega)
     have h1 := hcl V hV k (by omega) 1 (by omega)
     have h2 := hcl V hV k (by omega) 2 (by omega)
     rw [hv] at h0 h1 h2
     exact ⟨h0, h1, h2⟩
    rw [eqQ] at tz tmm; obtain ⟨ym, hym⟩ : ∃ ym, ym = (qs.getD k rawZ).1.1 := ⟨_, rfl⟩
    rw [← hym] at hcells; rw [eqQ] at hym
    have HCQ := hid hcells; have HSQ := hid tz; have HMQ := hid tmm; have HNQ := hid hym; clear hcl hv hcells tz tmm eqQ hym
    have HSM : Hid (∀ V : World, Below w.heap.size w V → Calls Tryz.prog 39 #[.agg #[.bool xm, .slice xa xn xc], .agg #[.bool ym, .slice ya yn yc]] V (RetB (.bool (decide ((ps[k]).1 = (qs[k]).1))) V)) := fun V hV => by rw [HNP.out, HNQ.out]; exact raw_same _ (HSP.out.below hV) (HSQ.out.below hV) rfl
    have HMM : Hid (∀ V : World, Below w.heap.size w V → Calls Tryz.prog 40 #[.slice xp xq xr, .slice yp yq yr] V (RetB (.bool (decide ((ps[k]).2 = (qs[k]).2))) V)) := fun V hV => same7_any _ (HMP.out.below hV) (HMQ.out.below hV) rfl
    obtain ⟨A, hA⟩ : ∃ A, A = decide ((ps[k]).1 = (qs[k]).1) := ⟨_, rfl⟩; obtain ⟨C, hC⟩ : ∃ C, C = decide ((ps[k]).2 = (qs[k]).2) := ⟨_, rfl⟩; rw [← hA] at HSM; rw [← hC] at HMM; have HA := hid hA; have HC := hid hC; clear hA hC
    go_upto_region 6 with (fail)
    refine wp_region_held_drew (S := fun w' => (w'.cell? ⟨b, off + k * 3, none⟩ = some (.bool xm) ∧ w'.cell? ⟨b, off + k * 3 + 1, none⟩ = some (.slice xa xn xc) ∧ w'.cell? ⟨b, off + k * 3 + 2, none⟩ = some (.slice xp xq xr)) ∧ (w'.cell? ⟨d, dff + k * 3, none⟩ = some (.bool ym) ∧ w'.cell? ⟨d, dff + k * 3 + 1, none⟩ = some (.slice ya yn yc) ∧ w'.cell? ⟨d, dff + k * 3 + 2, none⟩ = some (.slice yp yq yr))) (by kernel_rfl) ⟨HCP.out _ HB.out.drew, HCQ.out _ HB.out.drew⟩ (fun hH => ?_)
    refine anyH_world (fun w4 hW => ?_)
    have HB4 : Hid (Below w.heap.size w w4) := by rw [hW]; exact HB.out.drew
    rw [← hW] at hH; clear hW HB
    refine son 0 hH ?_; try simp only [nrm]
    refine son 1 hH ?_; try simp only [nrm]
    refine son 2 hH ?_; try simp only [nrm]
    refine son 3 hH ?_; try simp only [nrm]
    refine son 4 hH ?_; try simp only [nrm]
    refine son 5 hH ?_; try simp only [nrm]
    refine son 6 hH ?_; try simp only [nrm]
    refine son 7 hH ?_; try simp only [nrm]
    refine son 8 hH ?_; try simp only [nrm]
    refine son 9 hH ?_; try simp only [nrm]
    refine step_one 10 rfl (by kernel_rfl) (fun KK hK => ?_)
    go_simp; refine (HSM.out _ HB4.out).mono ?_
    rintro e w5 ⟨rfl, hB⟩; have HB5 := hid (Below.steps HB4.out hB); clear hB HB4; go_wp2_with fail
    clear hH; refine hK.out _ _ ⟨HCP.out _ HB5.out, HCQ.out _ HB5.out⟩ fun hH => ?_; clear hK KK
    try simp only [nrm]
    cases A with
    | true =>
     refine son 11 hH ?_; try simp only [nrm]
     refine son 12 hH ?_; try simp only [nrm]
     refine son 13 hH ?_; try simp only [nrm]
     refine son 14 hH ?_; try simp only [nrm]
     refine son 15 hH ?_; try simp only [nrm]
     refine son 16 hH ?_; try simp only [nrm]
     refine son 17 hH ?_; try simp only [nrm]
     refine son 18 hH ?_; try simp only [nrm]
     refine son 19 hH ?_; try simp only [nrm]
     refine son 20 hH ?_; try simp only [nrm]
     refine son 21 hH ?_; try simp only [nrm]
     refine son 22 hH ?_; try simp only [nrm]
     refine step_one 23 rfl (by kernel_rfl) (fun KK hK => ?_)
     go_simp; refine (HMM.out _ HB5.out).mono ?_
     rintro e w6 ⟨rfl, hB⟩; have HB6 := hid (Below.steps HB5.out hB); clear hB HB5; go_wp2_with fail
     clear hH; refine hK.out _ _ ⟨HCP.out _ HB6.out, HCQ.out _ HB6.out⟩ fun hH => ?_; clear hK KK
     try simp only [nrm]
     refine son 24 hH ?_; try simp only [nrm]
     refine son 25 hH ?_; try simp only [nrm]
     refine wpAnyH_done (by kernel_rfl) ?_ _
     cases C with
     | true =>
      have HE2 : Hid (ps.take (k + 1) = qs.take (k + 1)) := by
       rw [Hid, List.take_succ_eq_append_getElem hlP, List.take_succ_eq_append_getElem hlQ, HE.out, Prod.ext (of_decide_eq_true HA.out.symm) (of_decide_eq_true HC.out.symm)]
      go_wp2_with fail
      go_roundw
      case rel => exact ⟨k + 1, by go_num, by omega, HE2, HB6⟩
      case measure => simp [intOf]; omega
     | false =>
      have HR2 : Hid (r = false) := by
       rw [Hid, ← HR.out]
       exact decide_eq_false fun e => of_decide_eq_false HC.out.symm (by subst e; rfl)
      go_wp2_with fail
      go_ret
      have hr := HR2.out; subst hr
      exact ⟨rfl, HB6.out⟩
    | false =>
     have HR2 : Hid (r = false) := by
      rw [Hid, ← HR.out]
      exact decide_eq_false fun e => of_decide_eq_false HA.out.symm (by subst e; rfl)
     refine son 11 hH ?_; try simp only [nrm]
     refine son 12 hH ?_; try simp only [nrm]
     refine sof 13 hH ?_; try simp only [nrm]
     refine sof 14 hH ?_; try simp only [nrm]
     refine sof 15 hH ?_; try simp only [nrm]
     refine sof 16 hH ?_; try simp only [nrm]
     refine sof 17 hH ?_; try simp only [nrm]
     refine sof 18 hH ?_; try simp only [nrm]
     refine sof 19 hH ?_; try simp only [nrm]
     refine sof 20 hH ?_; try simp only [nrm]
     refine sof 21 hH ?_; try simp only [nrm]
     refine sof 22 hH ?_; try simp only [nrm]
     refine sof 23 hH ?_; try simp only [nrm]
     refine sof 24 hH ?_; try simp only [nrm]
     refine son 25 hH ?_; try simp only [nrm]
     refine wpAnyH_done (by kernel_rfl) ?_ _
     go_wp2_with fail
     go_ret
     have hr := HR2.out; subst hr
     exact ⟨rfl, HB5.out⟩
   ·obtain rfl : k = n := by omega
    have HR2 : Hid (r = true) := by
     rw [Hid, ← HR.out]; have h := HE.out
     rw [List.take_of_length_le (by rw [HLP.out]; exact Nat.le_refl _), List.take_of_length_le (by rw [HLQ.out]; exact Nat.le_refl _)] at h
     exact decide_eq_true h
    go_wp2_with fail
    go_ret
    have hr := HR2.out; subst hr
    exact ⟨rfl, HB.out⟩
 ·have HR2 : Hid (r = false) := by
   rw [Hid, ← HR.out]
   exact decide_eq_false fun e => hnl (by rw [← HLP.out, ← HLQ.out, e])
  have hd : ((n : Int) == (l : Int)) = false := by simpa using (by omega : ¬ (n : Int) = l)
  have hd2 : ((n : Int) != (l : Int)) = true := by simpa using (by omega : ¬ (n : Int) = l)
  go_enter Tryz.func13, Tryz.ntmps13
  go_wp2_with fail
  go_ret
  have hr := HR2.out; subst hr
  exact ⟨rfl, Below.refl _ _⟩
end Go.Proofs.YtmmgipcacceakaaGreat

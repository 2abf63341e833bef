/-
  Lists of structs that stand for something, one by one.
-/
import Derived.Test.YthllkgjgakeinaaGl
set_option maxRecDepth 8192
namespace Go.Proofs.Ythllkgjgakeinaa
open Go.RowKit
def Tms {α : Type} (R : List Value → α → Prop) : List (List Value) → List α → Prop
  | [], [] => True
  | v :: vs, a :: l => R v a ∧ Tms R vs l
  | _, _ => False
theorem Tms.len {α : Type} {R : List Value → α → Prop} : ∀ {vs : List (List Value)} {l : List α}, Tms R vs l → vs.length = l.length
  | [], [], _ => rfl
  | _ :: _, _ :: _, h => by simp [Tms.len h.2]
  | [], _ :: _, h => h.elim
  | _ :: _, [], h => h.elim
theorem Tms.imp {α : Type} {R S : List Value → α → Prop} (hRS : ∀ v a, R v a → S v a) : ∀ {vs : List (List Value)} {l : List α}, Tms R vs l → Tms S vs l
  | [], [], _ => trivial
  | _ :: _, _ :: _, h => ⟨hRS _ _ h.1, Tms.imp hRS h.2⟩
  | [], _ :: _, h => h.elim
  | _ :: _, [], h => h.elim
theorem Tms.get {α : Type} {R : List Value → α → Prop} (d : α) : ∀ {vs : List (List Value)} {l : List α}, Tms R vs l → ∀ t, t < l.length → R (vs.getD t []) (l.getD t d)
  | _ :: _, _ :: _, h, 0, _ => h.1
  | _ :: _, _ :: _, h, t + 1, ht => by
    have := Tms.get d h.2 t (by simpa using ht)
    simpa using this
  | [], [], _, _, ht => by simp at ht
  | [], _ :: _, h, _, _ => h.elim
  | _ :: _, [], h, _, _ => h.elim
theorem Tms.append {α : Type} {R : List Value → α → Prop} : ∀ {vs us : List (List Value)} {l k : List α}, Tms R vs l → Tms R us k → Tms R (vs ++ us) (l ++ k)
  | [], _, [], _, _, hk => hk
  | _ :: _, _, _ :: _, _, h, hk => ⟨h.1, Tms.append h.2 hk⟩
  | [], _, _ :: _, _, h, _ => h.elim
  | _ :: _, _, [], _, h, _ => h.elim
theorem Tms.take {α : Type} {R : List Value → α → Prop} : ∀ {vs : List (List Value)} {l : List α}, Tms R vs l → ∀ k, Tms R (vs.take k) (l.take k)
  | [], [], _, k => by simp [Tms]
  | _ :: _, _ :: _, _, 0 => by simp [Tms]
  | _ :: _, _ :: _, h, k + 1 => ⟨h.1, Tms.take h.2 k⟩
  | [], _ :: _, h, _ => h.elim
  | _ :: _, [], h, _ => h.elim
theorem Tms.drop {α : Type} {R : List Value → α → Prop} : ∀ {vs : List (List Value)} {l : List α}, Tms R vs l → ∀ k, Tms R (vs.drop k) (l.drop k)
  | [], [], _, k => by simp [Tms]
  | _ :: _, _ :: _, h, 0 => h
  | _ :: _, _ :: _, h, k + 1 => Tms.drop h.2 k
  | [], _ :: _, h, _ => h.elim
  | _ :: _, [], h, _ => h.elim
theorem tms_notInt {α : Type} {R : List Value → α → Prop} (hR : ∀ v a, R v a → ∀ u ∈ v, notInt u = true) : ∀ {vs : List (List Value)} {l : List α}, Tms R vs l → ∀ u ∈ vs.flatten, notInt u = true
  | [], [], _, u, hu => by simp at hu
  | v :: vs, a :: l, h, u, hu => by
    rw [List.flatten_cons] at hu
    rcases List.mem_append.1 hu with hu | hu
    · exact hR v a h.1 u hu
    · exact tms_notInt hR h.2 u hu
  | [], _ :: _, h, _, _ => h.elim
  | _ :: _, [], h, _, _ => h.elim
end Go.Proofs.Ythllkgjgakeinaa
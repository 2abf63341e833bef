/-
  A quotient's text is read as it.
-/
import Derived.Test.YteceomlbnajihaaGreatDoorRatioPre
import Derived.Test.YteceomlbnajihaaGreatDoorRatioPar
import Derived.Deep.Cut
import Derived.Deep.CutRange
set_option maxRecDepth 8192
namespace Go.Proofs.YteceomlbnajihaaGreatDoor
open Go.RowKit

theorem ratS_facts {q : Rat} {u : ByteArray} {j : Nat} (hu : u = ratS q) (hn : Bd q.num j) (hd : Bd (q.den : Int) j) (hj : j ≤ 900) : u.size ≤ 20000 ∧ rtOk u.data.toList = true ∧ rtQ u.data.toList = q := by
  subst hu
  have h := rt_own q
  have hl := ratTxt_len hn hd
  have e : (ratS q).data.toList = ratTxt q.num q.den := by unfold ratS; simp
  rw [e, Lib.size_eq, e]
  exact ⟨by omega, h⟩
theorem rx_facts {w : World} {m : Bool} {ao : Option Addr} {n cap : Nat} {k : Bool} {bo : Option Addr} {l cb : Nat} {x d : Int} {q : Rat} (h : Rx w m ao n cap k bo l cb x d q 8) {u : ByteArray} (hu : u = ratS q) : u.size ≤ 20000 ∧ rtOk u.data.toList = true ∧ rtQ u.data.toList = q :=
  ratS_facts hu (by rw [← h.val, qv_dn]; exact bd_num h.bn (dn_ne d)) (by rw [← h.val, qv_dn]; exact bd_den (dn_bd h.bd (by omega)) (dn_ne d)) (show 8 ≤ 900 by omega)

end Go.Proofs.YteceomlbnajihaaGreatDoor

/-
  Quotients as values: a struct of two numbers with a sign; what calls leave that answer one.
-/
import Derived.Test.YteceomlbnajihaaGreatDoorEn
import Derived.Test.YteceomlbnajihaaGreatDoorQPlain
set_option maxRecDepth 8192
namespace Go.Proofs.YteceomlbnajihaaGreatDoor
open Go.RowKit

/-- the lower part that counts -/
def dn (d : Int) : Int := if d = 0 then 1 else d
theorem dn_ne (d : Int) : dn d ≠ 0 := by unfold dn; split <;> omega
theorem dn_of {d : Int} (h : d ≠ 0) : dn d = d := by unfold dn; rw [if_neg h]
theorem dn_zero {d : Int} (h : d = 0) : dn d = 1 := by unfold dn; rw [if_pos h]
theorem qv_dn (x d : Int) : qv x d = Rat.divInt x (dn d) := rfl
theorem qv_of {x d : Int} (h : d ≠ 0) : qv x d = Rat.divInt x d := by rw [qv_dn, dn_of h]
theorem dn_bd {d : Int} {j : Nat} (h : Bd d j) (hj : 1 ≤ j) : Bd (dn d) j := by
  unfold dn
  split
  · exact (show Bd 1 1 by unfold Bd; decide).mono hj
  · exact h
theorem dn_dn (d : Int) : dn (dn d) = dn d := dn_of (dn_ne d)
theorem den_ne (q : Rat) : (q.den : Int) ≠ 0 := by have := q.den_nz; omega
theorem qv_self (q : Rat) : qv q.num q.den = q := by rw [qv_of (den_ne q)]; exact Rat.num_divInt_den q

/-- any two numbers as a quotient -/
structure Rx (w : World) (m : Bool) (ao : Option Addr) (n cap : Nat) (k : Bool) (bo : Option Addr) (l cb : Nat) (x d : Int) (q : Rat) (j : Nat) : Prop where
  num : Nx w m ao n cap x
  den : Nx w k bo l cb d
  val : qv x d = q
  bn : Bd x j
  bd : Bd d j

/-- the canonical ones -/
structure Rc (w : World) (m : Bool) (ao : Option Addr) (n cap : Nat) (k : Bool) (bo : Option Addr) (l cb : Nat) (q : Rat) (j : Nat) : Prop where
  num : Cx w m ao n cap q.num
  den : Cx w k bo l cb (q.den : Int)
  bn : Bd q.num j
  bd : Bd (q.den : Int) j

/-- the reference's -/
structure Qx (w : World) (m : Bool) (ao : Option Addr) (n cap : Nat) (k : Bool) (bo : Option Addr) (l cb : Nat) (x d : Int) (q : Rat) (j : Nat) : Prop where
  num : Zx w m ao n cap x
  den : Zx w k bo l cb d
  nz : d ≠ 0
  val : Rat.divInt x d = q
  bn : Bd x j
  bd : Bd d j

theorem Rc.rx {w : World} {m : Bool} {ao : Option Addr} {n cap : Nat} {k : Bool} {bo : Option Addr} {l cb : Nat} {q : Rat} {j : Nat} (h : Rc w m ao n cap k bo l cb q j) : Rx w m ao n cap k bo l cb q.num q.den q j :=
  ⟨h.num.nx, h.den.nx, qv_self q, h.bn, h.bd⟩

def rFoot (ao : Option Addr) (n : Nat) (bo : Option Addr) (l : Nat) (c : Nat) : Prop := slFoot ao n c ∨ slFoot bo l c

def En.rx (m : Bool) (ao : Option Addr) (n cap : Nat) (k : Bool) (bo : Option Addr) (l cb : Nat) (x d : Int) (q : Rat) (j : Nat) : En :=
  ⟨fun w => Rx w m ao n cap k bo l cb x d q j, rFoot ao n bo l,
   fun w w' hh h => ⟨nx_dep w w' (fun c hc => hh c (.inl hc)) h.num, nx_dep w w' (fun c hc => hh c (.inr hc)) h.den, h.val, h.bn, h.bd⟩,
   fun w h c hc => hc.elim (nx_lt w h.num c) (nx_lt w h.den c)⟩
def En.rc (m : Bool) (ao : Option Addr) (n cap : Nat) (k : Bool) (bo : Option Addr) (l cb : Nat) (q : Rat) (j : Nat) : En :=
  ⟨fun w => Rc w m ao n cap k bo l cb q j, rFoot ao n bo l,
   fun w w' hh h => ⟨cx_dep w w' (fun c hc => hh c (.inl hc)) h.num, cx_dep w w' (fun c hc => hh c (.inr hc)) h.den, h.bn, h.bd⟩,
   fun w h c hc => hc.elim (nx_lt w h.num.nx c) (nx_lt w h.den.nx c)⟩
def En.qx (m : Bool) (ao : Option Addr) (n cap : Nat) (k : Bool) (bo : Option Addr) (l cb : Nat) (x d : Int) (q : Rat) (j : Nat) : En :=
  ⟨fun w => Qx w m ao n cap k bo l cb x d q j, rFoot ao n bo l,
   fun w w' hh h => ⟨zx_dep w w' (fun c hc => hh c (.inl hc)) h.num, zx_dep w w' (fun c hc => hh c (.inr hc)) h.den, h.nz, h.val, h.bn, h.bd⟩,
   fun w h c hc => hc.elim (dsl_lt w h.num.zd.sl c) (dsl_lt w h.den.zd.sl c)⟩

theorem Alls.rx {w : World} {m : Bool} {ao : Option Addr} {n cap : Nat} {k : Bool} {bo : Option Addr} {l cb : Nat} {x d : Int} {q : Rat} {j : Nat} {r : List En} (h : Alls w (.rx m ao n cap k bo l cb x d q j :: r)) : Rx w m ao n cap k bo l cb x d q j := h.1
theorem Alls.rc {w : World} {m : Bool} {ao : Option Addr} {n cap : Nat} {k : Bool} {bo : Option Addr} {l cb : Nat} {q : Rat} {j : Nat} {r : List En} (h : Alls w (.rc m ao n cap k bo l cb q j :: r)) : Rc w m ao n cap k bo l cb q j := h.1
theorem Alls.qx {w : World} {m : Bool} {ao : Option Addr} {n cap : Nat} {k : Bool} {bo : Option Addr} {l cb : Nat} {x d : Int} {q : Rat} {j : Nat} {r : List En} (h : Alls w (.qx m ao n cap k bo l cb x d q j :: r)) : Qx w m ao n cap k bo l cb x d q j := h.1

theorem Nx.dis {w : World} {p : Nat} {B : List Var} (hB : Vars w p B) (hp : Plain B) {m : Bool} {ao : Option Addr} {n cap : Nat} {z : Int} (h : Nx w m ao n cap z) : ∀ v ∈ B, ¬ slFoot ao n v.b := by
  obtain ⟨xs, hs, hz⟩ := h.inn
  exact sl_dis hB hp hs

theorem Sx.rx {w0 w : World} {B : List Var} {N : List En} (s : Sx w0 w B N) {m : Bool} {ao : Option Addr} {n cap : Nat} {k : Bool} {bo : Option Addr} {l cb : Nat} {x d : Int} {q : Rat} {j : Nat} (h : Rx w m ao n cap k bo l cb x d q j) (hp : Plain B) : Sx w0 w B (.rx m ao n cap k bo l cb x d q j :: N) :=
  s.add (.rx m ao n cap k bo l cb x d q j) h (fun v hv hc => hc.elim (h.num.dis s.b hp v hv) (h.den.dis s.b hp v hv))
theorem Sx.rc {w0 w : World} {B : List Var} {N : List En} (s : Sx w0 w B N) {m : Bool} {ao : Option Addr} {n cap : Nat} {k : Bool} {bo : Option Addr} {l cb : Nat} {q : Rat} {j : Nat} (h : Rc w m ao n cap k bo l cb q j) (hp : Plain B) : Sx w0 w B (.rc m ao n cap k bo l cb q j :: N) :=
  s.add (.rc m ao n cap k bo l cb q j) h (fun v hv hc => hc.elim (h.num.nx.dis s.b hp v hv) (h.den.nx.dis s.b hp v hv))
theorem Sx.qx {w0 w : World} {B : List Var} {N : List En} (s : Sx w0 w B N) {m : Bool} {ao : Option Addr} {n cap : Nat} {k : Bool} {bo : Option Addr} {l cb : Nat} {x d : Int} {q : Rat} {j : Nat} (h : Qx w m ao n cap k bo l cb x d q j) (hp : Plain B) : Sx w0 w B (.qx m ao n cap k bo l cb x d q j :: N) :=
  s.add (.qx m ao n cap k bo l cb x d q j) h (fun v hv hc => hc.elim (dsl_dis s.b hp h.num.zd.sl v hv) (dsl_dis s.b hp h.den.zd.sl v hv))

/-- What a call leaves that answers a quotient. -/
def NewR (w : World) (q : Rat) (j : Nat) (e : Ending) (w' : World) : Prop :=
  ∃ m ao n cap k bo l cb, e = .returned (.agg #[.bool m, .slice ao n cap, .bool k, .slice bo l cb]) ∧ Rc w' m ao n cap k bo l cb q j ∧ Below w.heap.size w w'
/-- The same beside an error's number. -/
def NewRE (w : World) (q : Rat) (j : Nat) (er : Int) (e : Ending) (w' : World) : Prop :=
  ∃ m ao n cap k bo l cb, e = .returned (.tuple #[.agg #[.bool m, .slice ao n cap, .bool k, .slice bo l cb], .int .i64 er]) ∧ Rc w' m ao n cap k bo l cb q j ∧ Below w.heap.size w w'
/-- What a call leaves that answers two numbers, as they are. -/
def NewPr (w : World) (x d : Int) (j : Nat) (e : Ending) (w' : World) : Prop :=
  ∃ m ao n cap k bo l cb, e = .returned (.agg #[.bool m, .slice ao n cap, .bool k, .slice bo l cb]) ∧ Cb w' m ao n cap x j ∧ Cb w' k bo l cb d j ∧ Below w.heap.size w w'
/-- What a call leaves that answers one of the reference's. -/
def NewQ (w : World) (x d : Int) (q : Rat) (j : Nat) (e : Ending) (w' : World) : Prop :=
  ∃ m ao n cap k bo l cb, e = .returned (.agg #[.bool m, .slice ao n cap, .bool k, .slice bo l cb]) ∧ Qx w' m ao n cap k bo l cb x d q j ∧ Below w.heap.size w w'
/-- What a call leaves that answers a number of whatever form. -/
def NewN (w : World) (z : Int) (e : Ending) (w' : World) : Prop :=
  ∃ m ao n cap, e = .returned (.agg #[.bool m, .slice ao n cap]) ∧ Nx w' m ao n cap z ∧ Below w.heap.size w w'

theorem bd_num {x d : Int} {j : Nat} (hx : Bd x j) (hd : d ≠ 0) : Bd (Rat.divInt x d).num j := Nat.lt_of_le_of_lt (q_num_le x d hd) hx
theorem bd_den {x d : Int} {j : Nat} (h : Bd d j) (hd : d ≠ 0) : Bd ((Rat.divInt x d).den : Int) j := by
  have := q_den_le x d hd
  unfold Bd at *
  rw [Int.natAbs_natCast]
  omega
theorem Rc.mono {w : World} {m : Bool} {ao : Option Addr} {n cap : Nat} {k : Bool} {bo : Option Addr} {l cb : Nat} {q : Rat} {i j : Nat} (h : Rc w m ao n cap k bo l cb q i) (hj : i ≤ j) : Rc w m ao n cap k bo l cb q j :=
  ⟨h.num, h.den, h.bn.mono hj, h.bd.mono hj⟩

end Go.Proofs.YteceomlbnajihaaGreatDoor

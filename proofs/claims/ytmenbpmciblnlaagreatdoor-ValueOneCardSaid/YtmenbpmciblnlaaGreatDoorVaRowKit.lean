/-
  What the rows of layer 10 share: from the row's condition to what strings' variables hold; a start that meets it.
-/
import Derived.Test.YtmenbpmciblnlaaGreatDoorVaKn
import Derived.LaidMore
import Derived.OpenShut
import Derived.Lay
import Derived.LaidLaws
import Derived.Stop.Joined
import Derived.Stop.LaidErr
import Derived.Lib.LaidTab
set_option maxHeartbeats 40000000
set_option maxRecDepth 100000
namespace Go.Proofs.YtmenbpmciblnlaaGreatDoor
open Go.ChangeShapes Go.WideShapes Go.ChangeAt Go.RowKit
def listed:List (String×DataW Unit):=Rows.valueOneRow.laid
theorem F8 (os:Os) (args:Array Value):laidMetH Tryz.prog listed ((World.laidAll Tryz.prog os listed).forCall (fun _ _=>0) ⟨#[],args,[]⟩).memory:=by
 rw[MakeChecks.laidMetH_plain _ _ _ (by kernel_rfl)];exact laidMet_laidAll _ (by kernel_rfl) (by kernel_rfl)
theorem Ga:Rows.laid_internal_strconv_uint64pow10 (H:=Unit)=Lib.tabData .u64 Lib.pow10Tab:=by kernel_rfl
theorem DR : "*" ++ "errors.errorString" = "*errors.errorString" := by decide
theorem Qk (u : TypeId) (h : Tryz.prog.typeName? 3 u = some "*errors.errorString") : u = 320 :=
 typeName_ptr_named (nm := "errors.errorString") (by rw [DR]; kernel_rfl) (by kernel_rfl) (by decide) u (by rw [DR]; exact h)
theorem DN {W:World} (h:laidMetH Tryz.prog listed W):Env W:=by
 rw[MakeChecks.laidMetH_plain _ _ _ (by kernel_rfl)]at h;have h1:laidMet Tryz.prog (_::_::_::_::_::_) W:=h;have h3:=h1.tail.tail;have h5:=h3.tail.tail;rw[Ga]at h3
 have e1 : Tryz.prog.globalNamed "strconv.ErrRange" = some 6 := by kernel_rfl
 obtain⟨a,s,hv,_⟩:=laid_sentinel h5 e1 (show(Tryz.prog.globals[6]?).map (·.type)=some 103 by kernel_rfl) Tryz.underlying103 Qk Tryz.underlying320 Tryz.underlying322 rfl rfl Tryz.underlying9 (by kernel_rfl) (by kernel_rfl);have hc:=World.var?_cell e1 hv 0
 exact⟨Lib.tabIs_of_head (g:=2) (t:=295) (e:=147) (n:=20) (by kernel_rfl) (by kernel_rfl) Tryz.underlying295 Tryz.underlying147 (by kernel_rfl) (by kernel_rfl) h3,⟨_,_,hc⟩,World.block_lt_of_cell? W _ hc⟩
end Go.Proofs.YtmenbpmciblnlaaGreatDoor

/- LockoutNone (watchword): closed facts of the row, each by the kernel. No conditions. -/
import Derived.Test.YtcjnnmbdgfekgaaGreatDoorChecked
import Derived.Test.YtcjnnmbdgfekgaaGreatDoorRows
import Derived.WalkKit
import Derived.ProofKit
import Derived.OpenShut
import Derived.HandedShaped
import Derived.Stop.Joined
import Derived.SevenTiedAt
import Derived.KernelRfl
namespace Go.Proofs.YtcjnnmbdgfekgaaGreatDoor.lockoutNone
open Go.ChangeShapes Go.WideShapes Go.ChangeAt Go.RowKit
set_option linter.unusedVariables false
set_option maxHeartbeats 40000000 in
theorem joined : joinedFacts Tryz.prog 8 Tryz.f8 Rows.lockoutNoneSpec Rows.lockoutNoneRow = true := by
  unfold joinedFacts
  iterate 31 refine (Bool.and_eq_true _ _).mpr ⟨?_, by as_aux_lemma => kernel_rfl⟩
  as_aux_lemma => kernel_rfl
theorem named : Tryz.prog.funcNamed Rows.lockoutNoneRow.func = some 8 := by kernel_rfl
theorem inst : Tryz.f8.isInstance Tryz.prog Rows.lockoutNoneRow.origin Rows.lockoutNoneRow.targs := of_decide_eq_true (by as_aux_lemma => kernel_rfl)
theorem wrap : Tryz.f8.isWrapper Tryz.prog Rows.lockoutNoneRow.wrapper Rows.lockoutNoneRow.mainSum := by unfold Func.isWrapper; first | (rw [if_pos (by decide +kernel)]; kernel_rfl) | (rw [if_neg (by decide +kernel)]; exact ⟨rfl, rfl⟩)
end Go.Proofs.YtcjnnmbdgfekgaaGreatDoor.lockoutNone

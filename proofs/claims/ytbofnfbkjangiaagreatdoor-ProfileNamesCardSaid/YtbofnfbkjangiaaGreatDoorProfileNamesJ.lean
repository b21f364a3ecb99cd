/- ProfileNames (watchword): closed facts of the row, each by the kernel. No conditions. -/
import Derived.Test.YtbofnfbkjangiaaGreatDoorChecked
import Derived.Test.YtbofnfbkjangiaaGreatDoorRows
import Derived.WalkKit
import Derived.ProofKit
import Derived.OpenShut
import Derived.HandedShaped
import Derived.Stop.Joined
import Derived.SevenTiedAt
import Derived.KernelRfl
namespace Go.Proofs.YtbofnfbkjangiaaGreatDoor.profileNames
open Go.ChangeShapes Go.WideShapes Go.ChangeAt Go.RowKit
set_option linter.unusedVariables false
set_option maxHeartbeats 40000000 in
theorem joined : joinedFacts Tryz.prog 3 Tryz.f3 Rows.profileNamesSpec Rows.profileNamesRow = true := by
  unfold joinedFacts
  iterate 31 refine (Bool.and_eq_true _ _).mpr ⟨?_, by as_aux_lemma => kernel_rfl⟩
  as_aux_lemma => kernel_rfl
theorem named : Tryz.prog.funcNamed Rows.profileNamesRow.func = some 3 := by kernel_rfl
theorem inst : Tryz.f3.isInstance Tryz.prog Rows.profileNamesRow.origin Rows.profileNamesRow.targs := of_decide_eq_true (by as_aux_lemma => kernel_rfl)
theorem wrap : Tryz.f3.isWrapper Tryz.prog Rows.profileNamesRow.wrapper Rows.profileNamesRow.mainSum := by unfold Func.isWrapper; first | (rw [if_pos (by decide +kernel)]; kernel_rfl) | (rw [if_neg (by decide +kernel)]; exact ⟨rfl, rfl⟩)
end Go.Proofs.YtbofnfbkjangiaaGreatDoor.profileNames

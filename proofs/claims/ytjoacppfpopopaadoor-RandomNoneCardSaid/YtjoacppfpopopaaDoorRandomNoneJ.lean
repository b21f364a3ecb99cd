/- RandomNone (watchword): closed facts of the row, each by the kernel. No conditions. -/
import Derived.Test.YtjoacppfpopopaaDoorChecked
import Derived.Test.YtjoacppfpopopaaDoorRows
import Derived.WalkKit
import Derived.ProofKit
import Derived.OpenShut
import Derived.HandedShaped
import Derived.Stop.Joined
import Derived.SevenTiedAt
import Derived.KernelRfl
namespace Go.Proofs.YtjoacppfpopopaaDoor.randomNone
open Go.ChangeShapes Go.WideShapes Go.ChangeAt Go.RowKit
set_option linter.unusedVariables false
set_option maxHeartbeats 40000000 in
theorem joined : joinedFacts Tryd.prog 3 Tryd.f3 Rows.randomNoneSpec Rows.randomNoneRow = true := by
  unfold joinedFacts
  iterate 31 refine (Bool.and_eq_true _ _).mpr ⟨?_, by as_aux_lemma => kernel_rfl⟩
  as_aux_lemma => kernel_rfl
theorem named : Tryd.prog.funcNamed Rows.randomNoneRow.func = some 3 := by kernel_rfl
theorem inst : Tryd.f3.isInstance Tryd.prog Rows.randomNoneRow.origin Rows.randomNoneRow.targs := of_decide_eq_true (by as_aux_lemma => kernel_rfl)
theorem wrap : Tryd.f3.isWrapper Tryd.prog Rows.randomNoneRow.wrapper Rows.randomNoneRow.mainSum := by unfold Func.isWrapper; first | (rw [if_pos (by decide +kernel)]; kernel_rfl) | (rw [if_neg (by decide +kernel)]; exact ⟨rfl, rfl⟩)
end Go.Proofs.YtjoacppfpopopaaDoor.randomNone

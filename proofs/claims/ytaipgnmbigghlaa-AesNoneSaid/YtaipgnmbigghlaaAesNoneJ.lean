/- AesNone (watchword): closed facts of the row, each by the kernel. No conditions. -/
import Derived.Test.YtaipgnmbigghlaaChecked
import Derived.Test.YtaipgnmbigghlaaRows
import Derived.WalkKit
import Derived.ProofKit
import Derived.OpenShut
import Derived.HandedShaped
import Derived.Stop.Joined
import Derived.SevenTiedAt
import Derived.KernelRfl
namespace Go.Proofs.Ytaipgnmbigghlaa.aesNone
open Go.ChangeShapes Go.WideShapes Go.ChangeAt Go.RowKit
set_option linter.unusedVariables false
set_option maxHeartbeats 40000000 in
theorem joined : joinedFacts Try.prog 3 Try.f3 Rows.aesNoneSpec Rows.aesNoneRow = true := by
  unfold joinedFacts
  iterate 31 refine (Bool.and_eq_true _ _).mpr ⟨?_, by as_aux_lemma => kernel_rfl⟩
  as_aux_lemma => kernel_rfl
theorem named : Try.prog.funcNamed Rows.aesNoneRow.func = some 3 := by kernel_rfl
theorem inst : Try.f3.isInstance Try.prog Rows.aesNoneRow.origin Rows.aesNoneRow.targs := of_decide_eq_true (by as_aux_lemma => kernel_rfl)
theorem wrap : Try.f3.isWrapper Try.prog Rows.aesNoneRow.wrapper Rows.aesNoneRow.mainSum := by unfold Func.isWrapper; first | (rw [if_pos (by decide +kernel)]; kernel_rfl) | (rw [if_neg (by decide +kernel)]; exact ⟨rfl, rfl⟩)
end Go.Proofs.Ytaipgnmbigghlaa.aesNone

/- a run of the abstract machine in pieces (watchword, known()): pieces. No conditions. -/
import Derived.Test.YtbofnfbkjangiaaGreatDoorKnS5
import Derived.KernelRfl
namespace Go.Proofs.YtbofnfbkjangiaaGreatDoor.kn
open Go.RowKit Go.Sim
set_option linter.unusedVariables false
set_option maxRecDepth 100000
theorem seg27 : runG Tryz.prog 6 Sim.isTrue 30000 fr27 cs27 h27 = true := by kernel_rfl

end Go.Proofs.YtbofnfbkjangiaaGreatDoor.kn

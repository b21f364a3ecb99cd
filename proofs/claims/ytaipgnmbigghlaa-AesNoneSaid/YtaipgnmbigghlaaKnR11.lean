/- a run of the abstract machine in pieces (watchword, known()): pieces. No conditions. -/
import Derived.Test.YtaipgnmbigghlaaKnS0
import Derived.KernelRfl
namespace Go.Proofs.Ytaipgnmbigghlaa.kn
open Go.RowKit Go.Sim
set_option linter.unusedVariables false
set_option maxRecDepth 100000
theorem seg44 : (fun R : Run => Sim.runN Try.prog 4 Sim.isTrue 10300 (keepR [0, 1, 4, 31, 32, 33, 34, 35, 316, 317, 318, 319, 320, 326, 327, 328, 329, 330] R) fr44 cs44 h44) = fun R => R fr45 cs45 h45 := by kernel_rfl
theorem seg45 : runG Try.prog 4 Sim.isTrue 10000 fr45 cs45 h45 = true := by kernel_rfl

end Go.Proofs.Ytaipgnmbigghlaa.kn

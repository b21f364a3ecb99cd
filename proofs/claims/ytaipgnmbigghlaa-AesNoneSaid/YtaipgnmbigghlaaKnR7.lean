/- a run of the abstract machine in pieces (watchword, known()): pieces. No conditions. -/
import Derived.Test.YtaipgnmbigghlaaKnS0
import Derived.KernelRfl
namespace Go.Proofs.Ytaipgnmbigghlaa.kn
open Go.RowKit Go.Sim
set_option linter.unusedVariables false
set_option maxRecDepth 100000
theorem seg28 : (fun R : Run => Sim.runN Try.prog 4 Sim.isTrue 10150 (keepR [0, 1, 4, 27, 28] R) fr28 cs28 h28) = fun R => R fr29 cs29 h29 := by kernel_rfl
theorem seg29 : (fun R : Run => Sim.runN Try.prog 4 Sim.isTrue 10300 (keepR [0, 1, 4, 27, 28] R) fr29 cs29 h29) = fun R => R fr30 cs30 h30 := by kernel_rfl
theorem seg30 : (fun R : Run => Sim.runN Try.prog 4 Sim.isTrue 10000 (keepR [0, 1, 4, 27, 28] R) fr30 cs30 h30) = fun R => R fr31 cs31 h31 := by kernel_rfl
theorem seg31 : (fun R : Run => Sim.runN Try.prog 4 Sim.isTrue 10000 (keepR [0, 1, 4, 27, 28] R) fr31 cs31 h31) = fun R => R fr32 cs32 h32 := by kernel_rfl

end Go.Proofs.Ytaipgnmbigghlaa.kn

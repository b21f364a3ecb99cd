/- a run of the abstract machine in pieces (watchword, known()): pieces. No conditions. -/
import Derived.Test.YtaipgnmbigghlaaKnS0
import Derived.KernelRfl
namespace Go.Proofs.Ytaipgnmbigghlaa.kn
open Go.RowKit Go.Sim
set_option linter.unusedVariables false
set_option maxRecDepth 100000
theorem seg32 : (fun R : Run => Sim.runN Try.prog 4 Sim.isTrue 10000 (keepR [0, 1, 4, 29, 30] R) fr32 cs32 h32) = fun R => R fr33 cs33 h33 := by kernel_rfl
theorem seg33 : (fun R : Run => Sim.runN Try.prog 4 Sim.isTrue 10000 (keepR [0, 1, 4, 29, 30] R) fr33 cs33 h33) = fun R => R fr34 cs34 h34 := by kernel_rfl
theorem seg34 : (fun R : Run => Sim.runN Try.prog 4 Sim.isTrue 10000 (keepR [0, 1, 4, 29, 30] R) fr34 cs34 h34) = fun R => R fr35 cs35 h35 := by kernel_rfl
theorem seg35 : (fun R : Run => Sim.runN Try.prog 4 Sim.isTrue 10000 (keepR [0, 1, 4, 29, 30] R) fr35 cs35 h35) = fun R => R fr36 cs36 h36 := by kernel_rfl

end Go.Proofs.Ytaipgnmbigghlaa.kn

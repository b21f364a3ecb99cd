/- a run of the abstract machine in pieces (watchword, known()): pieces. No conditions. -/
import Derived.Test.YtaipgnmbigghlaaKnS0
import Derived.KernelRfl
namespace Go.Proofs.Ytaipgnmbigghlaa.kn
open Go.RowKit Go.Sim
set_option linter.unusedVariables false
set_option maxRecDepth 100000
theorem seg12 : (fun R : Run => Sim.runN Try.prog 4 Sim.isTrue 10000 (keepR [0, 1, 4, 25, 26] R) fr12 cs12 h12) = fun R => R fr13 cs13 h13 := by kernel_rfl
theorem seg13 : (fun R : Run => Sim.runN Try.prog 4 Sim.isTrue 10000 (keepR [0, 1, 4, 25, 26] R) fr13 cs13 h13) = fun R => R fr14 cs14 h14 := by kernel_rfl
theorem seg14 : (fun R : Run => Sim.runN Try.prog 4 Sim.isTrue 10000 (keepR [0, 1, 4, 25, 26] R) fr14 cs14 h14) = fun R => R fr15 cs15 h15 := by kernel_rfl
theorem seg15 : (fun R : Run => Sim.runN Try.prog 4 Sim.isTrue 10000 (keepR [0, 1, 4, 25, 26] R) fr15 cs15 h15) = fun R => R fr16 cs16 h16 := by kernel_rfl

end Go.Proofs.Ytaipgnmbigghlaa.kn

/- a run of the abstract machine in pieces (watchword, known()): pieces. No conditions. -/
import Derived.Test.YtaipgnmbigghlaaKnS0
import Derived.KernelRfl
namespace Go.Proofs.Ytaipgnmbigghlaa.kn
open Go.RowKit Go.Sim
set_option linter.unusedVariables false
set_option maxRecDepth 100000
theorem seg8 : (fun R : Run => Sim.runN Try.prog 4 Sim.isTrue 10150 (keepR [0, 1, 2, 3] R) fr8 cs8 h8) = fun R => R fr9 cs9 h9 := by kernel_rfl
theorem seg9 : (fun R : Run => Sim.runN Try.prog 4 Sim.isTrue 10150 (keepR [0, 1, 2, 3] R) fr9 cs9 h9) = fun R => R fr10 cs10 h10 := by kernel_rfl
theorem seg10 : (fun R : Run => Sim.runN Try.prog 4 Sim.isTrue 10000 (keepR [0, 1, 4, 13, 14] R) fr10 cs10 h10) = fun R => R fr11 cs11 h11 := by kernel_rfl
theorem seg11 : (fun R : Run => Sim.runN Try.prog 4 Sim.isTrue 10000 (keepR [0, 1, 4, 25, 26] R) fr11 cs11 h11) = fun R => R fr12 cs12 h12 := by kernel_rfl

end Go.Proofs.Ytaipgnmbigghlaa.kn

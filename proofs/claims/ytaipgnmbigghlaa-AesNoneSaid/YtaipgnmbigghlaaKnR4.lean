/- a run of the abstract machine in pieces (watchword, known()): pieces. No conditions. -/
import Derived.Test.YtaipgnmbigghlaaKnS0
import Derived.KernelRfl
namespace Go.Proofs.Ytaipgnmbigghlaa.kn
open Go.RowKit Go.Sim
set_option linter.unusedVariables false
set_option maxRecDepth 100000
theorem seg16 : (fun R : Run => Sim.runN Try.prog 4 Sim.isTrue 10150 (keepR [0, 1, 4, 25, 26] R) fr16 cs16 h16) = fun R => R fr17 cs17 h17 := by kernel_rfl
theorem seg17 : (fun R : Run => Sim.runN Try.prog 4 Sim.isTrue 10000 (keepR [0, 1, 4, 25, 26] R) fr17 cs17 h17) = fun R => R fr18 cs18 h18 := by kernel_rfl
theorem seg18 : (fun R : Run => Sim.runN Try.prog 4 Sim.isTrue 10000 (keepR [0, 1, 4, 25, 26] R) fr18 cs18 h18) = fun R => R fr19 cs19 h19 := by kernel_rfl
theorem seg19 : (fun R : Run => Sim.runN Try.prog 4 Sim.isTrue 10000 (keepR [0, 1, 4, 25, 26] R) fr19 cs19 h19) = fun R => R fr20 cs20 h20 := by kernel_rfl

end Go.Proofs.Ytaipgnmbigghlaa.kn

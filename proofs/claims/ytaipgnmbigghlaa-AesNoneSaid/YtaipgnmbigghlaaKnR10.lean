/- a run of the abstract machine in pieces (watchword, known()): pieces. No conditions. -/
import Derived.Test.YtaipgnmbigghlaaKnS0
import Derived.KernelRfl
namespace Go.Proofs.Ytaipgnmbigghlaa.kn
open Go.RowKit Go.Sim
set_option linter.unusedVariables false
set_option maxRecDepth 100000
theorem seg40 : (fun R : Run => Sim.runN Try.prog 4 Sim.isTrue 10000 (keepR [0, 1, 4, 29, 30] R) fr40 cs40 h40) = fun R => R fr41 cs41 h41 := by kernel_rfl
theorem seg41 : (fun R : Run => Sim.runN Try.prog 4 Sim.isTrue 10000 (keepR [0, 1, 4, 29, 30] R) fr41 cs41 h41) = fun R => R fr42 cs42 h42 := by kernel_rfl
theorem seg42 : (fun R : Run => Sim.runN Try.prog 4 Sim.isTrue 10000 (keepR [0, 1, 4, 29, 30] R) fr42 cs42 h42) = fun R => R fr43 cs43 h43 := by kernel_rfl
theorem seg43 : (fun R : Run => Sim.runN Try.prog 4 Sim.isTrue 10000 (keepR [0, 1, 4, 31, 32, 33, 34, 35, 146, 147, 148, 149, 150, 153, 154, 155] R) fr43 cs43 h43) = fun R => R fr44 cs44 h44 := by kernel_rfl

end Go.Proofs.Ytaipgnmbigghlaa.kn

/- a run of the abstract machine in pieces (watchword, known()): pieces. No conditions. -/
import Derived.Test.YtaipgnmbigghlaaKnS0
import Derived.KernelRfl
namespace Go.Proofs.Ytaipgnmbigghlaa.kn
open Go.RowKit Go.Sim
set_option linter.unusedVariables false
set_option maxRecDepth 100000
theorem seg0 : (fun R : Run => runsR Try.prog fx noF 4 [] (Sim.runN Try.prog 4 Sim.isTrue 10000 (keepR [0, 1, 2, 3] R))) = fun R => R fr1 cs1 h1 := by kernel_rfl
theorem seg1 : (fun R : Run => Sim.runN Try.prog 4 Sim.isTrue 10000 (keepR [0, 1, 2, 3] R) fr1 cs1 h1) = fun R => R fr2 cs2 h2 := by kernel_rfl
theorem seg2 : (fun R : Run => Sim.runN Try.prog 4 Sim.isTrue 10000 (keepR [0, 1, 2, 3] R) fr2 cs2 h2) = fun R => R fr3 cs3 h3 := by kernel_rfl
theorem seg3 : (fun R : Run => Sim.runN Try.prog 4 Sim.isTrue 10000 (keepR [0, 1, 2, 3] R) fr3 cs3 h3) = fun R => R fr4 cs4 h4 := by kernel_rfl

end Go.Proofs.Ytaipgnmbigghlaa.kn

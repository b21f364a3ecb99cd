/- a run of the abstract machine in pieces (watchword, known()): pieces. No conditions. -/
import Derived.Test.YtaipgnmbigghlaaKnS0
import Derived.KernelRfl
namespace Go.Proofs.Ytaipgnmbigghlaa.kn
open Go.RowKit Go.Sim
set_option linter.unusedVariables false
set_option maxRecDepth 100000
theorem seg36 : (fun R : Run => Sim.runN Try.prog 4 Sim.isTrue 10000 (keepR [0, 1, 4, 29, 30] R) fr36 cs36 h36) = fun R => R fr37 cs37 h37 := by kernel_rfl
theorem seg37 : (fun R : Run => Sim.runN Try.prog 4 Sim.isTrue 10000 (keepR [0, 1, 4, 29, 30] R) fr37 cs37 h37) = fun R => R fr38 cs38 h38 := by kernel_rfl
theorem seg38 : (fun R : Run => Sim.runN Try.prog 4 Sim.isTrue 10000 (keepR [0, 1, 4, 29, 30] R) fr38 cs38 h38) = fun R => R fr39 cs39 h39 := by kernel_rfl
theorem seg39 : (fun R : Run => Sim.runN Try.prog 4 Sim.isTrue 10150 (keepR [0, 1, 4, 29, 30] R) fr39 cs39 h39) = fun R => R fr40 cs40 h40 := by kernel_rfl

end Go.Proofs.Ytaipgnmbigghlaa.kn

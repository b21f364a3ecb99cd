/- a run of the abstract machine in pieces (watchword, known()): pieces. No conditions. -/
import Derived.Test.YtjoacppfpopopaaDoorKnS1
import Derived.KernelRfl
namespace Go.Proofs.YtjoacppfpopopaaDoor.kn
open Go.RowKit Go.Sim
set_option linter.unusedVariables false
set_option maxRecDepth 100000
theorem seg29 : (fun R : Run => Sim.runN Tryd.prog 4 Sim.isTrue 34000 (keepR [0, 1, 1049, 1050, 1051, 1058, 4220, 7382, 9488, 10549, 10550, 10551, 10552, 10553, 10554, 10561, 10563, 10792, 10793, 10794, 10795, 10796, 10797, 10798, 10799, 10800, 10801, 10802, 10856, 10864, 10963, 11020, 11021] R) fr29 cs29 h29) = fun R => R fr30 cs30 h30 := by kernel_rfl

end Go.Proofs.YtjoacppfpopopaaDoor.kn

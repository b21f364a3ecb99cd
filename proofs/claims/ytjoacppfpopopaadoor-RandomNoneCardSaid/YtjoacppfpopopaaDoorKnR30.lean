/- a run of the abstract machine in pieces (watchword, known()): pieces. No conditions. -/
import Derived.Test.YtjoacppfpopopaaDoorKnS1
import Derived.KernelRfl
namespace Go.Proofs.YtjoacppfpopopaaDoor.kn
open Go.RowKit Go.Sim
set_option linter.unusedVariables false
set_option maxRecDepth 100000
theorem seg30 : (fun R : Run => Sim.runN Tryd.prog 4 Sim.isTrue 34000 (keepR [0, 1, 1049, 1050, 1051, 1058, 4220, 7382, 9488, 10549, 10550, 10551, 10552, 10553, 10554, 10561, 10563, 10792, 10793, 10794, 11095, 11096, 11097, 11098, 11327, 11328, 11329, 11330, 11331, 11332, 11333, 11334, 11335, 11336, 11359, 11367, 11368, 11369, 11379] R) fr30 cs30 h30) = fun R => R fr31 cs31 h31 := by kernel_rfl

end Go.Proofs.YtjoacppfpopopaaDoor.kn

/- LifetimeHolds (watchword): its run where the base is not valid, part 4. No conditions but the facts that are named. -/
import Derived.Test.YtkllodeeccooeaaDoorLifetimeHoldsK2
namespace Go.Proofs.YtkllodeeccooeaaDoor.lifetimeHolds
open Go.RowKit
theorem r256_12 : rn (Sim.addF q256_12 (Sim.notL w12)) = true := by kernel_rfl
theorem r256_13 : rn (Sim.addF q256_13 (Sim.notL w13)) = true := by kernel_rfl
theorem r256_e00 : rn (Sim.addF (Sim.addF q256_14 wl) wt) = true := by kernel_rfl
theorem r256_e01 : rn (Sim.addF (Sim.addF q256_14 wl) (Sim.notL wt)) = true := by kernel_rfl
theorem r256_e10 : rn (Sim.addF (Sim.addF q256_14 (Sim.notL wl)) wt) = true := by kernel_rfl
theorem r256_e11 : rn (Sim.addF (Sim.addF q256_14 (Sim.notL wl)) (Sim.notL wt)) = true := by kernel_rfl
theorem r255_0 : rn (Sim.addF q255_0 (Sim.notL w0)) = true := by kernel_rfl
theorem r255_1 : rn (Sim.addF q255_1 (Sim.notL w1)) = true := by kernel_rfl
theorem r255_2 : rn (Sim.addF q255_2 (Sim.notL w2)) = true := by kernel_rfl
theorem r255_3 : rn (Sim.addF q255_3 (Sim.notL w3)) = true := by kernel_rfl
theorem r255_4 : rn (Sim.addF q255_4 (Sim.notL w4)) = true := by kernel_rfl
theorem r255_5 : rn (Sim.addF q255_5 (Sim.notL w5)) = true := by kernel_rfl
theorem r255_6 : rn (Sim.addF q255_6 (Sim.notL w6)) = true := by kernel_rfl
theorem r255_7 : rn (Sim.addF q255_7 (Sim.notL w7)) = true := by kernel_rfl
theorem r255_8 : rn (Sim.addF q255_8 (Sim.notL w8)) = true := by kernel_rfl
theorem r255_9 : rn (Sim.addF q255_9 (Sim.notL w9)) = true := by kernel_rfl
theorem r255_10 : rn (Sim.addF q255_10 (Sim.notL w10)) = true := by kernel_rfl
theorem r255_11 : rn (Sim.addF q255_11 (Sim.notL w11)) = true := by kernel_rfl
theorem r255_12 : rn (Sim.addF q255_12 (Sim.notL w12)) = true := by kernel_rfl
theorem r255_13 : rn (Sim.addF q255_13 (Sim.notL w13)) = true := by kernel_rfl
theorem r255_e00 : rn (Sim.addF (Sim.addF q255_14 wl) wt) = true := by kernel_rfl
theorem r255_e01 : rn (Sim.addF (Sim.addF q255_14 wl) (Sim.notL wt)) = true := by kernel_rfl
theorem r255_e10 : rn (Sim.addF (Sim.addF q255_14 (Sim.notL wl)) wt) = true := by kernel_rfl
theorem r255_e11 : rn (Sim.addF (Sim.addF q255_14 (Sim.notL wl)) (Sim.notL wt)) = true := by kernel_rfl
theorem r254_0 : rn (Sim.addF q254_0 (Sim.notL w0)) = true := by kernel_rfl
theorem r254_1 : rn (Sim.addF q254_1 (Sim.notL w1)) = true := by kernel_rfl
theorem r254_2 : rn (Sim.addF q254_2 (Sim.notL w2)) = true := by kernel_rfl
theorem r254_3 : rn (Sim.addF q254_3 (Sim.notL w3)) = true := by kernel_rfl
theorem r254_4 : rn (Sim.addF q254_4 (Sim.notL w4)) = true := by kernel_rfl
theorem r254_5 : rn (Sim.addF q254_5 (Sim.notL w5)) = true := by kernel_rfl
end Go.Proofs.YtkllodeeccooeaaDoor.lifetimeHolds

/- LifetimeHolds (watchword): its run where the base is not valid, part 3. No conditions but the facts that are named. -/
import Derived.Test.YtkllodeeccooeaaDoorLifetimeHoldsK2
namespace Go.Proofs.YtkllodeeccooeaaDoor.lifetimeHolds
open Go.RowKit
theorem r257_0 : rn (Sim.addF q257_0 (Sim.notL w0)) = true := by kernel_rfl
theorem r257_1 : rn (Sim.addF q257_1 (Sim.notL w1)) = true := by kernel_rfl
theorem r257_2 : rn (Sim.addF q257_2 (Sim.notL w2)) = true := by kernel_rfl
theorem r257_3 : rn (Sim.addF q257_3 (Sim.notL w3)) = true := by kernel_rfl
theorem r257_4 : rn (Sim.addF q257_4 (Sim.notL w4)) = true := by kernel_rfl
theorem r257_5 : rn (Sim.addF q257_5 (Sim.notL w5)) = true := by kernel_rfl
theorem r257_6 : rn (Sim.addF q257_6 (Sim.notL w6)) = true := by kernel_rfl
theorem r257_7 : rn (Sim.addF q257_7 (Sim.notL w7)) = true := by kernel_rfl
theorem r257_8 : rn (Sim.addF q257_8 (Sim.notL w8)) = true := by kernel_rfl
theorem r257_9 : rn (Sim.addF q257_9 (Sim.notL w9)) = true := by kernel_rfl
theorem r257_10 : rn (Sim.addF q257_10 (Sim.notL w10)) = true := by kernel_rfl
theorem r257_11 : rn (Sim.addF q257_11 (Sim.notL w11)) = true := by kernel_rfl
theorem r257_12 : rn (Sim.addF q257_12 (Sim.notL w12)) = true := by kernel_rfl
theorem r257_13 : rn (Sim.addF q257_13 (Sim.notL w13)) = true := by kernel_rfl
theorem r257_e00 : rn (Sim.addF (Sim.addF q257_14 wl) wt) = true := by kernel_rfl
theorem r257_e01 : rn (Sim.addF (Sim.addF q257_14 wl) (Sim.notL wt)) = true := by kernel_rfl
theorem r257_e10 : rn (Sim.addF (Sim.addF q257_14 (Sim.notL wl)) wt) = true := by kernel_rfl
theorem r257_e11 : rn (Sim.addF (Sim.addF q257_14 (Sim.notL wl)) (Sim.notL wt)) = true := by kernel_rfl
theorem r256_0 : rn (Sim.addF q256_0 (Sim.notL w0)) = true := by kernel_rfl
theorem r256_1 : rn (Sim.addF q256_1 (Sim.notL w1)) = true := by kernel_rfl
theorem r256_2 : rn (Sim.addF q256_2 (Sim.notL w2)) = true := by kernel_rfl
theorem r256_3 : rn (Sim.addF q256_3 (Sim.notL w3)) = true := by kernel_rfl
theorem r256_4 : rn (Sim.addF q256_4 (Sim.notL w4)) = true := by kernel_rfl
theorem r256_5 : rn (Sim.addF q256_5 (Sim.notL w5)) = true := by kernel_rfl
theorem r256_6 : rn (Sim.addF q256_6 (Sim.notL w6)) = true := by kernel_rfl
theorem r256_7 : rn (Sim.addF q256_7 (Sim.notL w7)) = true := by kernel_rfl
theorem r256_8 : rn (Sim.addF q256_8 (Sim.notL w8)) = true := by kernel_rfl
theorem r256_9 : rn (Sim.addF q256_9 (Sim.notL w9)) = true := by kernel_rfl
theorem r256_10 : rn (Sim.addF q256_10 (Sim.notL w10)) = true := by kernel_rfl
theorem r256_11 : rn (Sim.addF q256_11 (Sim.notL w11)) = true := by kernel_rfl
end Go.Proofs.YtkllodeeccooeaaDoor.lifetimeHolds

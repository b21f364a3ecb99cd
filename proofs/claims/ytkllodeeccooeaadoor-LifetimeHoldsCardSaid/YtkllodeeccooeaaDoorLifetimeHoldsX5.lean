/- LifetimeHolds (watchword): its run where the base is not valid, part 5. No conditions but the facts that are named. -/
import Derived.Test.YtkllodeeccooeaaDoorLifetimeHoldsK2
namespace Go.Proofs.YtkllodeeccooeaaDoor.lifetimeHolds
open Go.RowKit
theorem r254_6 : rn (Sim.addF q254_6 (Sim.notL w6)) = true := by kernel_rfl
theorem r254_7 : rn (Sim.addF q254_7 (Sim.notL w7)) = true := by kernel_rfl
theorem r254_8 : rn (Sim.addF q254_8 (Sim.notL w8)) = true := by kernel_rfl
theorem r254_9 : rn (Sim.addF q254_9 (Sim.notL w9)) = true := by kernel_rfl
theorem r254_10 : rn (Sim.addF q254_10 (Sim.notL w10)) = true := by kernel_rfl
theorem r254_11 : rn (Sim.addF q254_11 (Sim.notL w11)) = true := by kernel_rfl
theorem r254_12 : rn (Sim.addF q254_12 (Sim.notL w12)) = true := by kernel_rfl
theorem r254_13 : rn (Sim.addF q254_13 (Sim.notL w13)) = true := by kernel_rfl
theorem r254_e00 : rn (Sim.addF (Sim.addF q254_14 wl) wt) = true := by kernel_rfl
theorem r254_e01 : rn (Sim.addF (Sim.addF q254_14 wl) (Sim.notL wt)) = true := by kernel_rfl
theorem r254_e10 : rn (Sim.addF (Sim.addF q254_14 (Sim.notL wl)) wt) = true := by kernel_rfl
theorem r254_e11 : rn (Sim.addF (Sim.addF q254_14 (Sim.notL wl)) (Sim.notL wt)) = true := by kernel_rfl
theorem r253_0 : rn (Sim.addF q253_0 (Sim.notL w0)) = true := by kernel_rfl
theorem r253_1 : rn (Sim.addF q253_1 (Sim.notL w1)) = true := by kernel_rfl
theorem r253_2 : rn (Sim.addF q253_2 (Sim.notL w2)) = true := by kernel_rfl
theorem r253_3 : rn (Sim.addF q253_3 (Sim.notL w3)) = true := by kernel_rfl
theorem r253_4 : rn (Sim.addF q253_4 (Sim.notL w4)) = true := by kernel_rfl
theorem r253_5 : rn (Sim.addF q253_5 (Sim.notL w5)) = true := by kernel_rfl
theorem r253_6 : rn (Sim.addF q253_6 (Sim.notL w6)) = true := by kernel_rfl
theorem r253_7 : rn (Sim.addF q253_7 (Sim.notL w7)) = true := by kernel_rfl
theorem r253_8 : rn (Sim.addF q253_8 (Sim.notL w8)) = true := by kernel_rfl
theorem r253_9 : rn (Sim.addF q253_9 (Sim.notL w9)) = true := by kernel_rfl
theorem r253_10 : rn (Sim.addF q253_10 (Sim.notL w10)) = true := by kernel_rfl
theorem r253_11 : rn (Sim.addF q253_11 (Sim.notL w11)) = true := by kernel_rfl
theorem r253_12 : rn (Sim.addF q253_12 (Sim.notL w12)) = true := by kernel_rfl
theorem r253_13 : rn (Sim.addF q253_13 (Sim.notL w13)) = true := by kernel_rfl
theorem r253_e00 : rn (Sim.addF (Sim.addF q253_14 wl) wt) = true := by kernel_rfl
theorem r253_e01 : rn (Sim.addF (Sim.addF q253_14 wl) (Sim.notL wt)) = true := by kernel_rfl
theorem r253_e10 : rn (Sim.addF (Sim.addF q253_14 (Sim.notL wl)) wt) = true := by kernel_rfl
theorem r253_e11 : rn (Sim.addF (Sim.addF q253_14 (Sim.notL wl)) (Sim.notL wt)) = true := by kernel_rfl
end Go.Proofs.YtkllodeeccooeaaDoor.lifetimeHolds

/- LifetimeHolds (watchword): its run where the base is not valid, part 1. No conditions but the facts that are named. -/
import Derived.Test.YtkllodeeccooeaaDoorLifetimeHoldsK2
namespace Go.Proofs.YtkllodeeccooeaaDoor.lifetimeHolds
open Go.RowKit
theorem r261_12 : rn (Sim.addF q261_12 (Sim.notL w12)) = true := by kernel_rfl
theorem r261_13 : rn (Sim.addF q261_13 (Sim.notL w13)) = true := by kernel_rfl
theorem r261_e00 : rn (Sim.addF (Sim.addF q261_14 wl) wt) = true := by kernel_rfl
theorem r261_e01 : rn (Sim.addF (Sim.addF q261_14 wl) (Sim.notL wt)) = true := by kernel_rfl
theorem r261_e10 : rn (Sim.addF (Sim.addF q261_14 (Sim.notL wl)) wt) = true := by kernel_rfl
theorem r261_e11 : rn (Sim.addF (Sim.addF q261_14 (Sim.notL wl)) (Sim.notL wt)) = true := by kernel_rfl
theorem r260_0 : rn (Sim.addF q260_0 (Sim.notL w0)) = true := by kernel_rfl
theorem r260_1 : rn (Sim.addF q260_1 (Sim.notL w1)) = true := by kernel_rfl
theorem r260_2 : rn (Sim.addF q260_2 (Sim.notL w2)) = true := by kernel_rfl
theorem r260_3 : rn (Sim.addF q260_3 (Sim.notL w3)) = true := by kernel_rfl
theorem r260_4 : rn (Sim.addF q260_4 (Sim.notL w4)) = true := by kernel_rfl
theorem r260_5 : rn (Sim.addF q260_5 (Sim.notL w5)) = true := by kernel_rfl
theorem r260_6 : rn (Sim.addF q260_6 (Sim.notL w6)) = true := by kernel_rfl
theorem r260_7 : rn (Sim.addF q260_7 (Sim.notL w7)) = true := by kernel_rfl
theorem r260_8 : rn (Sim.addF q260_8 (Sim.notL w8)) = true := by kernel_rfl
theorem r260_9 : rn (Sim.addF q260_9 (Sim.notL w9)) = true := by kernel_rfl
theorem r260_10 : rn (Sim.addF q260_10 (Sim.notL w10)) = true := by kernel_rfl
theorem r260_11 : rn (Sim.addF q260_11 (Sim.notL w11)) = true := by kernel_rfl
theorem r260_12 : rn (Sim.addF q260_12 (Sim.notL w12)) = true := by kernel_rfl
theorem r260_13 : rn (Sim.addF q260_13 (Sim.notL w13)) = true := by kernel_rfl
theorem r260_e00 : rn (Sim.addF (Sim.addF q260_14 wl) wt) = true := by kernel_rfl
theorem r260_e01 : rn (Sim.addF (Sim.addF q260_14 wl) (Sim.notL wt)) = true := by kernel_rfl
theorem r260_e10 : rn (Sim.addF (Sim.addF q260_14 (Sim.notL wl)) wt) = true := by kernel_rfl
theorem r260_e11 : rn (Sim.addF (Sim.addF q260_14 (Sim.notL wl)) (Sim.notL wt)) = true := by kernel_rfl
theorem r259_0 : rn (Sim.addF q259_0 (Sim.notL w0)) = true := by kernel_rfl
theorem r259_1 : rn (Sim.addF q259_1 (Sim.notL w1)) = true := by kernel_rfl
theorem r259_2 : rn (Sim.addF q259_2 (Sim.notL w2)) = true := by kernel_rfl
theorem r259_3 : rn (Sim.addF q259_3 (Sim.notL w3)) = true := by kernel_rfl
theorem r259_4 : rn (Sim.addF q259_4 (Sim.notL w4)) = true := by kernel_rfl
theorem r259_5 : rn (Sim.addF q259_5 (Sim.notL w5)) = true := by kernel_rfl
end Go.Proofs.YtkllodeeccooeaaDoor.lifetimeHolds

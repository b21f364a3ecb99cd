/- LifetimeHolds (watchword): its run where the base is not valid, part 2. No conditions but the facts that are named. -/
import Derived.Test.YtkllodeeccooeaaDoorLifetimeHoldsK2
namespace Go.Proofs.YtkllodeeccooeaaDoor.lifetimeHolds
open Go.RowKit
theorem r259_6 : rn (Sim.addF q259_6 (Sim.notL w6)) = true := by kernel_rfl
theorem r259_7 : rn (Sim.addF q259_7 (Sim.notL w7)) = true := by kernel_rfl
theorem r259_8 : rn (Sim.addF q259_8 (Sim.notL w8)) = true := by kernel_rfl
theorem r259_9 : rn (Sim.addF q259_9 (Sim.notL w9)) = true := by kernel_rfl
theorem r259_10 : rn (Sim.addF q259_10 (Sim.notL w10)) = true := by kernel_rfl
theorem r259_11 : rn (Sim.addF q259_11 (Sim.notL w11)) = true := by kernel_rfl
theorem r259_12 : rn (Sim.addF q259_12 (Sim.notL w12)) = true := by kernel_rfl
theorem r259_13 : rn (Sim.addF q259_13 (Sim.notL w13)) = true := by kernel_rfl
theorem r259_e00 : rn (Sim.addF (Sim.addF q259_14 wl) wt) = true := by kernel_rfl
theorem r259_e01 : rn (Sim.addF (Sim.addF q259_14 wl) (Sim.notL wt)) = true := by kernel_rfl
theorem r259_e10 : rn (Sim.addF (Sim.addF q259_14 (Sim.notL wl)) wt) = true := by kernel_rfl
theorem r259_e11 : rn (Sim.addF (Sim.addF q259_14 (Sim.notL wl)) (Sim.notL wt)) = true := by kernel_rfl
theorem r258_0 : rn (Sim.addF q258_0 (Sim.notL w0)) = true := by kernel_rfl
theorem r258_1 : rn (Sim.addF q258_1 (Sim.notL w1)) = true := by kernel_rfl
theorem r258_2 : rn (Sim.addF q258_2 (Sim.notL w2)) = true := by kernel_rfl
theorem r258_3 : rn (Sim.addF q258_3 (Sim.notL w3)) = true := by kernel_rfl
theorem r258_4 : rn (Sim.addF q258_4 (Sim.notL w4)) = true := by kernel_rfl
theorem r258_5 : rn (Sim.addF q258_5 (Sim.notL w5)) = true := by kernel_rfl
theorem r258_6 : rn (Sim.addF q258_6 (Sim.notL w6)) = true := by kernel_rfl
theorem r258_7 : rn (Sim.addF q258_7 (Sim.notL w7)) = true := by kernel_rfl
theorem r258_8 : rn (Sim.addF q258_8 (Sim.notL w8)) = true := by kernel_rfl
theorem r258_9 : rn (Sim.addF q258_9 (Sim.notL w9)) = true := by kernel_rfl
theorem r258_10 : rn (Sim.addF q258_10 (Sim.notL w10)) = true := by kernel_rfl
theorem r258_11 : rn (Sim.addF q258_11 (Sim.notL w11)) = true := by kernel_rfl
theorem r258_12 : rn (Sim.addF q258_12 (Sim.notL w12)) = true := by kernel_rfl
theorem r258_13 : rn (Sim.addF q258_13 (Sim.notL w13)) = true := by kernel_rfl
theorem r258_e00 : rn (Sim.addF (Sim.addF q258_14 wl) wt) = true := by kernel_rfl
theorem r258_e01 : rn (Sim.addF (Sim.addF q258_14 wl) (Sim.notL wt)) = true := by kernel_rfl
theorem r258_e10 : rn (Sim.addF (Sim.addF q258_14 (Sim.notL wl)) wt) = true := by kernel_rfl
theorem r258_e11 : rn (Sim.addF (Sim.addF q258_14 (Sim.notL wl)) (Sim.notL wt)) = true := by kernel_rfl
end Go.Proofs.YtkllodeeccooeaaDoor.lifetimeHolds

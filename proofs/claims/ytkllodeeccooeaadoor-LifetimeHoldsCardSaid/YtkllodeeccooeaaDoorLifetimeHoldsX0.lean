/- LifetimeHolds (watchword): its run where the base is not valid, part 0. No conditions but the facts that are named. -/
import Derived.Test.YtkllodeeccooeaaDoorLifetimeHoldsK2
namespace Go.Proofs.YtkllodeeccooeaaDoor.lifetimeHolds
open Go.RowKit
theorem r262_0 : rn (Sim.addF q262_0 (Sim.notL w0)) = true := by kernel_rfl
theorem r262_1 : rn (Sim.addF q262_1 (Sim.notL w1)) = true := by kernel_rfl
theorem r262_2 : rn (Sim.addF q262_2 (Sim.notL w2)) = true := by kernel_rfl
theorem r262_3 : rn (Sim.addF q262_3 (Sim.notL w3)) = true := by kernel_rfl
theorem r262_4 : rn (Sim.addF q262_4 (Sim.notL w4)) = true := by kernel_rfl
theorem r262_5 : rn (Sim.addF q262_5 (Sim.notL w5)) = true := by kernel_rfl
theorem r262_6 : rn (Sim.addF q262_6 (Sim.notL w6)) = true := by kernel_rfl
theorem r262_7 : rn (Sim.addF q262_7 (Sim.notL w7)) = true := by kernel_rfl
theorem r262_8 : rn (Sim.addF q262_8 (Sim.notL w8)) = true := by kernel_rfl
theorem r262_9 : rn (Sim.addF q262_9 (Sim.notL w9)) = true := by kernel_rfl
theorem r262_10 : rn (Sim.addF q262_10 (Sim.notL w10)) = true := by kernel_rfl
theorem r262_11 : rn (Sim.addF q262_11 (Sim.notL w11)) = true := by kernel_rfl
theorem r262_12 : rn (Sim.addF q262_12 (Sim.notL w12)) = true := by kernel_rfl
theorem r262_13 : rn (Sim.addF q262_13 (Sim.notL w13)) = true := by kernel_rfl
theorem r262_e00 : rn (Sim.addF (Sim.addF q262_14 wl) wt) = true := by kernel_rfl
theorem r262_e01 : rn (Sim.addF (Sim.addF q262_14 wl) (Sim.notL wt)) = true := by kernel_rfl
theorem r262_e10 : rn (Sim.addF (Sim.addF q262_14 (Sim.notL wl)) wt) = true := by kernel_rfl
theorem r262_e11 : rn (Sim.addF (Sim.addF q262_14 (Sim.notL wl)) (Sim.notL wt)) = true := by kernel_rfl
theorem r261_0 : rn (Sim.addF q261_0 (Sim.notL w0)) = true := by kernel_rfl
theorem r261_1 : rn (Sim.addF q261_1 (Sim.notL w1)) = true := by kernel_rfl
theorem r261_2 : rn (Sim.addF q261_2 (Sim.notL w2)) = true := by kernel_rfl
theorem r261_3 : rn (Sim.addF q261_3 (Sim.notL w3)) = true := by kernel_rfl
theorem r261_4 : rn (Sim.addF q261_4 (Sim.notL w4)) = true := by kernel_rfl
theorem r261_5 : rn (Sim.addF q261_5 (Sim.notL w5)) = true := by kernel_rfl
theorem r261_6 : rn (Sim.addF q261_6 (Sim.notL w6)) = true := by kernel_rfl
theorem r261_7 : rn (Sim.addF q261_7 (Sim.notL w7)) = true := by kernel_rfl
theorem r261_8 : rn (Sim.addF q261_8 (Sim.notL w8)) = true := by kernel_rfl
theorem r261_9 : rn (Sim.addF q261_9 (Sim.notL w9)) = true := by kernel_rfl
theorem r261_10 : rn (Sim.addF q261_10 (Sim.notL w10)) = true := by kernel_rfl
theorem r261_11 : rn (Sim.addF q261_11 (Sim.notL w11)) = true := by kernel_rfl
end Go.Proofs.YtkllodeeccooeaaDoor.lifetimeHolds

/- LifetimeRenews (watchword): the unknown arguments and the facts of each part of its run. No conditions. -/
import Derived.Test.YtnmlbahdipmpgaaDoorSimD
import Derived.Test.YtnmlbahdipmpgaaDoorProg
import Derived.KernelRfl
namespace Go.Proofs.YtnmlbahdipmpgaaDoor.lifetimeRenews
open Go.RowKit
noncomputable def con : List (FuncId × List Sim.CP × Value) := [(19, [], .bool true)]
noncomputable def shp : List (Bool × List Value) := [(true, [Sim.topI .i64, Sim.topI .i64, Sim.topI .i64, Sim.topI .i64]), (false, [Sim.topI .i64]), (false, [Sim.topI .i64])]
noncomputable def inp : List Value := [.agg ⟨[Sim.symV .i64 [0, 1], Sim.symV .i64 [0, 0, 1], Sim.symV .i64 [0, 0, 0, 1], Sim.symV .i64 [0, 0, 0, 0, 1]]⟩, Sim.symV .i64 [0, 0, 0, 0, 0, 1], Sim.symV .i64 [0, 0, 0, 0, 0, 0, 1]]
theorem inpIs : Sim.argsV 0 shp = inp := by kernel_rfl
noncomputable def k0 : Sim.Facts := ⟨[-9223372036854775808, -9223372036854775808, -9223372036854775808, -9223372036854775808, -9223372036854775808, -9223372036854775808], [9223372036854775807, 9223372036854775807, 9223372036854775807, 9223372036854775807, 9223372036854775807, 9223372036854775807], [], con⟩
noncomputable def k1 : Sim.Facts := ⟨[-9223372036854775808, -9223372036854775808, -9223372036854775808, -9223372036854775808, 0, -9223372036854775808], [9223372036854775807, 9223372036854775807, 9223372036854775807, 9223372036854775807, 9223372036854775807, 9223372036854775807], [], con⟩
noncomputable def k2 : Sim.Facts := ⟨[-9223372036854775808, -9223372036854775808, -9223372036854775808, -9223372036854775808, 0, -9223372036854775808], [9223372036854775807, 9223372036854775807, 9223372036854775807, 9223372036854775807, 1099511627776, 9223372036854775807], [], con⟩
noncomputable def k3 : Sim.Facts := ⟨[-9223372036854775808, -9223372036854775808, -9223372036854775808, -9223372036854775808, 0, 0], [9223372036854775807, 9223372036854775807, 9223372036854775807, 9223372036854775807, 1099511627776, 9223372036854775807], [], con⟩
noncomputable def k4 : Sim.Facts := ⟨[-9223372036854775808, -9223372036854775808, -9223372036854775808, -9223372036854775808, 0, 0], [9223372036854775807, 9223372036854775807, 9223372036854775807, 9223372036854775807, 1099511627776, 86400], [], con⟩
noncomputable def k5 : Sim.Facts := ⟨[-9223372036854775808, -9223372036854775808, -9223372036854775808, -9223372036854775808, 0, 86401], [9223372036854775807, 9223372036854775807, 9223372036854775807, 9223372036854775807, 1099511627776, 9223372036854775807], [], con⟩
noncomputable def k6 : Sim.Facts := ⟨[-9223372036854775808, -9223372036854775808, -9223372036854775808, -9223372036854775808, 0, -9223372036854775808], [9223372036854775807, 9223372036854775807, 9223372036854775807, 9223372036854775807, 1099511627776, -1], [], con⟩
noncomputable def k7 : Sim.Facts := ⟨[-9223372036854775808, -9223372036854775808, -9223372036854775808, -9223372036854775808, 1099511627777, -9223372036854775808], [9223372036854775807, 9223372036854775807, 9223372036854775807, 9223372036854775807, 9223372036854775807, 9223372036854775807], [], con⟩
noncomputable def k8 : Sim.Facts := ⟨[-9223372036854775808, -9223372036854775808, -9223372036854775808, -9223372036854775808, -9223372036854775808, -9223372036854775808], [9223372036854775807, 9223372036854775807, 9223372036854775807, 9223372036854775807, -1, 9223372036854775807], [], con⟩
noncomputable def s4 : Sim.Sp := .leaf
noncomputable def s5 : Sim.Sp := .leaf
noncomputable def s3 : Sim.Sp := .node [86400, 0, 0, 0, 0, 0, -1] s4 s5
noncomputable def s6 : Sim.Sp := .leaf
noncomputable def s2 : Sim.Sp := .node [0, 0, 0, 0, 0, 0, 1] s3 s6
noncomputable def s7 : Sim.Sp := .leaf
noncomputable def s1 : Sim.Sp := .node [1099511627776, 0, 0, 0, 0, -1] s2 s7
noncomputable def s8 : Sim.Sp := .leaf
noncomputable def s0 : Sim.Sp := .node [0, 0, 0, 0, 0, 1] s1 s8
theorem root : Sim.factsA shp con = k0 := by kernel_rfl
theorem up3 : Sim.addF k3 [86400, 0, 0, 0, 0, 0, -1] = k4 := by kernel_rfl
theorem un3 : Sim.addF k3 (Sim.notL [86400, 0, 0, 0, 0, 0, -1]) = k5 := by kernel_rfl
theorem up2 : Sim.addF k2 [0, 0, 0, 0, 0, 0, 1] = k3 := by kernel_rfl
theorem un2 : Sim.addF k2 (Sim.notL [0, 0, 0, 0, 0, 0, 1]) = k6 := by kernel_rfl
theorem up1 : Sim.addF k1 [1099511627776, 0, 0, 0, 0, -1] = k2 := by kernel_rfl
theorem un1 : Sim.addF k1 (Sim.notL [1099511627776, 0, 0, 0, 0, -1]) = k7 := by kernel_rfl
theorem up0 : Sim.addF k0 [0, 0, 0, 0, 0, 1] = k1 := by kernel_rfl
theorem un0 : Sim.addF k0 (Sim.notL [0, 0, 0, 0, 0, 1]) = k8 := by kernel_rfl
end Go.Proofs.YtnmlbahdipmpgaaDoor.lifetimeRenews

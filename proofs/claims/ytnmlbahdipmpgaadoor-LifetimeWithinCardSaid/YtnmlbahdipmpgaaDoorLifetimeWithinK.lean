/- LifetimeWithin (watchword): the unknown arguments and the facts of each part of its run. No conditions. -/
import Derived.Test.YtnmlbahdipmpgaaDoorSimD
import Derived.Test.YtnmlbahdipmpgaaDoorProg
import Derived.KernelRfl
namespace Go.Proofs.YtnmlbahdipmpgaaDoor.lifetimeWithin
open Go.RowKit
noncomputable def con : List (FuncId × List Sim.CP × Value) := [(19, [], .bool true)]
noncomputable def shp : List (Bool × List Value) := [(false, [Sim.topI .i64]), (false, [Sim.topI .i64]), (false, [Sim.topI .i64])]
noncomputable def inp : List Value := [Sim.symV .i64 [0, 1], Sim.symV .i64 [0, 0, 1], Sim.symV .i64 [0, 0, 0, 1]]
theorem inpIs : Sim.argsV 0 shp = inp := by kernel_rfl
noncomputable def k0 : Sim.Facts := ⟨[-9223372036854775808, -9223372036854775808, -9223372036854775808], [9223372036854775807, 9223372036854775807, 9223372036854775807], [], con⟩
noncomputable def s0 : Sim.Sp := .leaf
theorem root : Sim.factsA shp con = k0 := by kernel_rfl
end Go.Proofs.YtnmlbahdipmpgaaDoor.lifetimeWithin

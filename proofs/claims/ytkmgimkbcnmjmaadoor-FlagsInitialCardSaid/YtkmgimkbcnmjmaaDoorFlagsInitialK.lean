/- FlagsInitial (watchword): the unknown arguments and the facts of each part of its run. No conditions. -/
import Derived.Test.YtkmgimkbcnmjmaaDoorSymD
import Derived.Test.YtkmgimkbcnmjmaaDoorProg
import Derived.KernelRfl
namespace Go.Proofs.YtkmgimkbcnmjmaaDoor.flagsInitial
open Go.RowKit
noncomputable def con : List (FuncId × List Sim.CP × Value) := [(16, [], .bool true)]
noncomputable def shp : List (Bool × List Value) := [(false, [Sim.topI .u32]), (false, [Sim.topI .u32]), (false, [Sim.topB])]
noncomputable def cls : List Value := [Sim.topI .u32, Sim.topI .u32, Sim.topB]
noncomputable def inp : List Value := [Sim.symV .u32 [0, 1], Sim.symV .u32 [0, 0, 1], Sim.symB 32 [0, 0, 0, 1]]
theorem inpIs : Sim.argsV 0 shp = inp := by kernel_rfl
noncomputable def k0 : Sim.Facts := ⟨[0, 0, 0, 0, 0, 0, 0, 0, 0, 0, 0, 0, 0, 0, 0, 0, 0, 0, 0, 0, 0, 0, 0, 0, 0, 0, 0, 0, 0, 0, 0, 0, 0, 0, 0, 0, 0, 0, 0, 0, 0, 0, 0, 0, 0, 0, 0, 0, 0, 0, 0, 0, 0, 0, 0, 0, 0, 0, 0, 0, 0, 0, 0, 0, 0, 0, 0, 0, 0, 0, 0, 0, 0, 0, 0, 0, 0, 0, 0, 0, 0, 0, 0, 0, 0, 0, 0, 0, 0, 0, 0, 0, 0, 0, 0, 0, 0, 0, 0, 0, 0, 0, 0, 0, 0, 0, 0, 0, 0, 0, 0, 0, 0, 0, 0, 0, 0, 0, 0, 0, 0, 0, 0, 0, 0, 0, 0, 0], [4294967295, 4294967295, 1, 0, 0, 0, 0, 0, 0, 0, 0, 0, 0, 0, 0, 0, 0, 0, 0, 0, 0, 0, 0, 0, 0, 0, 0, 0, 0, 0, 0, 0, 0, 0, 0, 0, 0, 0, 0, 0, 0, 0, 0, 0, 0, 0, 0, 0, 0, 0, 0, 0, 0, 0, 0, 0, 0, 0, 0, 0, 0, 0, 0, 0, 1, 1, 1, 1, 1, 1, 1, 1, 1, 1, 1, 1, 1, 1, 1, 1, 1, 1, 1, 1, 1, 1, 1, 1, 1, 1, 1, 1, 1, 1, 1, 1, 1, 1, 1, 1, 1, 1, 1, 1, 1, 1, 1, 1, 1, 1, 1, 1, 1, 1, 1, 1, 1, 1, 1, 1, 1, 1, 1, 1, 1, 1, 1, 1], [], con, cls, []⟩
noncomputable def s0 : Sim.Sp := .leaf
theorem root : Sim.factsW shp con [] 2 = k0 := by kernel_rfl
end Go.Proofs.YtkmgimkbcnmjmaaDoor.flagsInitial

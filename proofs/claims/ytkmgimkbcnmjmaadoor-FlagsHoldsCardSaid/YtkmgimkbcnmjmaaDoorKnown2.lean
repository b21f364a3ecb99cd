/- known() of the layer (watchword, flags): it returns true, and nothing turns below the heap's old size; by a run of the abstract machine. Where the tables hold what they are said to hold. -/
import Derived.Test.YtkmgimkbcnmjmaaDoorSymD
import Derived.Test.YtkmgimkbcnmjmaaDoorChecked
import Derived.Test.YtkmgimkbcnmjmaaDoorRows
import Derived.KernelRfl
namespace Go.Proofs.YtkmgimkbcnmjmaaDoor
open Go.RowKit
noncomputable def fx : Sim.Vars := [(1, Sim.cellsOfD (H := Unit) Rows.laid_unicode_utf8_first), (2, Sim.cellsOfD (H := Unit) Rows.laid_unicode_utf8_acceptRanges)]
theorem mixed : Tryd.prog.follows .mixedOrders = true := by kernel_rfl
theorem runs16 : Sim.runsG Tryd.prog fx Sim.noF 16 Sim.isTrue 16384 [] = true := by kernel_rfl
theorem known (w : World) (hw : Sim.Holds fx w) (hG : Tryd.prog.globals.size ≤ w.heap.size) :
    Calls Tryd.prog 16 #[] w fun e w' => e = .returned (.bool true) ∧ Below w.heap.size w w' := by
  letI : Sim.Ev := ⟨fun _ => 0, fun _ => undef, fun _ _ _ => False, fun _ => none, fun _ _ _ _ h => by simp [undef] at h, fun _ _ h => by simp [undef] at h, fun _ _ _ _ => by simp⟩
  haveI : Sim.KOk Tryd.prog w.heap.size w := ⟨fun _ _ _ h => h.elim⟩
  exact Sim.true_of_G mixed runs16 .nil w ⟨fun _ _ h => by simp [Sim.noF] at h, fun _ _ h => by simp [Sim.noF] at h, fun _ h => by simp [Sim.noF] at h, fun _ h => by simp [Sim.noF] at h, fun _ _ h => by simp [Sim.noF] at h, fun _ h => by simp [Sim.noF] at h⟩ (fun _ _ h => by cases h) hw hG
#print axioms known
end Go.Proofs.YtkmgimkbcnmjmaaDoor

/- known() of the layer (watchword, lifetime): it returns true, and nothing turns below the heap's old size; by a run of the abstract machine. Where the tables hold what they are said to hold. -/
import Derived.Test.YtkllodeeccooeaaDoorSymD
import Derived.Test.YtkllodeeccooeaaDoorChecked
import Derived.Test.YtkllodeeccooeaaDoorRows
import Derived.KernelRfl
namespace Go.Proofs.YtkllodeeccooeaaDoor
open Go.RowKit
noncomputable def fx : Sim.Vars := [(0, Sim.cellsOfD (H := Unit) Rows.laid_internal_strconv_uint64pow10), (2, Sim.cellsOfD (H := Unit) Rows.laid_math_bits_deBruijn32tab), (3, Sim.cellsOfD (H := Unit) Rows.laid_math_bits_deBruijn64tab)]
theorem mixed : Tryd.prog.follows .mixedOrders = true := by kernel_rfl
theorem runs10 : Sim.runsG Tryd.prog fx Sim.noF 10 Sim.isTrue 65536 [] = true := by kernel_rfl
theorem known (w : World) (hw : Sim.Holds fx w) (hG : Tryd.prog.globals.size ≤ w.heap.size) :
    Calls Tryd.prog 10 #[] w fun e w' => e = .returned (.bool true) ∧ Below w.heap.size w w' := by
  letI : Sim.Ev := ⟨fun _ => 0, fun _ => undef, fun _ _ _ => False, fun _ => none, fun _ _ _ _ h => by simp [undef] at h, fun _ _ h => by simp [undef] at h, fun _ _ _ _ => by simp⟩
  haveI : Sim.KOk Tryd.prog w.heap.size w := ⟨fun _ _ _ h => h.elim⟩
  exact Sim.true_of_G mixed runs10 .nil w ⟨fun _ _ h => by simp [Sim.noF] at h, fun _ _ h => by simp [Sim.noF] at h, fun _ h => by simp [Sim.noF] at h, fun _ h => by simp [Sim.noF] at h, fun _ _ h => by simp [Sim.noF] at h, fun _ h => by simp [Sim.noF] at h⟩ (fun _ _ h => by cases h) hw hG
#print axioms known
end Go.Proofs.YtkllodeeccooeaaDoor

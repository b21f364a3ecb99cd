/- NetworkNone (watchword): for every input the call returns true and the input reads as it did. -/
import Derived.Test.YtkoegeacjchhlaaSimE
import Derived.Test.YtkoegeacjchhlaaChecked
import Derived.Test.YtkoegeacjchhlaaRows
import Derived.WalkKit
import Derived.ProofKit
import Derived.OpenShut
import Derived.ShutString
import Derived.HandedShaped
namespace Go.Proofs.Ytkoegeacjchhlaa.networkNone
open Go.ChangeShapes Go.WideShapes Go.ChangeAt Go.RowKit
set_option linter.unusedVariables false

theorem own : ownKnob Try.prog.godebug = none := by kernel_rfl
theorem mixed : Try.prog.follows .mixedOrders = true := by kernel_rfl
theorem laidOut : laidOutB Try.prog = true := by kernel_rfl

noncomputable def inp : List Value := [.agg ⟨[Sim.topI .i64, Sim.topI .i64, Sim.topI .i64, Sim.topI .u8, Sim.topS, Sim.topS, Sim.topL]⟩]
theorem args : Sim.argsA Try.prog Try.f8.params.toList = some inp := by kernel_rfl
theorem runs : Sim.runsG Try.prog [] 8 Sim.isTrue 4096 inp = true := by kernel_rfl
theorem globals : Try.prog.globals.size = 0 := by kernel_rfl
/-! THE ROW -/
set_option maxRecDepth 100000 in
theorem lifted (os : Os) (started : os.Started) (H : Type) (enc : TypeId × Value → H) :
    ReturnsInHanded {} Try.checked os 8 .any (Rows.networkNoneSpec.pre6 enc Try.prog Try.f8 Rows.networkNoneRow.domain false) (Rows.networkNoneSpec.post enc Try.prog Try.f8 false true false false) := by
  refine returnsInHanded_of_change_shaped (C := Try.checked) own started (by kernel_rfl) Try.func8
    (ChangeSpec.witness6 (enc := enc) (C := Try.checked) false ⟨#[], #[.agg #[.int .i64 0, .int .i64 0, .int .i64 0, .int .u8 0, .string ⟨#[]⟩, .string ⟨#[]⟩, .slice none 0 0]], []⟩ 8 (by kernel_rfl) (by kernel_rfl) (by kernel_rfl) (by kernel_rfl)) ?_
  intro W base vs ds gs before hval hW hcnd _ hsh _
  refine Sim.post_of_G (P := Try.prog) (fn := Try.f8) (s := Rows.networkNoneSpec) mixed laidOut rfl (by kernel_rfl : Try.f8.resultTypes = #[4]) Try.underlying4 (by kernel_rfl) rfl ?_ args runs (by rw [globals]; exact Nat.zero_le _) hval hW
  intro ds hds
  match ds, hds with
  | [d0], _ => rfl

theorem over : Rows.networkNoneRow.holds Try.pinned (OpenSpec.ofChange Rows.networkNoneSpec) :=
  OpenClaim.holds_of_wide 8 Try.f8 rfl rfl rfl rfl rfl rfl rfl ⟨rfl, rfl, rfl, rfl, rfl⟩ rfl rfl rfl rfl rfl (by kernel_rfl) Try.func8 (by kernel_rfl)
    (of_decide_eq_true (by kernel_rfl)) (by unfold Func.isWrapper; first | (rw [if_pos (by decide +kernel)]; kernel_rfl) | (rw [if_neg (by decide +kernel)]; exact ⟨rfl, rfl⟩))
    (fun os started H enc _ => lifted os started H enc)

/-- THE STATEMENT -/
theorem proved : Rows.NetworkNoneSaid :=
  over
#print axioms proved
end Go.Proofs.Ytkoegeacjchhlaa.networkNone

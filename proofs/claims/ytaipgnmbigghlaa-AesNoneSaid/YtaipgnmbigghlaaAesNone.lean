/- AesNone (watchword): for every input the call returns true and the input reads as it did. -/
import Derived.Test.YtaipgnmbigghlaaSymE
import Derived.Test.YtaipgnmbigghlaaChecked
import Derived.Test.YtaipgnmbigghlaaRows
import Derived.WalkKit
import Derived.ProofKit
import Derived.OpenShut
import Derived.ShutString
import Derived.HandedShaped
import Derived.Test.YtaipgnmbigghlaaKnC
import Derived.Test.YtaipgnmbigghlaaAesNoneK
import Derived.Test.YtaipgnmbigghlaaAesNoneJ
namespace Go.Proofs.Ytaipgnmbigghlaa.aesNone
open Go.ChangeShapes Go.WideShapes Go.ChangeAt Go.RowKit
set_option linter.unusedVariables false
set_option maxHeartbeats 40000000

theorem own : ownKnob Try.prog.godebug = none := by kernel_rfl
theorem mixed : Try.prog.follows .mixedOrders = true := by kernel_rfl
theorem laidOut : laidOutB Try.prog = true := by kernel_rfl
theorem args : Sim.argsA Try.prog Try.f3.params.toList = some shp := by kernel_rfl
theorem els_eq : Sim.elsAs Try.prog Try.f3.params.toList shp 0 = els := by kernel_rfl
theorem globals : Try.prog.globals.size = 0 := by kernel_rfl

/-! THE ROW -/
set_option maxRecDepth 100000 in
theorem lifted (os : Os) (started : os.Started) (H : Type) (enc : TypeId × Value → H) :
    ReturnsInHanded {} Try.checked os 3 .any (Rows.aesNoneSpec.pre6 enc Try.prog Try.f3 Rows.aesNoneRow.domain false) (Rows.aesNoneSpec.post enc Try.prog Try.f3 false true false false) := by
  refine returnsInHanded_of_change_shaped (C := Try.checked) own started (by kernel_rfl) Try.func3
    (ChangeSpec.witness6 (enc := enc) (C := Try.checked) false ⟨#[], #[.slice none 0 0], []⟩ 8 (by kernel_rfl) (by kernel_rfl) (by kernel_rfl) (by kernel_rfl)) ?_
  intro W base vs ds gs before hval hW hcnd _ hsh _
  have hG : Try.prog.globals.size ≤ W.heap.size := by rw [globals]; exact Nat.zero_le _
  refine Sim.post_of_T (P := Try.prog) (fn := Try.f3) (s := Rows.aesNoneSpec) (fx := []) (con := con) (els := els) (sp := .leaf) (nb := 0) (fuel := 3000) mixed laidOut rfl (by kernel_rfl : Try.f3.resultTypes = #[4]) Try.underlying4 (by kernel_rfl) rfl ?_ args els_eq (by kernel_rfl) runL (fun p hp => by cases hp) hG (fun ha h64 hel => ?_) hval hW
  · intro ds hds
    match ds, hds with
    | [d0], _ => rfl
  · intro e he w' hb
    simp only [con, List.mem_cons, List.not_mem_nil, or_false] at he
    subst he
    exact (kn.known w' (fun p hp => by simp [kn.fx] at hp) (Nat.le_trans hG hb.size)).mono fun e' w'' ⟨h1, h2⟩ => ⟨_, h1, .bool true, h2⟩

theorem over : Rows.aesNoneRow.holds Try.pinned (OpenSpec.ofChange Rows.aesNoneSpec) :=
  OpenClaim.holds_of_wide 3 Try.f3 rfl rfl rfl rfl rfl rfl rfl ⟨rfl, rfl, rfl, rfl, rfl⟩ rfl rfl rfl rfl rfl named Try.func3 joined inst wrap
    (fun os started H enc _ => lifted os started H enc)

/-- THE STATEMENT -/
theorem proved : Rows.AesNoneSaid :=
  over
#print axioms proved
end Go.Proofs.Ytaipgnmbigghlaa.aesNone

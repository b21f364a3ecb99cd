/- Layer 11 (der): readers that are nil or zero. -/
import Derived.Test.YtmkejehjjpaelaaKnown
import Derived.Laws.EntriesVeiled
namespace Go.Proofs.Ytmkejehjjpaelaa
open Go.ChangeShapes Go.WideShapes Go.ChangeAt Go.RowKit
set_option linter.unusedVariables false

/-- no reader: nil, or the zero value -/
def Dead (p : Option Addr) (w : World) : Prop := ∀ w', Below w.heap.size w w' → Calls Try.prog 60 #[.pointer p] w' fun r w'' => r = .returned (.bool false) ∧ w' = w''

theorem Dead.grown {p : Option Addr} {w w1 : World} (h : Dead p w) (hb : Below w.heap.size w w1) : Dead p w1 := fun w' hw' => h w' (hb.trans (hw'.mono hb.size))

theorem dead_nil (w : World) : Dead none w := by
  intro w' _
  go_enter Try.func60, Try.ntmps60
  go_wp2
  go_ret
  exact ⟨rfl, rfl⟩

theorem dead_zero (b : Nat) (w : World) (hb : b < w.heap.size) (hc : w.cell? ⟨b, 2, none⟩ = some (.bool false)) : Dead (some ⟨b, 0, none⟩) w := by
  intro w' hw
  have hc' := (hw.cell (p := ⟨b, 2, none⟩) hb).trans hc
  clear hc hw hb
  go_enter Try.func60, Try.ntmps60
  go_wp2
  go_ret
  exact ⟨rfl, rfl⟩

theorem grown3 (w : World) (o1 o2 o3 : Obj) : Below w.heap.size w (((w.alloc o1).alloc o2).alloc o3) := ((grown1 w o1).alloc (by simp) o2).alloc (by simp; omega) o3

theorem dread58 (p : Option Addr) (w : World) (h : Dead p w) (tag : Int) (f : Value) : Calls Try.prog 58 #[.pointer p, .int .u8 tag, f] w fun r w' => r = .returned (.tuple #[.slice none 0 0, .int .i64 1]) ∧ Below w.heap.size w w' := by
  have hd := Lib.hid h; clear h
  go_enter_defers Try.func58, Try.ntmps58
  go_wp2_with fail
  refine (hd.out _ (grown3 w _ _ _)).mono ?_
  rintro e w' ⟨rfl, rfl⟩
  go_wp2_with fail
  simp [bodyPostD, Leaves, results, Try.results58, go_sem, grown3]

theorem dread66 (p : Option Addr) (w : World) (h : Dead p w) (tag : Int) (f : Value) : Calls Try.prog 66 #[.pointer p, .int .u8 tag, f] w fun r w' => r = .returned (.tuple #[.pointer none, .int .i64 1]) ∧ Below w.heap.size w w' := by
  have hd := Lib.hid h; clear h
  go_enter_defers Try.func66, Try.ntmps66
  go_wp2_with fail
  refine (hd.out _ (grown3 w _ _ _)).mono ?_
  rintro e w' ⟨rfl, rfl⟩
  go_wp2_with fail
  simp [bodyPostD, Leaves, results, Try.results66, go_sem, grown3]

theorem dread68 (p : Option Addr) (w : World) (h : Dead p w) (tag : Int) (f : Value) : Calls Try.prog 68 #[.pointer p, .int .u8 tag, f] w fun r w' => r = .returned (.tuple #[.int .i64 0, .int .i64 1]) ∧ Below w.heap.size w w' := by
  have hd := Lib.hid h; clear h
  go_enter_defers Try.func68, Try.ntmps68
  go_wp2_with fail
  refine (hd.out _ (grown3 w _ _ _)).mono ?_
  rintro e w' ⟨rfl, rfl⟩
  go_wp2_with fail
  simp [bodyPostD, Leaves, results, Try.results68, go_sem, grown3]

theorem dread71 (p : Option Addr) (w : World) (h : Dead p w) (tag : Int) (f : Value) : Calls Try.prog 71 #[.pointer p, .int .u8 tag, f] w fun r w' => r = .returned (.tuple #[.int .u32 0, .int .i64 1]) ∧ Below w.heap.size w w' := by
  have hd := Lib.hid h; clear h
  go_enter_defers Try.func71, Try.ntmps71
  go_wp2_with fail
  refine (hd.out _ (grown3 w _ _ _)).mono ?_
  rintro e w' ⟨rfl, rfl⟩
  go_wp2_with fail
  simp [bodyPostD, Leaves, results, Try.results71, go_sem, grown3]

theorem dread73 (p : Option Addr) (w : World) (h : Dead p w) (tag : Int) (f : Value) : Calls Try.prog 73 #[.pointer p, .int .u8 tag, f] w fun r w' => r = .returned (.tuple #[.bool false, .int .i64 1]) ∧ Below w.heap.size w w' := by
  have hd := Lib.hid h; clear h
  go_enter_defers Try.func73, Try.ntmps73
  go_wp2_with fail
  refine (hd.out _ (grown3 w _ _ _)).mono ?_
  rintro e w' ⟨rfl, rfl⟩
  go_wp2_with fail
  simp [bodyPostD, Leaves, results, Try.results73, go_sem, grown3]

theorem dread75 (p : Option Addr) (w : World) (h : Dead p w) (tag : Int) (f : Value) : Calls Try.prog 75 #[.pointer p, .int .u8 tag, f] w fun r w' => r = .returned (.tuple #[.string ⟨#[]⟩, .int .i64 1]) ∧ Below w.heap.size w w' := by
  have hd := Lib.hid h; clear h
  go_enter_defers Try.func75, Try.ntmps75
  go_wp2_with fail
  refine (hd.out _ (grown3 w _ _ _)).mono ?_
  rintro e w' ⟨rfl, rfl⟩
  go_wp2_with fail
  simp [bodyPostD, Leaves, results, Try.results75, go_sem, grown3]

theorem dread79 (p : Option Addr) (w : World) (h : Dead p w) (f : Value) : Calls Try.prog 79 #[.pointer p, f] w fun r w' => r = .returned (.tuple #[.agg #[.int .i64 0, .int .i64 0, .slice none 0 0], .int .i64 1]) ∧ Below w.heap.size w w' := by
  have hd := Lib.hid h; clear h
  go_enter_defers Try.func79, Try.ntmps79
  go_wp2_with fail
  refine (hd.out _ (grown3 w _ _ _)).mono ?_
  rintro e w' ⟨rfl, rfl⟩
  go_wp2_with fail
  simp [bodyPostD, Leaves, results, Try.results79, go_sem, grown3]

theorem dread83 (p : Option Addr) (w : World) (h : Dead p w) (f : Value) : Calls Try.prog 83 #[.pointer p, f] w fun r w' => r = .returned (.tuple #[.agg #[.int .i64 0, .int .i64 0, .slice none 0 0], .int .i64 1]) ∧ Below w.heap.size w w' := by
  have hd := Lib.hid h; clear h
  go_enter_defers Try.func83, Try.ntmps83
  go_wp2_with fail
  refine (hd.out _ (grown3 w _ _ _)).mono ?_
  rintro e w' ⟨rfl, rfl⟩
  go_wp2_with fail
  simp [bodyPostD, Leaves, results, Try.results83, go_sem, grown3]

theorem dread86 (p : Option Addr) (w : World) (h : Dead p w) (f : Value) : Calls Try.prog 86 #[.pointer p, f] w fun r w' => r = .returned (.tuple #[.slice none 0 0, .int .i64 1]) ∧ Below w.heap.size w w' := by
  have hd := Lib.hid h; clear h
  go_enter_defers Try.func86, Try.ntmps86
  go_wp2_with fail
  refine (hd.out _ (grown3 w _ _ _)).mono ?_
  rintro e w' ⟨rfl, rfl⟩
  go_wp2_with fail
  simp [bodyPostD, Leaves, results, Try.results86, go_sem, grown3]

theorem dead30 (p : Option Addr) (w : World) (h : Dead p w) : Calls Try.prog 30 #[.pointer p] w fun r w' => r = .returned (.tuple #[.slice none 0 0, .int .i64 1]) ∧ Below w.heap.size w w' := by
  have hd := Lib.hid h; clear h
  go_enter Try.func30, Try.ntmps30
  go_wp2_with fail
  refine (dread58 p w hd.out _ _).mono ?_
  rintro e w' ⟨rfl, hb⟩
  go_wp2_with fail
  go_returns
  exact ⟨rfl, hb⟩

theorem dead39 (p : Option Addr) (w : World) (h : Dead p w) : Calls Try.prog 39 #[.pointer p] w fun r w' => r = .returned (.tuple #[.pointer none, .int .i64 1]) ∧ Below w.heap.size w w' := by
  have hd := Lib.hid h; clear h
  go_enter Try.func39, Try.ntmps39
  go_wp2_with fail
  refine (dread66 p w hd.out _ _).mono ?_
  rintro e w' ⟨rfl, hb⟩
  go_wp2_with fail
  go_returns
  exact ⟨rfl, hb⟩

theorem dead41 (p : Option Addr) (w : World) (h : Dead p w) : Calls Try.prog 41 #[.pointer p] w fun r w' => r = .returned (.tuple #[.int .i64 0, .int .i64 1]) ∧ Below w.heap.size w w' := by
  have hd := Lib.hid h; clear h
  go_enter Try.func41, Try.ntmps41
  go_wp2_with fail
  refine (dread68 p w hd.out _ _).mono ?_
  rintro e w' ⟨rfl, hb⟩
  go_wp2_with fail
  go_returns
  exact ⟨rfl, hb⟩

theorem dead42 (p : Option Addr) (w : World) (h : Dead p w) : Calls Try.prog 42 #[.pointer p] w fun r w' => r = .returned (.tuple #[.int .i64 0, .int .i64 1]) ∧ Below w.heap.size w w' := by
  have hd := Lib.hid h; clear h
  go_enter Try.func42, Try.ntmps42
  go_wp2_with fail
  refine (dread68 p w hd.out _ _).mono ?_
  rintro e w' ⟨rfl, hb⟩
  go_wp2_with fail
  go_returns
  exact ⟨rfl, hb⟩

theorem dead43 (p : Option Addr) (w : World) (h : Dead p w) : Calls Try.prog 43 #[.pointer p] w fun r w' => r = .returned (.tuple #[.int .u32 0, .int .i64 1]) ∧ Below w.heap.size w w' := by
  have hd := Lib.hid h; clear h
  go_enter Try.func43, Try.ntmps43
  go_wp2_with fail
  refine (dread71 p w hd.out _ _).mono ?_
  rintro e w' ⟨rfl, hb⟩
  go_wp2_with fail
  go_returns
  exact ⟨rfl, hb⟩

theorem dead44 (p : Option Addr) (w : World) (h : Dead p w) : Calls Try.prog 44 #[.pointer p] w fun r w' => r = .returned (.tuple #[.bool false, .int .i64 1]) ∧ Below w.heap.size w w' := by
  have hd := Lib.hid h; clear h
  go_enter Try.func44, Try.ntmps44
  go_wp2_with fail
  refine (dread73 p w hd.out _ _).mono ?_
  rintro e w' ⟨rfl, hb⟩
  go_wp2_with fail
  go_returns
  exact ⟨rfl, hb⟩

theorem dead45 (p : Option Addr) (w : World) (h : Dead p w) : Calls Try.prog 45 #[.pointer p] w fun r w' => r = .returned (.tuple #[.string ⟨#[]⟩, .int .i64 1]) ∧ Below w.heap.size w w' := by
  have hd := Lib.hid h; clear h
  go_enter Try.func45, Try.ntmps45
  go_wp2_with fail
  refine (dread75 p w hd.out _ _).mono ?_
  rintro e w' ⟨rfl, hb⟩
  go_wp2_with fail
  go_returns
  exact ⟨rfl, hb⟩

theorem dead40 (p : Option Addr) (w : World) (h : Dead p w) : Calls Try.prog 40 #[.pointer p] w fun r w' => r = .returned (.int .i64 0) ∧ w = w' := by
  have hd := Lib.hid h; clear h
  go_enter Try.func40, Try.ntmps40
  go_wp2_with fail
  refine (hd.out _ (Below.refl _ _)).mono ?_
  rintro e w' ⟨rfl, rfl⟩
  go_wp2_with fail
  go_ret
  exact ⟨rfl, rfl⟩

theorem dead31 (p : Option Addr) (w : World) (h : Dead p w) : Calls Try.prog 31 #[.pointer p] w fun r w' => r = .returned (.int .i64 1) ∧ w = w' := by
  have hd := Lib.hid h; clear h
  go_enter Try.func31, Try.ntmps31
  go_wp2_with fail
  refine (hd.out _ (Below.refl _ _)).mono ?_
  rintro e w' ⟨rfl, rfl⟩
  go_wp2_with fail
  go_ret
  exact ⟨rfl, rfl⟩

theorem dead52 (p : Option Addr) (w : World) (h : Dead p w) : Calls Try.prog 52 #[.pointer p] w fun r w' => r = .returned (.pointer none) ∧ w = w' := by
  have hd := Lib.hid h; clear h
  go_enter Try.func52, Try.ntmps52
  go_wp2_with fail
  refine (hd.out _ (Below.refl _ _)).mono ?_
  rintro e w' ⟨rfl, rfl⟩
  go_wp2_with fail
  go_ret
  exact ⟨rfl, rfl⟩

theorem dead46 (p : Option Addr) (w : World) (h : Dead p w) (n : Int) : Calls Try.prog 46 #[.pointer p, .int .i64 n] w fun r w' => r = .returned (.tuple #[.pointer none, .bool false, .int .i64 1]) ∧ w = w' := by
  have hd := Lib.hid h; clear h
  go_enter Try.func46, Try.ntmps46
  go_wp2_with fail
  refine (hd.out _ (Below.refl _ _)).mono ?_
  rintro e w' ⟨rfl, rfl⟩
  go_wp2_with fail
  go_returns
  exact ⟨rfl, rfl⟩

theorem dead49 (p : Option Addr) (w : World) (h : Dead p w) (n : Int) : Calls Try.prog 49 #[.pointer p, .int .i64 n] w fun r w' => r = .returned (.tuple #[.pointer none, .int .i64 1]) ∧ Below w.heap.size w w' := by
  have hd := Lib.hid h; clear h
  go_enter Try.func49, Try.ntmps49
  go_wp2_with fail
  refine (hd.out _ (Below.refl _ _)).mono ?_
  rintro e w' ⟨rfl, rfl⟩
  go_wp2_with fail
  refine (dread66 p w hd.out _ _).mono ?_
  rintro e w' ⟨rfl, hb⟩
  go_wp2_with fail
  go_returns
  exact ⟨rfl, hb⟩

theorem stored (w : World) (b : Nat) (v0 v1 v2 : Value) {u0 u1 u2 : Value} (h0 : w.cell? ⟨b, 0, none⟩ = some u0) (h1 : w.cell? ⟨b, 1, none⟩ = some u1) (h2 : w.cell? ⟨b, 2, none⟩ = some u2) :
    (((w.setCell ⟨b, 0, none⟩ v0).setCell ⟨b, 1, none⟩ v1).setCell ⟨b, 2, none⟩ v2).cell? ⟨b, 0, none⟩ = some v0 ∧ (((w.setCell ⟨b, 0, none⟩ v0).setCell ⟨b, 1, none⟩ v1).setCell ⟨b, 2, none⟩ v2).cell? ⟨b, 1, none⟩ = some v1 ∧ (((w.setCell ⟨b, 0, none⟩ v0).setCell ⟨b, 1, none⟩ v1).setCell ⟨b, 2, none⟩ v2).cell? ⟨b, 2, none⟩ = some v2 ∧ Below b w (((w.setCell ⟨b, 0, none⟩ v0).setCell ⟨b, 1, none⟩ v1).setCell ⟨b, 2, none⟩ v2) := by
  have a1 : (w.setCell ⟨b, 0, none⟩ v0).cell? ⟨b, 1, none⟩ = some u1 := by rw [World.cell?_setCell_other _ _ _ _ (by simp)]; exact h1
  have a2 : ((w.setCell ⟨b, 0, none⟩ v0).setCell ⟨b, 1, none⟩ v1).cell? ⟨b, 2, none⟩ = some u2 := by rw [World.cell?_setCell_other _ _ _ _ (by simp), World.cell?_setCell_other _ _ _ _ (by simp)]; exact h2
  have b1 : Below b w (w.setCell ⟨b, 0, none⟩ v0) := Below.setCell (Below.refl _ _) (p := ⟨b, 0, none⟩) (Nat.le_refl b) v0
  have b2 := Below.setCell b1 (p := ⟨b, 1, none⟩) (Nat.le_refl b) v1
  have b3 := Below.setCell b2 (p := ⟨b, 2, none⟩) (Nat.le_refl b) v2
  refine ⟨?_, ?_, ?_, b3⟩
  · rw [World.cell?_setCell_other _ _ _ _ (by simp), World.cell?_setCell_other _ _ _ _ (by simp), World.cell?_setCell_same _ _ _ h0]
  · rw [World.cell?_setCell_other _ _ _ _ (by simp), World.cell?_setCell_same _ _ _ a1]
  · rw [World.cell?_setCell_same _ _ _ a2]

theorem dead47 (p : Option Addr) (w : World) (h : Dead p w) : Calls Try.prog 47 #[.pointer p] w fun r w' => r = .returned (.tuple #[.agg #[.int .i64 0, .int .i64 0, .slice none 0 0], .int .i64 1]) ∧ Below w.heap.size w w' := by
  have hd := Lib.hid h; clear h
  go_enter Try.func47, Try.ntmps47
  go_wp2_with fail
  refine (dread79 p _ (hd.out.grown (grown1 w _)) _).mono ?_
  rintro e w' ⟨rfl, hb⟩
  have h0 : w'.cell? ⟨w.heap.size, 0, none⟩ = some (.int .i64 0) := (hb.cell (p := ⟨w.heap.size, 0, none⟩) (by simp)).trans (by simp [go_sem])
  have h1 : w'.cell? ⟨w.heap.size, 1, none⟩ = some (.int .i64 0) := (hb.cell (p := ⟨w.heap.size, 1, none⟩) (by simp)).trans (by simp [go_sem])
  have h2 : w'.cell? ⟨w.heap.size, 2, none⟩ = some (.slice none 0 0) := (hb.cell (p := ⟨w.heap.size, 2, none⟩) (by simp)).trans (by simp [go_sem])
  have z0 : w'.frozen? ⟨w.heap.size, 0, none⟩ = false := (hb.frozen (p := ⟨w.heap.size, 0, none⟩) (by simp)).trans (by simp [go_sem])
  have z1 : w'.frozen? ⟨w.heap.size, 1, none⟩ = false := (hb.frozen (p := ⟨w.heap.size, 1, none⟩) (by simp)).trans (by simp [go_sem])
  have z2 : w'.frozen? ⟨w.heap.size, 2, none⟩ = false := (hb.frozen (p := ⟨w.heap.size, 2, none⟩) (by simp)).trans (by simp [go_sem])
  have HB : Below w.heap.size w w' := (grown1 w _).trans (hb.mono (grown1 w _).size)
  have HS := Lib.hid (stored w' w.heap.size (.int .i64 0) (.int .i64 0) (.slice none 0 0) h0 h1 h2)
  have HB := Lib.hid HB
  clear hb
  go_wp2_with fail
  obtain ⟨f0, f1, f2, fb⟩ := HS.out
  have hF := HB.out.trans fb
  clear HS HB h0 h1 h2 z0 z1 z2 fb
  generalize ((w'.setCell ⟨w.heap.size, 0, none⟩ (.int .i64 0)).setCell ⟨w.heap.size, 1, none⟩ (.int .i64 0)).setCell ⟨w.heap.size, 2, none⟩ (.slice none 0 0) = W at *
  simp [bodyPost, results, Try.results47, go_sem, f0, f1, f2, hF]

theorem dead50 (p : Option Addr) (w : World) (h : Dead p w) : Calls Try.prog 50 #[.pointer p] w fun r w' => r = .returned (.tuple #[.agg #[.int .i64 0, .int .i64 0, .slice none 0 0], .int .i64 1]) ∧ Below w.heap.size w w' := by
  have hd := Lib.hid h; clear h
  go_enter Try.func50, Try.ntmps50
  go_wp2_with fail
  refine (dread83 p _ (hd.out.grown (grown1 w _)) _).mono ?_
  rintro e w' ⟨rfl, hb⟩
  have h0 : w'.cell? ⟨w.heap.size, 0, none⟩ = some (.int .i64 0) := (hb.cell (p := ⟨w.heap.size, 0, none⟩) (by simp)).trans (by simp [go_sem])
  have h1 : w'.cell? ⟨w.heap.size, 1, none⟩ = some (.int .i64 0) := (hb.cell (p := ⟨w.heap.size, 1, none⟩) (by simp)).trans (by simp [go_sem])
  have h2 : w'.cell? ⟨w.heap.size, 2, none⟩ = some (.slice none 0 0) := (hb.cell (p := ⟨w.heap.size, 2, none⟩) (by simp)).trans (by simp [go_sem])
  have z0 : w'.frozen? ⟨w.heap.size, 0, none⟩ = false := (hb.frozen (p := ⟨w.heap.size, 0, none⟩) (by simp)).trans (by simp [go_sem])
  have z1 : w'.frozen? ⟨w.heap.size, 1, none⟩ = false := (hb.frozen (p := ⟨w.heap.size, 1, none⟩) (by simp)).trans (by simp [go_sem])
  have z2 : w'.frozen? ⟨w.heap.size, 2, none⟩ = false := (hb.frozen (p := ⟨w.heap.size, 2, none⟩) (by simp)).trans (by simp [go_sem])
  have HB : Below w.heap.size w w' := (grown1 w _).trans (hb.mono (grown1 w _).size)
  have HS := Lib.hid (stored w' w.heap.size (.int .i64 0) (.int .i64 0) (.slice none 0 0) h0 h1 h2)
  have HB := Lib.hid HB
  clear hb
  go_wp2_with fail
  obtain ⟨f0, f1, f2, fb⟩ := HS.out
  have hF := HB.out.trans fb
  clear HS HB h0 h1 h2 z0 z1 z2 fb
  generalize ((w'.setCell ⟨w.heap.size, 0, none⟩ (.int .i64 0)).setCell ⟨w.heap.size, 1, none⟩ (.int .i64 0)).setCell ⟨w.heap.size, 2, none⟩ (.slice none 0 0) = W at *
  simp [bodyPost, results, Try.results50, go_sem, f0, f1, f2, hF]

theorem dead51 (p : Option Addr) (w : World) (h : Dead p w) : Calls Try.prog 51 #[.pointer p] w fun r w' => r = .returned (.tuple #[.slice none 0 0, .int .i64 1]) ∧ Below w.heap.size w w' := by
  have hd := Lib.hid h; clear h
  have hmf : ∀ (fn : Fn) (first cap : Array Value) (w : World), (Instr.makeFunc fn first cap).run Try.prog w = .ok (.func fn first cap) w := fun _ _ _ _ => rfl
  go_enter Try.func51, Try.ntmps51
  go_wp2_with fail
  refine (dread86 p _ (hd.out.grown (grown1 w _)) _).mono ?_
  rintro e w' ⟨rfl, hb⟩
  have HB : Below w.heap.size w w' := (grown1 w _).trans (hb.mono (grown1 w _).size)
  go_wp2_with fail
  go_returns
  exact ⟨rfl, HB⟩

end Go.Proofs.Ytmkejehjjpaelaa

/- The examples of the chapter (layer 47, drift) come out true. -/
import Derived.Test.YtjpnfpmgbeigbaaKnown
namespace Go.Proofs.Ytjpnfpmgbeigbaa
open Go.ChangeShapes Go.WideShapes Go.ChangeAt Go.RowKit Drift
set_option linter.unusedVariables false

theorem three_below {w w' : World} {X Y Z : Obj} (hb1 : Below (((w.alloc X).alloc Y).alloc Z).heap.size (((w.alloc X).alloc Y).alloc Z) w') : Below w.heap.size w w' :=
  Below.trans (Below.alloc (Below.alloc (Below.alloc (Below.refl _ _) (Nat.le_refl _) _) (by simp) _) (by simp; omega) _) (hb1.mono (by simp; omega))

theorem known_any (w : World) : Calls Try.prog 8 #[] w fun e w' => e = .returned (.bool true) ∧ Below w.heap.size w w' := by
  go_enter Try.func8, Try.ntmps8
  go_wp2_with fail
  refine (new_yes 100 50 100000 _ (by decide) (by decide) (by decide) (by decide) (by decide) (by decide)).mono ?_
  rintro e w1 ⟨b, rfl, hn, hC1, B1⟩
  have hl1 := hC1.lt
  go_wp2_with fail
  refine (shows4 _ b _ _ _ (hC1.below (B := w1.heap.size) (by go_grown) hl1) (by go_cell) (by go_cell) (by go_cell) (by go_cell) (by go_cell) (by go_cell) (by go_cell) (by go_cell) (by go_cell) (by go_cell) (by go_cell) (by go_cell)).mono ?_
  rintro e w2 ⟨rfl, B2'⟩
  have B2 := three_below B2'
  have hC2 := hC1.below B2 hl1
  have hl2 := hC2.lt
  clear B2'
  go_wp2_with fail
  refine (kDev _ b hC2).mono ?_
  rintro e w3 ⟨rfl, B3⟩
  have hC3 := hC2.below B3 hl2
  have hl3 := hC3.lt
  go_wp2_with fail
  refine (kEx1 _ b hC3).mono ?_
  rintro e w4 ⟨rfl, B4⟩
  have hC4 := hC3.below B4 hl3
  have hl4 := hC4.lt
  go_wp2_with fail
  refine (kEx2 _ b hC4).mono ?_
  rintro e w5 ⟨rfl, B5⟩
  have hC5 := hC4.below B5 hl4
  have hl5 := hC5.lt
  go_wp2_with fail
  refine (kEx3 _ b hC5).mono ?_
  rintro e w6 ⟨rfl, B6⟩
  have hC6 := hC5.below B6 hl5
  have hl6 := hC6.lt
  go_wp2_with fail
  refine (kStep _ b hC6).mono ?_
  rintro e w7 ⟨rfl, hC7, G7⟩
  have hl7 := hC7.lt
  go_wp2_with fail
  refine (shows2 110 66 100000 110 120 66 77 (by decide) (by decide) (by decide) (by decide) _ b _ _ _ (hC7.below (B := w7.heap.size) (by go_grown) hl7) (by go_cell) (by go_cell) (by go_cell) (by go_cell) (by go_cell) (by go_cell)).mono ?_
  rintro e w8 ⟨rfl, B8'⟩
  have B8 := three_below B8'
  have hC8 := hC7.below B8 hl7
  have hl8 := hC8.lt
  clear B8'
  go_wp2_with fail
  refine (kRate _ b hC8).mono ?_
  rintro e w9 ⟨rfl, hC9, G9⟩
  have hl9 := hC9.lt
  go_wp2_with fail
  refine (shows2 120 77 (-100000) 130 131 86 86 (by decide) (by decide) (by decide) (by decide) _ b _ _ _ (hC9.below (B := w9.heap.size) (by go_grown) hl9) (by go_cell) (by go_cell) (by go_cell) (by go_cell) (by go_cell) (by go_cell)).mono ?_
  rintro e w10 ⟨rfl, B10'⟩
  have B10 := three_below B10'
  clear B10'
  go_wp2
  go_ret
  have z1 := B1.size
  have T := (((((B1.trans (B2.mono z1)).trans (B3.mono (by have := B2.size; omega))).trans (B4.mono (by have := B2.size; have := B3.size; omega))).trans (B5.mono (by have := B2.size; have := B3.size; have := B4.size; omega))).trans (B6.mono (by have := B2.size; have := B3.size; have := B4.size; have := B5.size; omega)))
  have T7 := Chg.below T G7 hn
  have T8 := T7.trans (B8.mono T7.size)
  have T9 := Chg.below T8 G9 hn
  exact ⟨rfl, T9.trans (B10.mono T9.size)⟩

end Go.Proofs.Ytjpnfpmgbeigbaa

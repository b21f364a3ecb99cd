/- Layer 11 (der): DerNone. -/
import Derived.Test.YtmkejehjjpaelaaDead
namespace Go.Proofs.Ytmkejehjjpaelaa
open Go.ChangeShapes Go.WideShapes Go.ChangeAt Go.RowKit
set_option linter.unusedVariables false

set_option maxRecDepth 100000 in
set_option maxHeartbeats 8000000 in
theorem none_any (n : Int) (w : World) : Calls Try.prog 9 #[.int .i64 n] w fun e w' => e = .returned (.bool true) ∧ Below w.heap.size w w' := by
  have hg : Below w.heap.size w ((w.alloc (.cells #[.slice none 0 0, .int .i64 0, .bool false] 79)).alloc (.cells #[.pointer none, .pointer (some ⟨w.heap.size, 0, none⟩)] 35)) := (grown1 w _).alloc (grown1 w _).size _
  have hs0 : ((w.alloc (.cells #[.slice none 0 0, .int .i64 0, .bool false] 79)).alloc (.cells #[.pointer none, .pointer (some ⟨w.heap.size, 0, none⟩)] 35)).cell? ⟨w.heap.size + 1, 0, none⟩ = some (.pointer none) := by simp [go_sem]
  have hs1 : ((w.alloc (.cells #[.slice none 0 0, .int .i64 0, .bool false] 79)).alloc (.cells #[.pointer none, .pointer (some ⟨w.heap.size, 0, none⟩)] 35)).cell? ⟨w.heap.size + 1, 1, none⟩ = some (.pointer (some ⟨w.heap.size, 0, none⟩)) := by simp [go_sem]
  have hz2 : ((w.alloc (.cells #[.slice none 0 0, .int .i64 0, .bool false] 79)).alloc (.cells #[.pointer none, .pointer (some ⟨w.heap.size, 0, none⟩)] 35)).cell? ⟨w.heap.size, 2, none⟩ = some (.bool false) := by simp [go_sem]
  have hsz : w.heap.size + 1 < ((w.alloc (.cells #[.slice none 0 0, .int .i64 0, .bool false] 79)).alloc (.cells #[.pointer none, .pointer (some ⟨w.heap.size, 0, none⟩)] 35)).heap.size := by simp
  have HG := Lib.hid hg; have H1 := Lib.hid hs1; have H2 := Lib.hid hz2; have HZ := Lib.hid hsz
  clear hg hs1 hz2 hsz
  go_enter Try.func9, Try.ntmps9
  go_wp2_with fail
  generalize (w.alloc (.cells #[.slice none 0 0, .int .i64 0, .bool false] 79)).alloc (.cells #[.pointer none, .pointer (some ⟨w.heap.size, 0, none⟩)] 35) = W0 at *
  have C := Lib.hid (Below.refl W0.heap.size W0)
  have D := Lib.hid (dead_nil W0)
  refine wp_loop_rounds 3 ?_
  rw [rounds_succ]
  go_wp2_with fail
  refine (dead44 _ _ D.out).mono ?_
  rintro e W ⟨rfl, hb⟩
  replace D := Lib.hid (D.out.grown hb)
  replace C := Lib.hid (C.out.trans (hb.mono C.out.size))
  clear hb
  go_wp2_with fail
  refine (dead41 _ _ D.out).mono ?_
  rintro e W ⟨rfl, hb⟩
  replace D := Lib.hid (D.out.grown hb)
  replace C := Lib.hid (C.out.trans (hb.mono C.out.size))
  clear hb
  go_wp2_with fail
  refine (dead43 _ _ D.out).mono ?_
  rintro e W ⟨rfl, hb⟩
  replace D := Lib.hid (D.out.grown hb)
  replace C := Lib.hid (C.out.trans (hb.mono C.out.size))
  clear hb
  go_wp2_with fail
  refine (dead30 _ _ D.out).mono ?_
  rintro e W ⟨rfl, hb⟩
  replace D := Lib.hid (D.out.grown hb)
  replace C := Lib.hid (C.out.trans (hb.mono C.out.size))
  clear hb
  go_wp2_with fail
  refine (dead42 _ _ D.out).mono ?_
  rintro e W ⟨rfl, hb⟩
  replace D := Lib.hid (D.out.grown hb)
  replace C := Lib.hid (C.out.trans (hb.mono C.out.size))
  clear hb
  go_wp2_with fail
  refine (dead45 _ _ D.out).mono ?_
  rintro e W ⟨rfl, hb⟩
  replace D := Lib.hid (D.out.grown hb)
  replace C := Lib.hid (C.out.trans (hb.mono C.out.size))
  clear hb
  go_wp2_with fail
  refine (dead39 _ _ D.out).mono ?_
  rintro e W ⟨rfl, hb⟩
  replace D := Lib.hid (D.out.grown hb)
  replace C := Lib.hid (C.out.trans (hb.mono C.out.size))
  clear hb
  go_wp2_with fail
  refine (dead49 _ _ D.out n).mono ?_
  rintro e W ⟨rfl, hb⟩
  replace D := Lib.hid (D.out.grown hb)
  replace C := Lib.hid (C.out.trans (hb.mono C.out.size))
  clear hb
  go_wp2_with fail
  refine (dead46 _ _ D.out n).mono ?_
  rintro e W ⟨rfl, rfl⟩
  go_wp2_with fail
  refine (dead47 _ _ D.out).mono ?_
  rintro e W1 ⟨rfl, hb⟩
  replace D := Lib.hid ((D.out.grown hb).grown (grown1 W1 (.cells #[.int .i64 0, .int .i64 0, .slice none 0 0] 43)))
  replace C := Lib.hid ((C.out.trans (hb.mono C.out.size)).alloc (C.out.trans (hb.mono C.out.size)).size (.cells #[.int .i64 0, .int .i64 0, .slice none 0 0] 43))
  clear hb
  go_wp2_with fail
  refine (dead50 _ _ D.out).mono ?_
  rintro e W2 ⟨rfl, hb⟩
  have ka0 : W2.cell? ⟨W1.heap.size, 0, none⟩ = some (.int .i64 0) := (hb.cell (p := ⟨W1.heap.size, 0, none⟩) (by simp)).trans (by simp [go_sem])
  have ka2 : W2.cell? ⟨W1.heap.size, 2, none⟩ = some (.slice none 0 0) := (hb.cell (p := ⟨W1.heap.size, 2, none⟩) (by simp)).trans (by simp [go_sem])
  have kl : W1.heap.size < W2.heap.size := Nat.lt_of_lt_of_le (by simp) hb.size
  replace D := Lib.hid ((D.out.grown hb).grown (grown1 W2 (.cells #[.int .i64 0, .int .i64 0, .slice none 0 0] 44)))
  replace C := Lib.hid ((C.out.trans (hb.mono C.out.size)).alloc (C.out.trans (hb.mono C.out.size)).size (.cells #[.int .i64 0, .int .i64 0, .slice none 0 0] 44))
  have KA0 := Lib.hid (((grown1 W2 (.cells #[.int .i64 0, .int .i64 0, .slice none 0 0] 44)).cell (p := ⟨W1.heap.size, 0, none⟩) kl).trans ka0)
  have KA2 := Lib.hid (((grown1 W2 (.cells #[.int .i64 0, .int .i64 0, .slice none 0 0] 44)).cell (p := ⟨W1.heap.size, 2, none⟩) kl).trans ka2)
  have KL := Lib.hid (Nat.lt_of_lt_of_le kl (grown1 W2 (.cells #[.int .i64 0, .int .i64 0, .slice none 0 0] 44)).size)
  clear hb ka0 ka2 kl
  go_wp2_with fail
  refine (dead51 _ _ D.out).mono ?_
  rintro e W3 ⟨rfl, hb⟩
  have a0 := (hb.cell (p := ⟨W1.heap.size, 0, none⟩) KL.out).trans KA0.out
  have a2 := (hb.cell (p := ⟨W1.heap.size, 2, none⟩) KL.out).trans KA2.out
  have b0 : W3.cell? ⟨W2.heap.size, 0, none⟩ = some (.int .i64 0) := (hb.cell (p := ⟨W2.heap.size, 0, none⟩) (by simp)).trans (by simp [go_sem])
  have b2 : W3.cell? ⟨W2.heap.size, 2, none⟩ = some (.slice none 0 0) := (hb.cell (p := ⟨W2.heap.size, 2, none⟩) (by simp)).trans (by simp [go_sem])
  replace D := Lib.hid (D.out.grown hb)
  replace C := Lib.hid (C.out.trans (hb.mono C.out.size))
  clear hb KA0 KA2 KL
  go_wp2_with fail
  refine (dead40 _ _ D.out).mono ?_
  rintro e W ⟨rfl, rfl⟩
  go_wp2_with fail
  refine (dead31 _ _ D.out).mono ?_
  rintro e W ⟨rfl, rfl⟩
  go_wp2_with fail
  refine (dead52 _ _ D.out).mono ?_
  rintro e W ⟨rfl, rfl⟩
  clear a0 a2 b0 b2
  clear D hs0
  have hs1 := (C.out.cell (p := ⟨w.heap.size + 1, 1, none⟩) HZ.out).trans H1.out
  go_wp2_with fail
  have D := Lib.hid (dead_zero w.heap.size W3 (Nat.lt_of_lt_of_le (Nat.lt_of_succ_lt HZ.out) C.out.size) ((C.out.cell (p := ⟨w.heap.size, 2, none⟩) (Nat.lt_of_succ_lt HZ.out)).trans H2.out))
  rw [rounds_succ]
  go_wp2_with fail
  refine (dead44 _ _ D.out).mono ?_
  rintro e W ⟨rfl, hb⟩
  replace D := Lib.hid (D.out.grown hb)
  replace C := Lib.hid (C.out.trans (hb.mono C.out.size))
  clear hb
  go_wp2_with fail
  refine (dead41 _ _ D.out).mono ?_
  rintro e W ⟨rfl, hb⟩
  replace D := Lib.hid (D.out.grown hb)
  replace C := Lib.hid (C.out.trans (hb.mono C.out.size))
  clear hb
  go_wp2_with fail
  refine (dead43 _ _ D.out).mono ?_
  rintro e W ⟨rfl, hb⟩
  replace D := Lib.hid (D.out.grown hb)
  replace C := Lib.hid (C.out.trans (hb.mono C.out.size))
  clear hb
  go_wp2_with fail
  refine (dead30 _ _ D.out).mono ?_
  rintro e W ⟨rfl, hb⟩
  replace D := Lib.hid (D.out.grown hb)
  replace C := Lib.hid (C.out.trans (hb.mono C.out.size))
  clear hb
  go_wp2_with fail
  refine (dead42 _ _ D.out).mono ?_
  rintro e W ⟨rfl, hb⟩
  replace D := Lib.hid (D.out.grown hb)
  replace C := Lib.hid (C.out.trans (hb.mono C.out.size))
  clear hb
  go_wp2_with fail
  refine (dead45 _ _ D.out).mono ?_
  rintro e W ⟨rfl, hb⟩
  replace D := Lib.hid (D.out.grown hb)
  replace C := Lib.hid (C.out.trans (hb.mono C.out.size))
  clear hb
  go_wp2_with fail
  refine (dead39 _ _ D.out).mono ?_
  rintro e W ⟨rfl, hb⟩
  replace D := Lib.hid (D.out.grown hb)
  replace C := Lib.hid (C.out.trans (hb.mono C.out.size))
  clear hb
  go_wp2_with fail
  refine (dead49 _ _ D.out n).mono ?_
  rintro e W ⟨rfl, hb⟩
  replace D := Lib.hid (D.out.grown hb)
  replace C := Lib.hid (C.out.trans (hb.mono C.out.size))
  clear hb
  go_wp2_with fail
  refine (dead46 _ _ D.out n).mono ?_
  rintro e W ⟨rfl, rfl⟩
  go_wp2_with fail
  refine (dead47 _ _ D.out).mono ?_
  rintro e W1 ⟨rfl, hb⟩
  replace D := Lib.hid ((D.out.grown hb).grown (grown1 W1 (.cells #[.int .i64 0, .int .i64 0, .slice none 0 0] 43)))
  replace C := Lib.hid ((C.out.trans (hb.mono C.out.size)).alloc (C.out.trans (hb.mono C.out.size)).size (.cells #[.int .i64 0, .int .i64 0, .slice none 0 0] 43))
  clear hb
  go_wp2_with fail
  refine (dead50 _ _ D.out).mono ?_
  rintro e W2 ⟨rfl, hb⟩
  have ka0 : W2.cell? ⟨W1.heap.size, 0, none⟩ = some (.int .i64 0) := (hb.cell (p := ⟨W1.heap.size, 0, none⟩) (by simp)).trans (by simp [go_sem])
  have ka2 : W2.cell? ⟨W1.heap.size, 2, none⟩ = some (.slice none 0 0) := (hb.cell (p := ⟨W1.heap.size, 2, none⟩) (by simp)).trans (by simp [go_sem])
  have kl : W1.heap.size < W2.heap.size := Nat.lt_of_lt_of_le (by simp) hb.size
  replace D := Lib.hid ((D.out.grown hb).grown (grown1 W2 (.cells #[.int .i64 0, .int .i64 0, .slice none 0 0] 44)))
  replace C := Lib.hid ((C.out.trans (hb.mono C.out.size)).alloc (C.out.trans (hb.mono C.out.size)).size (.cells #[.int .i64 0, .int .i64 0, .slice none 0 0] 44))
  have KA0 := Lib.hid (((grown1 W2 (.cells #[.int .i64 0, .int .i64 0, .slice none 0 0] 44)).cell (p := ⟨W1.heap.size, 0, none⟩) kl).trans ka0)
  have KA2 := Lib.hid (((grown1 W2 (.cells #[.int .i64 0, .int .i64 0, .slice none 0 0] 44)).cell (p := ⟨W1.heap.size, 2, none⟩) kl).trans ka2)
  have KL := Lib.hid (Nat.lt_of_lt_of_le kl (grown1 W2 (.cells #[.int .i64 0, .int .i64 0, .slice none 0 0] 44)).size)
  clear hb ka0 ka2 kl
  go_wp2_with fail
  refine (dead51 _ _ D.out).mono ?_
  rintro e W3 ⟨rfl, hb⟩
  have a0 := (hb.cell (p := ⟨W1.heap.size, 0, none⟩) KL.out).trans KA0.out
  have a2 := (hb.cell (p := ⟨W1.heap.size, 2, none⟩) KL.out).trans KA2.out
  have b0 : W3.cell? ⟨W2.heap.size, 0, none⟩ = some (.int .i64 0) := (hb.cell (p := ⟨W2.heap.size, 0, none⟩) (by simp)).trans (by simp [go_sem])
  have b2 : W3.cell? ⟨W2.heap.size, 2, none⟩ = some (.slice none 0 0) := (hb.cell (p := ⟨W2.heap.size, 2, none⟩) (by simp)).trans (by simp [go_sem])
  replace D := Lib.hid (D.out.grown hb)
  replace C := Lib.hid (C.out.trans (hb.mono C.out.size))
  clear hb KA0 KA2 KL
  go_wp2_with fail
  refine (dead40 _ _ D.out).mono ?_
  rintro e W ⟨rfl, rfl⟩
  go_wp2_with fail
  refine (dead31 _ _ D.out).mono ?_
  rintro e W ⟨rfl, rfl⟩
  go_wp2_with fail
  refine (dead52 _ _ D.out).mono ?_
  rintro e W ⟨rfl, rfl⟩
  clear a0 a2 b0 b2
  clear D
  go_wp2_with fail
  rw [rounds_succ]
  go_wp2_with fail
  refine (known_any _).mono ?_
  rintro e W4 ⟨rfl, hb⟩
  have hT := HG.out.trans (Below.mono (C.out.trans (hb.mono C.out.size)) HG.out.size)
  go_wp2_with fail
  go_ret
  exact ⟨rfl, hT⟩
end Go.Proofs.Ytmkejehjjpaelaa

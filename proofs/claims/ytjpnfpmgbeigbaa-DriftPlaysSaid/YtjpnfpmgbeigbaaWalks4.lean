/- Walks of layer 47 (drift), the fourth part: nil and zero clocks, the examples. -/
import Derived.Test.YtjpnfpmgbeigbaaWalks3
namespace Go.Proofs.Ytjpnfpmgbeigbaa
open Go.ChangeShapes Go.WideShapes Go.ChangeAt Go.RowKit Drift
set_option linter.unusedVariables false

/-- a pointer that leads to no clock: nil, or a zero value -/
def Dead (w : World) (v : Value) : Prop := v = .pointer none ∨ ∃ b, v = .pointer (some ⟨b, 0, none⟩) ∧ w.cell? ⟨b, 3, none⟩ = some (.bool false)

theorem usable_dead (w : World) (v : Value) (h : Dead w v) : Calls Try.prog 28 #[v] w fun e w' => e = .returned (.bool false) ∧ w = w' := by
  rcases h with rfl | ⟨b, rfl, h⟩
  · exact usable_nil w
  · exact usable_zero w b h

theorem show_dead (w : World) (v : Value) (t : Int) (h : Dead w v) : Calls Try.prog 17 #[v, .int .i64 t] w fun e w' => e = .returned (.tuple #[.int .i64 0, .int .i64 1]) ∧ w = w' := by
  go_enter Try.func17, Try.ntmps17
  go_wp2_with (go_at_call 28; refine (usable_dead _ _ h).mono ?_; rintro e w' ⟨rfl, rfl⟩)
  go_ret2
  exact ⟨rfl, rfl⟩

theorem deviation_dead (w : World) (v : Value) (t : Int) (h : Dead w v) : Calls Try.prog 20 #[v, .int .i64 t] w fun e w' => e = .returned (.tuple #[.int .i64 0, .int .i64 1]) ∧ w = w' := by
  go_enter Try.func20, Try.ntmps20
  go_wp2_with (go_at_call 17; refine (show_dead _ _ _ h).mono ?_; rintro e w' ⟨rfl, rfl⟩)
  go_ret2
  exact ⟨rfl, rfl⟩

theorem copy_dead (w : World) (v : Value) (h : Dead w v) : Calls Try.prog 18 #[v] w fun e w' => e = .returned (.pointer none) ∧ w = w' := by
  go_enter Try.func18, Try.ntmps18
  go_wp2_with (go_at_call 28; refine (usable_dead _ _ h).mono ?_; rintro e w' ⟨rfl, rfl⟩)
  go_ret
  exact ⟨rfl, rfl⟩

theorem step_dead (w : World) (v : Value) (t y : Int) (h : Dead w v) : Calls Try.prog 21 #[v, .int .i64 t, .int .i64 y] w fun e w' => e = .returned (.int .i64 1) ∧ w = w' := by
  go_enter Try.func21, Try.ntmps21
  go_wp2_with (go_at_call 17; refine (show_dead _ _ _ h).mono ?_; rintro e w' ⟨rfl, rfl⟩)
  go_ret
  exact ⟨rfl, rfl⟩

theorem setRate_dead (w : World) (v : Value) (t y : Int) (h : Dead w v) : Calls Try.prog 19 #[v, .int .i64 t, .int .i64 y] w fun e w' => e = .returned (.int .i64 1) ∧ w = w' := by
  go_enter Try.func19, Try.ntmps19
  go_wp2_with (first | (go_at_call 28; refine (usable_dead _ _ h).mono ?_; rintro e w' ⟨rfl, rfl⟩) | (go_at_call 17; refine (show_dead _ _ _ h).mono ?_; rintro e w' ⟨rfl, rfl⟩))
  go_ret
  exact ⟨rfl, rfl⟩

theorem cell_keep {w : World} {p : Addr} {v : Value} (h : w.cell? p = some v) (X : Obj) : (w.alloc X).cell? p = some v := by
  have hl : p.block < w.heap.size := by
    rcases Nat.lt_or_ge p.block w.heap.size with h1 | h1
    · exact h1
    · simp [World.cell?, Array.getElem?_eq_none h1] at h
  exact ((Below.refl w.heap.size w).alloc (Nat.le_refl _) X).cell hl |>.trans h

theorem dead_alloc {w : World} {v : Value} (h : Dead w v) (X : Obj) : Dead (w.alloc X) v := by
  rcases h with h | ⟨b, h, c⟩
  · exact Or.inl h
  · exact Or.inr ⟨b, h, cell_keep c X⟩

theorem ex_dead (w : World) (x : Option Addr) (t k : Int) (h : Dead w (.pointer x)) : Calls Try.prog 13 #[.pointer x, .int .i64 t, .int .i64 k] w fun e w' => e = .returned (.tuple #[.int .i64 0, .int .i64 1]) ∧ (w.alloc (.cells #[.pointer x] 24)).alloc (.cells #[.int .i64 k] 3) = w' := by
  go_enter Try.func13, Try.ntmps13
  go_wp2_with (go_at_call 28; refine (usable_dead _ _ (dead_alloc (dead_alloc h _) _)).mono ?_; rintro e w' ⟨rfl, rfl⟩)
  go_ret2
  exact ⟨rfl, rfl⟩

theorem within_dead1 (w : World) (v u : Value) (t k : Int) (h : Dead w v) : Calls Try.prog 15 #[v, u, .int .i64 t, .int .i64 k] w fun e w' => e = .returned (.tuple #[.bool false, .int .i64 1]) ∧ w = w' := by
  go_enter Try.func15, Try.ntmps15
  go_wp2_with (go_at_call 28; refine (usable_dead _ _ h).mono ?_; rintro e w' ⟨rfl, rfl⟩)
  go_ret2
  exact ⟨rfl, rfl⟩

theorem within_dead2 (w : World) (b : Nat) (a s r : Int) (u : Value) (t k : Int) (hC : Clk w b a s r) (h : Dead w u) : Calls Try.prog 15 #[.pointer (some ⟨b, 0, none⟩), u, .int .i64 t, .int .i64 k] w fun e w' => e = .returned (.tuple #[.bool false, .int .i64 2]) ∧ w = w' := by
  go_enter Try.func15, Try.ntmps15
  go_wp2_with (first | (go_at_call_of 28 (Value.pointer (some ⟨b, 0, none⟩)); refine (usable_yes a s r _ b hC).mono ?_; rintro e w' ⟨rfl, rfl⟩) | (go_at_call 28; refine (usable_dead _ _ h).mono ?_; rintro e w' ⟨rfl, rfl⟩))
  go_ret2
  exact ⟨rfl, rfl⟩

theorem shows_any (n : Nat) (hn : n ≤ 100) (a s r : Int) (w : World) (b p q u : Nat) (fa : Nat → Int) (h : Clk w b a s r) (hp : ∀ k, k < n → w.cell? ⟨p, k, none⟩ = some (.int .i64 (fa k))) (hq : ∀ k, k < n → w.cell? ⟨q, k, none⟩ = some (.int .i64 (shV a s r (fa k)))) (hu : ∀ k, k < n → w.cell? ⟨u, k, none⟩ = some (.int .i64 (shE a s r (fa k)))) (lp : p < w.heap.size) (lq : q < w.heap.size) (lu : u < w.heap.size) :
    Calls Try.prog 22 #[.pointer (some ⟨b, 0, none⟩), .slice (some ⟨p, 0, none⟩) n n, .slice (some ⟨q, 0, none⟩) n n, .slice (some ⟨u, 0, none⟩) n n] w fun e w' => e = .returned (.bool true) ∧ Below w.heap.size w w' := by
  have HP := Lib.hid hp; clear hp
  have HQ := Lib.hid hq; clear hq
  have HU := Lib.hid hu; clear hu
  have hl := h.lt
  go_enter Try.func22, Try.ntmps22
  go_wp2
  go_loopw [9] (fun i wr => ∃ k : Nat, k ≤ n ∧ i = .int .i64 k ∧ Below w.heap.size w wr) (fun i _ => n - (intOf i).toNat)
  case atStart => exact ⟨0, Nat.zero_le _, rfl, Below.refl _ _⟩
  case round =>
    obtain ⟨k, hk, rfl, hbk⟩ := hrel
    by_cases hlt : k < n
    · have p1 := (hbk.cell (p := ⟨p, k, none⟩) lp).trans (HP.out k hlt)
      have q1 := (hbk.cell (p := ⟨q, k, none⟩) lq).trans (HQ.out k hlt)
      have u1 := (hbk.cell (p := ⟨u, k, none⟩) lu).trans (HU.out k hlt)
      have hC := h.below hbk hl
      have hz := hbk.size
      go_wp2_with (go_at_call 17; refine (show_any a s r (fa k) _ b hC).mono ?_; rintro e w' ⟨rfl, hb1⟩; have q2 := (hb1.cell (p := ⟨q, k, none⟩) (by simp; omega)).trans q1; have u2 := (hb1.cell (p := ⟨u, k, none⟩) (by simp; omega)).trans u1)
      go_roundw
      case rel => exact ⟨k + 1, by omega, by go_num, hbk.trans (hb1.mono (by omega))⟩
      case measure => simp [intOf]; omega
    · go_wp2
      go_ret
      exact ⟨rfl, hbk⟩

end Go.Proofs.Ytjpnfpmgbeigbaa

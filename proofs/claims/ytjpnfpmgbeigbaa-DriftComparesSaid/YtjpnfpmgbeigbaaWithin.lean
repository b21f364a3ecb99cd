/- Walks of layer 47 (drift), the sixth part: Within. -/
import Derived.Test.YtjpnfpmgbeigbaaRef
namespace Go.Proofs.Ytjpnfpmgbeigbaa
open Go.ChangeShapes Go.WideShapes Go.ChangeAt Go.RowKit Drift
set_option linter.unusedVariables false

theorem shV_bd (a s r t : Int) : 0 ≤ shV a s r t ∧ shV a s r t ≤ 1099511627776 := by
  unfold shV
  split
  · omega
  · split
    · omega
    · split
      · omega
      · omega

section
variable (a s r a' s' r' t k : Int) (w : World) (b c : Nat)

theorem within_neg (h : Clk w b a s r) (h' : Clk w c a' s' r') (hk : k < 0) :
    Calls Try.prog 15 #[.pointer (some ⟨b, 0, none⟩), .pointer (some ⟨c, 0, none⟩), .int .i64 t, .int .i64 k] w fun e w' => e = .returned (.tuple #[.bool false, .int .i64 2]) ∧ Below w.heap.size w w' := by
  go_enter Try.func15, Try.ntmps15
  go_wp2_with fail
  refine (usable_yes a s r _ b h).mono ?_
  rintro e w1 ⟨rfl, rfl⟩
  go_wp2_with fail
  refine (usable_yes a' s' r' _ c h').mono ?_
  rintro e w1 ⟨rfl, rfl⟩
  go_wp2
  go_ret2
  exact ⟨rfl, Below.refl _ _⟩

theorem within_e1 (h : Clk w b a s r) (h' : Clk w c a' s' r') (hk : 0 ≤ k) (he : shE a s r t ≠ 0) :
    Calls Try.prog 15 #[.pointer (some ⟨b, 0, none⟩), .pointer (some ⟨c, 0, none⟩), .int .i64 t, .int .i64 k] w fun e w' => e = .returned (.tuple #[.bool false, .int .i64 (shE a s r t)]) ∧ Below w.heap.size w w' := by
  have HS := Lib.hid (show_any a s r t w b h)
  have hn : (shE a s r t == 0) = false := beq_eq_false_iff_ne.2 he
  have hn2 : (shE a s r t != 0) = true := by rw [bne_iff_ne]; exact he
  generalize shE a s r t = x at *
  clear he
  go_enter Try.func15, Try.ntmps15
  go_wp2_with fail
  refine (usable_yes a s r _ b h).mono ?_
  rintro e w1 ⟨rfl, rfl⟩
  go_wp2_with fail
  refine (usable_yes a' s' r' _ c h').mono ?_
  rintro e w1 ⟨rfl, rfl⟩
  go_wp2_with fail
  refine (HS.out).mono ?_
  rintro e w1 ⟨rfl, B1⟩
  go_wp2
  go_ret2
  exact ⟨rfl, B1⟩

theorem within_e2 (h : Clk w b a s r) (h' : Clk w c a' s' r') (hk : 0 ≤ k) (he0 : shE a s r t = 0) (he : shE a' s' r' t ≠ 0) :
    Calls Try.prog 15 #[.pointer (some ⟨b, 0, none⟩), .pointer (some ⟨c, 0, none⟩), .int .i64 t, .int .i64 k] w fun e w' => e = .returned (.tuple #[.bool false, .int .i64 (shE a' s' r' t)]) ∧ Below w.heap.size w w' := by
  have hs1 := show_any a s r t w b h
  rw [he0] at hs1
  have HS := Lib.hid hs1
  have HS2 := Lib.hid (fun w1 (hc : Clk w1 c a' s' r') => show_any a' s' r' t w1 c hc)
  have hn : (shE a' s' r' t == 0) = false := beq_eq_false_iff_ne.2 he
  have hn2 : (shE a' s' r' t != 0) = true := by rw [bne_iff_ne]; exact he
  generalize shE a' s' r' t = x at *
  clear he he0 hs1
  have hl := h'.lt
  go_enter Try.func15, Try.ntmps15
  go_wp2_with fail
  refine (usable_yes a s r _ b h).mono ?_
  rintro e w1 ⟨rfl, rfl⟩
  go_wp2_with fail
  refine (usable_yes a' s' r' _ c h').mono ?_
  rintro e w1 ⟨rfl, rfl⟩
  go_wp2_with fail
  refine (HS.out).mono ?_
  rintro e w1 ⟨rfl, B1⟩
  go_wp2_with fail
  refine (HS2.out _ (h'.below B1 hl)).mono ?_
  rintro e w2 ⟨rfl, B2⟩
  go_wp2
  go_ret2
  exact ⟨rfl, B1.trans (B2.mono B1.size)⟩

theorem within_yes (h : Clk w b a s r) (h' : Clk w c a' s' r') (hk : 0 ≤ k) (he0 : shE a s r t = 0) (he : shE a' s' r' t = 0) (hy : shV a s r t - shV a' s' r' t ≤ k) (hy' : shV a' s' r' t - shV a s r t ≤ k) :
    Calls Try.prog 15 #[.pointer (some ⟨b, 0, none⟩), .pointer (some ⟨c, 0, none⟩), .int .i64 t, .int .i64 k] w fun e w' => e = .returned (.tuple #[.bool true, .int .i64 0]) ∧ Below w.heap.size w w' := by
  have hs1 := show_any a s r t w b h
  rw [he0] at hs1
  have hs2 := fun w1 (hc : Clk w1 c a' s' r') => show_any a' s' r' t w1 c hc
  rw [he] at hs2
  obtain ⟨v0, v1⟩ := shV_bd a s r t
  obtain ⟨u0, u1⟩ := shV_bd a' s' r' t
  generalize shV a s r t = v at *
  generalize shV a' s' r' t = u at *
  have HS := Lib.hid hs1
  have HS2 := Lib.hid hs2
  clear he he0 hs1 hs2
  have hl := h'.lt
  go_enter Try.func15, Try.ntmps15
  go_wp2_with fail
  refine (usable_yes a s r _ b h).mono ?_
  rintro e w1 ⟨rfl, rfl⟩
  go_wp2_with fail
  refine (usable_yes a' s' r' _ c h').mono ?_
  rintro e w1 ⟨rfl, rfl⟩
  go_wp2_with fail
  refine (HS.out).mono ?_
  rintro e w1 ⟨rfl, B1⟩
  go_wp2_with fail
  refine (HS2.out _ (h'.below B1 hl)).mono ?_
  rintro e w2 ⟨rfl, B2⟩
  go_wp2
  go_returns
  exact ⟨by first | rfl | (simp; omega), B1.trans (B2.mono B1.size)⟩

theorem within_no (h : Clk w b a s r) (h' : Clk w c a' s' r') (hk : 0 ≤ k) (he0 : shE a s r t = 0) (he : shE a' s' r' t = 0) (hy : k < shV a s r t - shV a' s' r' t ∨ k < shV a' s' r' t - shV a s r t) :
    Calls Try.prog 15 #[.pointer (some ⟨b, 0, none⟩), .pointer (some ⟨c, 0, none⟩), .int .i64 t, .int .i64 k] w fun e w' => e = .returned (.tuple #[.bool false, .int .i64 0]) ∧ Below w.heap.size w w' := by
  have hs1 := show_any a s r t w b h
  rw [he0] at hs1
  have hs2 := fun w1 (hc : Clk w1 c a' s' r') => show_any a' s' r' t w1 c hc
  rw [he] at hs2
  obtain ⟨v0, v1⟩ := shV_bd a s r t
  obtain ⟨u0, u1⟩ := shV_bd a' s' r' t
  generalize shV a s r t = v at *
  generalize shV a' s' r' t = u at *
  have HS := Lib.hid hs1
  have HS2 := Lib.hid hs2
  clear he he0 hs1 hs2
  have hl := h'.lt
  have hy2 : k < v - u ∨ (v - u ≤ k ∧ k < u - v) := by omega
  clear hy
  rcases hy2 with hy | ⟨hy1, hy⟩
  all_goals
    go_enter Try.func15, Try.ntmps15
    go_wp2_with fail
    refine (usable_yes a s r _ b h).mono ?_
    rintro e w1 ⟨rfl, rfl⟩
    go_wp2_with fail
    refine (usable_yes a' s' r' _ c h').mono ?_
    rintro e w1 ⟨rfl, rfl⟩
    go_wp2_with fail
    refine (HS.out).mono ?_
    rintro e w1 ⟨rfl, B1⟩
    go_wp2_with fail
    refine (HS2.out _ (h'.below B1 hl)).mono ?_
    rintro e w2 ⟨rfl, B2⟩
    go_wp2
    go_returns
    exact ⟨by first | rfl | (simp; omega), B1.trans (B2.mono B1.size)⟩
end

end Go.Proofs.Ytjpnfpmgbeigbaa

/- Layer 11 (der): the chapter's examples, one by one. -/
import Derived.Test.YtmkejehjjpaelaaRead
import Derived.Test.YtmkejehjjpaelaaWrite
namespace Go.Proofs.Ytmkejehjjpaelaa
open Go.ChangeShapes Go.WideShapes Go.ChangeAt Go.RowKit
set_option linter.unusedVariables false

theorem new_reader (A : Option Addr) (c : Nat) (l : List Int) (w : World) (h : Rd w A c l) (hne : l ≠ []) (hn : l.length ≤ 16777215) :
    Calls Try.prog 29 #[.slice A l.length c] w fun r w' => ∃ (b q c' : Nat), r = .returned (.pointer (some ⟨b, 0, none⟩)) ∧ w.heap.size ≤ b ∧ b < w'.heap.size ∧ q < w'.heap.size ∧ b ≠ q ∧ l.length ≤ c' ∧ w'.cell? ⟨b, 0, none⟩ = some (.slice (some ⟨q, 0, none⟩) l.length c') ∧ w'.cell? ⟨b, 1, none⟩ = some (.int .i64 0) ∧ w'.cell? ⟨b, 2, none⟩ = some (.bool true) ∧ w'.frozen? ⟨b, 1, none⟩ = false ∧ (∀ (i : Nat) (x : Int), l[i]? = some x → w'.cell? ⟨q, i, none⟩ = some (.int .u8 x)) ∧ Below w.heap.size w w' := by
  have hr := Lib.hid h; clear h
  have hnil : Hid (w.ownsRow w.heap.size 5 1 (.slice none 0 0) ([] : List Int).length (([] : List Int).map (Value.int .u8))) := ⟨by simp, Or.inl ⟨rfl, rfl⟩⟩
  have HA : Hid (([] : List Int).length + l.length ≤ 1000000000) := by show _ ≤ _; simp; omega
  have HB : Hid (w.heap.size ≤ w.heap.size) := Nat.le_refl _
  have HN := Lib.hid hne; clear hne
  go_enter Try.func29, Try.ntmps29
  go_wp2_with (at_builtin; refine wp_app rfl (.const (.slice none 0 0)) (.tmp 3) rfl w.heap.size _ ([] : List Int) rfl hnil.out _ _ l rfl hr.out HA.out HB.out ?_; intro A1 c1 w1 hown1 hB1)
  go_ret
  rw [List.nil_append] at hown1
  have hown := hown1
  rcases hown1.2 with ⟨h1, h2⟩ | ⟨g, cap, cur, hv, hbg, hg, hn', hm, hs, ht⟩
  · injection h1 with e1 e2 e3
    exact absurd (List.eq_nil_of_length_eq_zero e2) HN.out
  · injection hv with e1 e2 e3
    subst e3; subst e1
    have hgl : g < w1.heap.size := by
      rcases Nat.lt_or_ge g w1.heap.size with hlt | hge
      · exact hlt
      · rw [Array.getElem?_eq_none hge] at hg; cases hg
    have hb : Below w1.heap.size w1 (w1.alloc (.cells #[Value.slice (some ⟨g, 0, none⟩) l.length c1, Value.int IntKind.i64 0, Value.bool true] 79)) := grown1 _ _
    refine ⟨w1.heap.size, g, c1, rfl, hB1.size, by simp, Nat.lt_of_lt_of_le hgl hb.size, by omega, by simpa using hn', by simp [go_sem], by simp [go_sem], by simp [go_sem], by simp [go_sem], fun i x hx => ?_, hB1.alloc hB1.size _⟩
    refine (hb.cell (p := ⟨g, i, none⟩) hgl).trans ?_
    have hcell := hown.cells (g := g) rfl i (.int .u8 x) (by rw [List.getElem?_map, hx]; rfl)
    rw [Go.WideShapes.add_plain, Nat.zero_add] at hcell
    exact hcell

theorem int_1 (b q c : Nat) (w : World) (base : Nat) (hb : base ≤ b) (hbw : b < w.heap.size) (hqw : q < w.heap.size) (hc : 4 ≤ c) (hbq : b ≠ q)
    (hA : w.cell? ⟨b, 0, none⟩ = some (.slice (some ⟨q, 0, none⟩) 4 c)) (hB : w.cell? ⟨b, 1, none⟩ = some (.int .i64 0)) (hC : w.cell? ⟨b, 2, none⟩ = some (.bool true)) (hz : w.frozen? ⟨b, 1, none⟩ = false)
    (hl : ∀ (i : Nat) (x : Int), [(2 : Int), 2, 0, 5][i]? = some x → w.cell? ⟨q, i, none⟩ = some (.int .u8 x)) :
    Calls Try.prog 41 #[.pointer (some ⟨b, 0, none⟩)] w fun r w' => r = .returned (.tuple #[.int .i64 0, .int .i64 6]) ∧ Below base w w' := by
  have h := Lib.hid (read_1 b q c w base hb hbw hqw hc hbq hA hB hC hz hl)
  clear hA hB hC hz hl
  go_enter Try.func41, Try.ntmps41
  go_wp2_with fail
  refine h.out.mono ?_
  rintro e w' ⟨rfl, hB⟩
  go_wp2_with fail
  go_returns
  exact ⟨rfl, hB⟩

theorem int_2 (b q c : Nat) (w : World) (base : Nat) (hb : base ≤ b) (hbw : b < w.heap.size) (hqw : q < w.heap.size) (hc : 4 ≤ c) (hbq : b ≠ q)
    (hA : w.cell? ⟨b, 0, none⟩ = some (.slice (some ⟨q, 0, none⟩) 4 c)) (hB : w.cell? ⟨b, 1, none⟩ = some (.int .i64 0)) (hC : w.cell? ⟨b, 2, none⟩ = some (.bool true)) (hz : w.frozen? ⟨b, 1, none⟩ = false)
    (hl : ∀ (i : Nat) (x : Int), [(2 : Int), 129, 1, 5][i]? = some x → w.cell? ⟨q, i, none⟩ = some (.int .u8 x)) :
    Calls Try.prog 41 #[.pointer (some ⟨b, 0, none⟩)] w fun r w' => r = .returned (.tuple #[.int .i64 0, .int .i64 6]) ∧ Below base w w' := by
  have h := Lib.hid (read_2 b q c w base hb hbw hqw hc hbq hA hB hC hz hl)
  clear hA hB hC hz hl
  go_enter Try.func41, Try.ntmps41
  go_wp2_with fail
  refine h.out.mono ?_
  rintro e w' ⟨rfl, hB⟩
  go_wp2_with fail
  go_returns
  exact ⟨rfl, hB⟩

theorem int_3 (b q c : Nat) (w : World) (base : Nat) (hb : base ≤ b) (hbw : b < w.heap.size) (hqw : q < w.heap.size) (hc : 3 ≤ c) (hbq : b ≠ q)
    (hA : w.cell? ⟨b, 0, none⟩ = some (.slice (some ⟨q, 0, none⟩) 3 c)) (hB : w.cell? ⟨b, 1, none⟩ = some (.int .i64 0)) (hC : w.cell? ⟨b, 2, none⟩ = some (.bool true)) (hz : w.frozen? ⟨b, 1, none⟩ = false)
    (hl : ∀ (i : Nat) (x : Int), [(2 : Int), 2, 5][i]? = some x → w.cell? ⟨q, i, none⟩ = some (.int .u8 x)) :
    Calls Try.prog 41 #[.pointer (some ⟨b, 0, none⟩)] w fun r w' => r = .returned (.tuple #[.int .i64 0, .int .i64 4]) ∧ Below base w w' := by
  have h := Lib.hid (read_3 b q c w base hb hbw hqw hc hbq hA hB hC hz hl)
  clear hA hB hC hz hl
  go_enter Try.func41, Try.ntmps41
  go_wp2_with fail
  refine h.out.mono ?_
  rintro e w' ⟨rfl, hB⟩
  go_wp2_with fail
  go_returns
  exact ⟨rfl, hB⟩

theorem int_4 (b q c : Nat) (w : World) (base : Nat) (hb : base ≤ b) (hbw : b < w.heap.size) (hqw : q < w.heap.size) (hc : 3 ≤ c) (hbq : b ≠ q)
    (hA : w.cell? ⟨b, 0, none⟩ = some (.slice (some ⟨q, 0, none⟩) 3 c)) (hB : w.cell? ⟨b, 1, none⟩ = some (.int .i64 0)) (hC : w.cell? ⟨b, 2, none⟩ = some (.bool true)) (hz : w.frozen? ⟨b, 1, none⟩ = false)
    (hl : ∀ (i : Nat) (x : Int), [(4 : Int), 1, 5][i]? = some x → w.cell? ⟨q, i, none⟩ = some (.int .u8 x)) :
    Calls Try.prog 41 #[.pointer (some ⟨b, 0, none⟩)] w fun r w' => r = .returned (.tuple #[.int .i64 0, .int .i64 6]) ∧ Below base w w' := by
  have h := Lib.hid (read_4 b q c w base hb hbw hqw hc hbq hA hB hC hz hl)
  clear hA hB hC hz hl
  go_enter Try.func41, Try.ntmps41
  go_wp2_with fail
  refine h.out.mono ?_
  rintro e w' ⟨rfl, hB⟩
  go_wp2_with fail
  go_returns
  exact ⟨rfl, hB⟩

theorem wint_0 (w : World) : Calls Try.prog 13 #[.int .i64 (0)] w (Gives [2, 1, 0] w) := by
  have hr := Lib.hid (Rd.fresh w [0] (by simp))
  have hb := Lib.hid (grown1 w (.cells #[.int .u8 0] 5))
  have hf : Calls Try.prog 55 #[.int .i64 (0), .int .i64 1] w fun e w' => e = .returned (.slice (some ⟨w.heap.size, 0, none⟩) 1 1) ∧ w.alloc (.cells #[.int .u8 0] 5) = w' := fixed_1 (0) w
  go_enter Try.func13, Try.ntmps13
  go_wp2_with fail
  refine wp_loop_rounds 1 ?_
  rw [rounds_succ]
  go_wp2_with fail
  refine hf.mono ?_
  rintro e w' ⟨rfl, rfl⟩
  go_wp2_with fail
  refine (element_one 2 (by omega) (by omega) _ _ _ _ hr.out (by simp) 23 _ (by simp [go_sem]) 1 (by simp)).mono ?_
  rintro e w' hg
  obtain ⟨A, c, rfl, h2, h3⟩ := hg.from hb.out
  go_wp2_with fail
  go_ret
  exact ⟨A, c, rfl, h2, h3⟩

theorem wint_5 (w : World) : Calls Try.prog 13 #[.int .i64 (5)] w (Gives [2, 1, 5] w) := by
  have hr := Lib.hid (Rd.fresh w [5] (by simp))
  have hb := Lib.hid (grown1 w (.cells #[.int .u8 5] 5))
  have hf : Calls Try.prog 55 #[.int .i64 (5), .int .i64 1] w fun e w' => e = .returned (.slice (some ⟨w.heap.size, 0, none⟩) 1 1) ∧ w.alloc (.cells #[.int .u8 5] 5) = w' := fixed_1 (5) w
  go_enter Try.func13, Try.ntmps13
  go_wp2_with fail
  refine wp_loop_rounds 1 ?_
  rw [rounds_succ]
  go_wp2_with fail
  refine hf.mono ?_
  rintro e w' ⟨rfl, rfl⟩
  go_wp2_with fail
  refine (element_one 2 (by omega) (by omega) _ _ _ _ hr.out (by simp) 23 _ (by simp [go_sem]) 1 (by simp)).mono ?_
  rintro e w' hg
  obtain ⟨A, c, rfl, h2, h3⟩ := hg.from hb.out
  go_wp2_with fail
  go_ret
  exact ⟨A, c, rfl, h2, h3⟩

theorem wint_128 (w : World) : Calls Try.prog 13 #[.int .i64 (128)] w (Gives [2, 2, 0, 128] w) := by
  have hr := Lib.hid (Rd.fresh w [0, 128] (by simp))
  have hb := Lib.hid (grown1 w (.cells #[.int .u8 0, .int .u8 128] 5))
  have hf : Calls Try.prog 55 #[.int .i64 (128), .int .i64 2] w fun e w' => e = .returned (.slice (some ⟨w.heap.size, 0, none⟩) 2 2) ∧ w.alloc (.cells #[.int .u8 0, .int .u8 128] 5) = w' := fixed_2 (128) w
  go_enter Try.func13, Try.ntmps13
  go_wp2_with fail
  refine wp_loop_rounds 2 ?_
  rw [rounds_succ]
  go_wp2_with fail
  rw [rounds_succ]
  go_wp2_with fail
  refine hf.mono ?_
  rintro e w' ⟨rfl, rfl⟩
  go_wp2_with fail
  refine (element_one 2 (by omega) (by omega) _ _ _ _ hr.out (by simp) 23 _ (by simp [go_sem]) 2 (by simp)).mono ?_
  rintro e w' hg
  obtain ⟨A, c, rfl, h2, h3⟩ := hg.from hb.out
  go_wp2_with fail
  go_ret
  exact ⟨A, c, rfl, h2, h3⟩

theorem wint_m129 (w : World) : Calls Try.prog 13 #[.int .i64 (-129)] w (Gives [2, 2, 255, 127] w) := by
  have hr := Lib.hid (Rd.fresh w [255, 127] (by simp))
  have hb := Lib.hid (grown1 w (.cells #[.int .u8 255, .int .u8 127] 5))
  have hf : Calls Try.prog 55 #[.int .i64 (-129), .int .i64 2] w fun e w' => e = .returned (.slice (some ⟨w.heap.size, 0, none⟩) 2 2) ∧ w.alloc (.cells #[.int .u8 255, .int .u8 127] 5) = w' := fixed_2 (-129) w
  go_enter Try.func13, Try.ntmps13
  go_wp2_with fail
  refine wp_loop_rounds 2 ?_
  rw [rounds_succ]
  go_wp2_with fail
  rw [rounds_succ]
  go_wp2_with fail
  refine hf.mono ?_
  rintro e w' ⟨rfl, rfl⟩
  go_wp2_with fail
  refine (element_one 2 (by omega) (by omega) _ _ _ _ hr.out (by simp) 23 _ (by simp [go_sem]) 2 (by simp)).mono ?_
  rintro e w' hg
  obtain ⟨A, c, rfl, h2, h3⟩ := hg.from hb.out
  go_wp2_with fail
  go_ret
  exact ⟨A, c, rfl, h2, h3⟩


theorem wtime_1 (w : World) : Calls Try.prog 15 #[.int .i64 1] w (Gives [24, 6, 0, 0, 0, 0, 0, 1] w) := by
  have hr := Lib.hid (Rd.fresh w [0, 0, 0, 0, 0, 1] (by simp))
  have hb := Lib.hid (grown1 w (.cells #[.int .u8 0, .int .u8 0, .int .u8 0, .int .u8 0, .int .u8 0, .int .u8 1] 5))
  have hf : Calls Try.prog 55 #[.int .i64 1, .int .i64 6] w fun e w' => e = .returned (.slice (some ⟨w.heap.size, 0, none⟩) 6 6) ∧ w.alloc (.cells #[.int .u8 0, .int .u8 0, .int .u8 0, .int .u8 0, .int .u8 0, .int .u8 1] 5) = w' := fixed_6 1 w
  go_enter Try.func15, Try.ntmps15
  go_wp2_with fail
  refine hf.mono ?_
  rintro e w' ⟨rfl, rfl⟩
  go_wp2_with fail
  refine (element_one 24 (by omega) (by omega) _ _ _ _ hr.out (by simp) 23 _ (by simp [go_sem]) 6 (by simp)).mono ?_
  rintro e w' hg
  obtain ⟨A, c, rfl, h2, h3⟩ := hg.from hb.out
  go_wp2_with fail
  go_ret
  exact ⟨A, c, rfl, h2, h3⟩

end Go.Proofs.Ytmkejehjjpaelaa

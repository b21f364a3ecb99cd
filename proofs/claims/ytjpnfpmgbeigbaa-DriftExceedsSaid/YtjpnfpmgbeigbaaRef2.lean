/- Walks of the reference of layer 47 (drift), the second part: Exceeds, Step, SetRate. -/
import Derived.Test.YtjpnfpmgbeigbaaRef
namespace Go.Proofs.Ytjpnfpmgbeigbaa
open Go.ChangeShapes Go.WideShapes Go.ChangeAt Go.RowKit Drift
set_option linter.unusedVariables false

theorem rex_arg (a s r k t : Int) (w : World) (hk : k < 0) :
    Calls Try.prog 14 #[.agg #[.int .i64 a, .int .i64 s, .int .i64 r], .int .i64 t, .int .i64 k] w fun e w' => e = .returned (.tuple #[.int .i64 0, .int .i64 2]) ∧ Below w.heap.size w w' := by
  go_enter Try.func14, Try.ntmps14
  go_wp2
  go_ret2
  exact ⟨rfl, by go_grown⟩

theorem rex_range (a s r k t : Int) (w : World) (hk : 0 ≤ k) (ht : ¬ (0 ≤ t ∧ t ≤ 1099511627776)) :
    Calls Try.prog 14 #[.agg #[.int .i64 a, .int .i64 s, .int .i64 r], .int .i64 t, .int .i64 k] w fun e w' => e = .returned (.tuple #[.int .i64 0, .int .i64 3]) ∧ Below w.heap.size w w' := by
  have H := Lib.hid ht; clear ht
  go_enter Try.func14, Try.ntmps14
  go_wp2_with (go_at_call 25; refine (rtime_no _ _ H.out).mono ?_; rintro e w' ⟨rfl, rfl⟩)
  go_ret2
  exact ⟨rfl, by go_grown⟩

theorem rex_early (a s r k t : Int) (w : World) (hk : 0 ≤ k) (h0 : 0 ≤ t) (h2 : t ≤ 1099511627776) (h1 : t < a) :
    Calls Try.prog 14 #[.agg #[.int .i64 a, .int .i64 s, .int .i64 r], .int .i64 t, .int .i64 k] w fun e w' => e = .returned (.tuple #[.int .i64 0, .int .i64 8]) ∧ Below w.heap.size w w' := by
  go_enter Try.func14, Try.ntmps14
  go_wp2_with (go_at_call 25; refine (rtime_yes _ _ h0 h2).mono ?_; rintro e w' ⟨rfl, rfl⟩)
  go_ret2
  exact ⟨rfl, by go_grown⟩

theorem rex_now (a s r k t : Int) (w : World) (h0 : 0 ≤ a) (ha1 : a ≤ 1099511627776) (hs0 : 0 ≤ s) (hs1 : s ≤ 1099511627776) (h3 : -100000 ≤ r) (h4 : r ≤ 100000) (hk : 0 ≤ k) (h1 : a ≤ t) (h2 : t ≤ 1099511627776) (ho : Ovr a s r k t) :
    Calls Try.prog 14 #[.agg #[.int .i64 a, .int .i64 s, .int .i64 r], .int .i64 t, .int .i64 k] w fun e w' => e = .returned (.tuple #[.int .i64 t, .int .i64 0]) ∧ Below w.heap.size w w' := by
  have H := Lib.hid ho; clear ho
  go_enter Try.func14, Try.ntmps14
  go_wp2_with (first | (go_at_call 25; refine (rtime_yes _ _ (by omega) h2).mono ?_; rintro e w' ⟨rfl, rfl⟩) | (go_at_call 33; refine (rover_yes a s r k t _ h0 hs0 hs1 h3 h4 h1 h2 H.out).mono ?_; rintro e w' ⟨rfl, hb⟩))
  go_ret2
  exact ⟨rfl, (box3 hb).2.2.2.2⟩

theorem rex_none (a s r k t : Int) (w : World) (h0 : 0 ≤ a) (ha1 : a ≤ 1099511627776) (hs0 : 0 ≤ s) (hs1 : s ≤ 1099511627776) (h3 : -100000 ≤ r) (h4 : r ≤ 100000) (hk : 0 ≤ k) (h1 : a ≤ t) (h2 : t ≤ 1099511627776) (ho : ¬ Ovr a s r k t) (hm : ¬ Ovr a s r k 1099511627776) :
    Calls Try.prog 14 #[.agg #[.int .i64 a, .int .i64 s, .int .i64 r], .int .i64 t, .int .i64 k] w fun e w' => e = .returned (.tuple #[.int .i64 0, .int .i64 9]) ∧ Below w.heap.size w w' := by
  have H := Lib.hid ho; clear ho
  have M := Lib.hid hm; clear hm
  go_enter Try.func14, Try.ntmps14
  go_wp2_with (go_at_call 25; refine (rtime_yes _ _ (by omega) h2).mono ?_; rintro e w' ⟨rfl, rfl⟩)
  refine (rover_no a s r k t _ h0 hs0 hs1 h3 h4 h1 h2 H.out).mono ?_
  rintro e w2 ⟨rfl, hb⟩
  obtain ⟨q0, q1, q2, hz, hbb⟩ := box3 hb
  clear hb
  go_wp2_with fail
  refine (rover_no a s r k _ _ h0 hs0 hs1 h3 h4 ha1 (by omega) M.out).mono ?_
  rintro e w3 ⟨rfl, hb⟩
  go_wp2
  go_ret2
  exact ⟨rfl, hbb.trans (hb.mono hbb.size)⟩

/-- a jump is a power of 2 -/
def Pw (j : Int) : Prop := ∃ n : Nat, n ≤ 40 ∧ j = 2 ^ n
theorem Pw.pos {j : Int} (h : Pw j) : 1 ≤ j ∧ j ≤ 1099511627776 := by
  obtain ⟨n, hn, rfl⟩ := h
  have h1 : (2 : Int) ^ n ≤ 2 ^ 40 := by
    have := Nat.pow_le_pow_right (n := 2) (by omega) hn
    exact_mod_cast this
  have h2 : (1 : Int) ≤ 2 ^ n := by
    have := Nat.one_le_two_pow (n := n)
    exact_mod_cast this
  exact ⟨h2, by simpa using h1⟩
theorem Pw.half {j : Int} (h : Pw j) : j = 1 ∨ Pw (j / 2) := by
  obtain ⟨n, hn, rfl⟩ := h
  match n, hn with
  | 0, _ => exact Or.inl rfl
  | n + 1, hn => exact Or.inr ⟨n, by omega, by rw [Int.pow_succ]; omega⟩

theorem rex_first (a s r k t : Int) (w : World) (h0 : 0 ≤ a) (ha1 : a ≤ 1099511627776) (hs0 : 0 ≤ s) (hs1 : s ≤ 1099511627776) (h3 : -100000 ≤ r) (h4 : r ≤ 100000) (hk : 0 ≤ k) (h1 : a ≤ t) (h2 : t ≤ 1099511627776) (ho : ¬ Ovr a s r k t) (hm : Ovr a s r k 1099511627776) :
    Calls Try.prog 14 #[.agg #[.int .i64 a, .int .i64 s, .int .i64 r], .int .i64 t, .int .i64 k] w (FirstEx a s r k t w) := by
  have H := Lib.hid ho; clear ho
  have M := Lib.hid hm; clear hm
  go_enter Try.func14, Try.ntmps14
  go_wp2_with (go_at_call 25; refine (rtime_yes _ _ (by omega) h2).mono ?_; rintro e w' ⟨rfl, rfl⟩)
  refine (rover_no a s r k t _ h0 hs0 hs1 h3 h4 h1 h2 H.out).mono ?_
  rintro e w2 ⟨rfl, hb⟩
  obtain ⟨q0, q1, q2, hz, hbb⟩ := box3 hb
  clear hb
  go_wp2_with fail
  refine (rover_yes a s r k _ _ h0 hs0 hs1 h3 h4 ha1 (by omega) M.out).mono ?_
  rintro e w3 ⟨rfl, hb⟩
  obtain ⟨p0, p1, p2, pz⟩ := keep3 hb hz q0 q1 q2
  have hb3 := hbb.trans (hb.mono hbb.size)
  clear hb hbb q0 q1 q2 hz
  generalize hB : w.heap.size = B at *
  have hBw : B < w3.heap.size := pz
  go_wp2
  go_loopw [8, 9] (fun tv jv wr => ∃ x j : Int, tv = .int .i64 x ∧ jv = .int .i64 j ∧ t ≤ x ∧ x ≤ 1099511627776 ∧ 0 ≤ j ∧ j ≤ 1099511627776 ∧ Hid (¬ Ovr a s r k x) ∧ Hid (Pw j ∨ (j = 0 ∧ (x = 1099511627776 ∨ Ovr a s r k (x + 1)))) ∧ Below B w wr ∧ B < wr.heap.size ∧ wr.cell? ⟨B, 0, none⟩ = some (.int .i64 a) ∧ wr.cell? ⟨B, 1, none⟩ = some (.int .i64 s) ∧ wr.cell? ⟨B, 2, none⟩ = some (.int .i64 r)) (fun tv jv wr => (intOf jv).toNat)
  case atStart => exact ⟨t, _, rfl, rfl, by omega, h2, by omega, by omega, H.out, Or.inl ⟨40, by omega, rfl⟩, hb3, hBw, p0, p1, p2⟩
  case round =>
    obtain ⟨x, j, rfl, rfl, x0, x1, j0, j1, hnx, hj, hbw, hlt, c0, c1, c2⟩ := hrel
    clear p0 p1 p2 hb3 hBw pz
    by_cases hj0 : 0 < j
    · go_wp2
      obtain ⟨wo, hwo⟩ : ∃ wo : World, wo = wr := ⟨_, rfl⟩
      go_loopw [8] (fun tv wi => ∃ y : Int, tv = .int .i64 y ∧ t ≤ y ∧ y ≤ 1099511627776 ∧ Hid (¬ Ovr a s r k y) ∧ Below B w wi ∧ B < wi.heap.size ∧ wi.cell? ⟨B, 0, none⟩ = some (.int .i64 a) ∧ wi.cell? ⟨B, 1, none⟩ = some (.int .i64 s) ∧ wi.cell? ⟨B, 2, none⟩ = some (.int .i64 r)) (fun tv wi => (1099511627776 - intOf tv).toNat)
      case atStart => exact ⟨x, rfl, x0, x1, hnx, hbw, hlt, c0, c1, c2⟩
      case round =>
        obtain ⟨y, rfl, y0, y1, hny, hbi, hli, e0, e1, e2⟩ := hrel
        have hjp := hj.out.resolve_right (by omega)
        have HJ := Lib.hid hjp
        have hhalf := Lib.hid hjp.half
        clear hj hjp
        by_cases hc : y + j ≤ 1099511627776
        · by_cases ho : Ovr a s r k (y + j)
          · have HO := Lib.hid ho; clear ho
            go_wp2_with (go_at_call 33; refine (rover_yes a s r k _ _ h0 hs0 hs1 h3 h4 (by omega) hc HO.out).mono ?_; rintro e w' ⟨rfl, hb⟩; obtain ⟨g0, g1, g2, gz⟩ := keep3 hb hli e0 e1 e2)
            go_roundw
            case rel =>
              refine ⟨y, _, rfl, rfl, y0, y1, by omega, by omega, hny, ?_, hbi.trans (hb.mono (by omega)), gz, g0, g1, g2⟩
              rcases hhalf.out with e | e
              · subst e; exact Or.inr ⟨by omega, Or.inr HO.out⟩
              · exact Or.inl e
            case measure => simp [intOf]; omega
          · have HO := Lib.hid ho; clear ho
            go_wp2_with (go_at_call 33; refine (rover_no a s r k _ _ h0 hs0 hs1 h3 h4 (by omega) hc HO.out).mono ?_; rintro e w' ⟨rfl, hb⟩; obtain ⟨g0, g1, g2, gz⟩ := keep3 hb hli e0 e1 e2)
            go_roundw
            case rel => exact ⟨_, rfl, by omega, by omega, HO.out, hbi.trans (hb.mono (by omega)), gz, g0, g1, g2⟩
            case measure => simp [intOf]; omega
        · have hc' : 1099511627776 < y + j := by omega
          clear hc
          go_wp2
          go_roundw
          case rel =>
            refine ⟨y, _, rfl, rfl, y0, y1, by omega, by omega, hny, ?_, hbi, hli, e0, e1, e2⟩
            rcases hhalf.out with e | e
            · subst e; exact Or.inr ⟨by omega, Or.inl (by omega)⟩
            · exact Or.inl e
          case measure => simp [intOf]; omega
    · have hj00 : j = 0 := by omega
      subst hj00
      go_wp2
      go_ret2
      have hx := (hj.out.resolve_left (fun h => by have := h.pos; omega)).2
      have hne : x ≠ 1099511627776 := fun e => hnx.out (e ▸ M.out)
      refine ⟨x + 1, rfl, ?_, by omega, by omega, hx.resolve_left hne, ?_⟩
      · rw [hB]; exact hbw
      · rw [show x + 1 - 1 = x from by omega]; exact hnx.out

end Go.Proofs.Ytjpnfpmgbeigbaa

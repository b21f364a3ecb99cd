/- Walks of layer 47 (drift), the tenth part: the other calls of DriftPlays. -/
import Derived.Test.YtjpnfpmgbeigbaaPlays3
import Derived.BigRegion
import Derived.Deep.RegionHeld3
import Derived.StillTailTactics
namespace Go.Proofs.Ytjpnfpmgbeigbaa
open Go.ChangeShapes Go.WideShapes Go.ChangeAt Go.RowKit Drift
set_option linter.unusedVariables false

set_option maxHeartbeats 8000000 in
theorem do_rate (a s r t y : Int) (w : World) (b : Nat) (h : Clk w b a s r) :
    Calls Try.prog 12 #[.pointer (some ⟨b, 0, none⟩), .agg #[.int .i64 a, .int .i64 s, .int .i64 r], .agg #[.int .i64 1, .int .i64 t, .int .i64 y]] w (DoPost w b) := by
  obtain ⟨c, a', s', r', HS, HR⟩ := rate_pair a s r t y h.a0 h.a1 h.s0 h.s1 h.r0 h.r1
  have HS := Lib.hid HS; have HR := Lib.hid HR
  have hl := h.lt
  go_enter Try.func12, Try.ntmps12
  go_wp2_with fail
  have F0 := four_made w a s r 1 t y
  have G0 : Chg b w _ := chg_four w (.cells #[.int .i64 a, .int .i64 s, .int .i64 r] 29) (.cells #[.int .i64 1, .int .i64 t, .int .i64 y] 36) (.cells #[.int .i64 0, .int .i64 0, .int .i64 0] 29) (.cells #[.int .i64 a, .int .i64 s, .int .i64 r] 29)
  have N0 : w.heap.size ≠ b ∧ w.heap.size + 1 ≠ b ∧ w.heap.size + 1 + 1 ≠ b ∧ w.heap.size + 1 + 1 + 1 ≠ b := by omega
  have hC0 := h.same (w' := (((w.alloc (.cells #[.int .i64 a, .int .i64 s, .int .i64 r] 29)).alloc (.cells #[.int .i64 1, .int .i64 t, .int .i64 y] 36)).alloc (.cells #[.int .i64 0, .int .i64 0, .int .i64 0] 29)).alloc (.cells #[.int .i64 a, .int .i64 s, .int .i64 r] 29)) ((Below.refl w.heap.size w |>.alloc (Nat.le_refl _) _ |>.alloc (by simp) _ |>.alloc (by simp; omega) _ |>.alloc (by simp; omega) _).block b hl)
  generalize (((w.alloc (.cells #[.int .i64 a, .int .i64 s, .int .i64 r] 29)).alloc (.cells #[.int .i64 1, .int .i64 t, .int .i64 y] 36)).alloc (.cells #[.int .i64 0, .int .i64 0, .int .i64 0] 29)).alloc (.cells #[.int .i64 a, .int .i64 s, .int .i64 r] 29) = w0 at *
  have M0 : w.heap.size ≠ w.heap.size + 1 + 1 + 1 ∧ w.heap.size + 1 ≠ w.heap.size + 1 + 1 + 1 ∧ w.heap.size + 1 + 1 ≠ w.heap.size + 1 + 1 + 1 ∧ w.heap.size + 1 ≠ w.heap.size + 1 + 1 := by omega
  have E0 : w.heap.size ≤ w.heap.size + 1 + 1 ∧ w.heap.size ≤ w.heap.size + 1 + 1 + 1 := by omega
  generalize hS : w.heap.size + 1 + 1 + 1 = S at *
  generalize hR : w.heap.size + 1 + 1 = R at *
  generalize hQ : w.heap.size + 1 = Q at *
  have D1 := Lib.hid hS; have D2 := Lib.hid hR; have D3 := Lib.hid hQ
  clear hS hR hQ
  refine (HS.out _ b hC0).mono ?_
  rintro e w1 ⟨rfl, hC1, G1⟩
  have F1 := F0.chg G1 N0
  have H1 := G0.trans G1
  have hl1 := hC1.lt
  clear F0 G0 G1 hC0
  obtain ⟨p0, p1, p2, x0, x1, x2, z0, z1, z2, u0, u1, u2, fz, fu, lp, lq, lr, ls⟩ := id F1
  go_wp2_with fail
  refine (HR.out _).mono ?_
  clear p0 p1 p2 x0 x1 x2 z0 z1 z2 u0 u1 u2 fz fu lp lq lr ls
  rintro e w2 ⟨rfl, B2⟩
  have F2 := F1.chg (Chg.of_below (b := b) B2) N0
  have H2 := H1.trans (Chg.of_below B2)
  have hC2 := hC1.below B2 hl1
  have hl2 := hC2.lt
  clear F1 H1 B2 hC1 hl1
  obtain ⟨p0, p1, p2, x0, x1, x2, z0, z1, z2, u0, u1, u2, fz, fu, lp, lq, lr, ls⟩ := id F2
  go_wp2_with fail
  obtain ⟨c0, c1, c2⟩ := store3 (.int .i64 a') (.int .i64 s') (.int .i64 r') u0 u1 u2
  have W3 := stores_chg (b := b) F2 N0 M0 E0.2 hC2 H2 a' s' r'
  clear p0 p1 p2 x0 x1 x2 z0 z1 z2 u0 u1 u2 fz fu lp lq lr ls c0 c1 c2 F2 H2 hC2 hl2
  generalize ((w2.setCell ⟨S, 0, none⟩ (.int .i64 a')).setCell ⟨S, 1, none⟩ (.int .i64 s')).setCell ⟨S, 2, none⟩ (.int .i64 r') = w3 at *
  obtain ⟨hC3, H3, u0, u1, u2, x1, z0, z1, z2, fz, hz⟩ := W3
  obtain ⟨n0, n1, n2, n3⟩ := N0
  have HC := Lib.hid hC3
  have HK := Lib.hid (keepR (w := w3) (S := S) (R := R) hz.2.2.2 hz.2.2.1 u0 u1 u2 z0 z1 z2 fz)
  go_region_with (go_at_call 11; refine (agrees_any a' s' r' t _ b ?_).mono ?_; exact HC.out.same rfl; rintro e w' ⟨rfl, hb⟩; obtain ⟨v0, v1, v2, y0, y1, y2, yf⟩ := HK.out w' (undrew hb))
  all_goals
    obtain ⟨e0, e1, e2⟩ := store3 (.int .i64 a') (.int .i64 s') (.int .i64 r') y0 y1 y2
    go_wp2
    refine bodyPost_ret (v := .tuple #[.pointer (some ⟨b, 0, none⟩), .agg #[.int .i64 a', .int .i64 s', .int .i64 r'], .bool true]) (by simp [results, Try.results12, go_sem, e0, e1, e2]) rfl ?_
    exact do_close n2 E0.1 hC3 H3 hb


end Go.Proofs.Ytjpnfpmgbeigbaa

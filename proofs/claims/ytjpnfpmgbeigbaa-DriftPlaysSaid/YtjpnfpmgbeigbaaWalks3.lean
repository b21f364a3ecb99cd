/- Walks of layer 47 (drift), the third part: Copy, Step, SetRate, the examples. -/
import Derived.Test.YtjpnfpmgbeigbaaWalks2
namespace Go.Proofs.Ytjpnfpmgbeigbaa
open Go.ChangeShapes Go.WideShapes Go.ChangeAt Go.RowKit Drift
set_option linter.unusedVariables false

/-- the world has new blocks, and of the old ones only block b may have changed -/
structure Chg (b : Nat) (w w' : World) : Prop where
  os : w'.os = w.os
  tape : w'.tape = w.tape
  output : w'.output = w.output
  size : w.heap.size ≤ w'.heap.size
  block : ∀ k, k < w.heap.size → k ≠ b → w'.heap[k]? = w.heap[k]?

theorem Chg.of_below {b : Nat} {w w' : World} (h : Below w.heap.size w w') : Chg b w w' := ⟨h.os, h.tape, h.output, h.size, fun k hk _ => h.block k hk⟩
theorem Chg.trans {b : Nat} {x y z : World} (h : Chg b x y) (k : Chg b y z) : Chg b x z :=
  ⟨k.os.trans h.os, k.tape.trans h.tape, k.output.trans h.output, Nat.le_trans h.size k.size, fun i hi hn => (k.block i (Nat.lt_of_lt_of_le hi h.size) hn).trans (h.block i hi hn)⟩
theorem Chg.setCell {b o : Nat} {x y : World} (h : Chg b x y) (u : Value) : Chg b x (y.setCell ⟨b, o, none⟩ u) :=
  h.trans ⟨rfl, rfl, rfl, by simp [World.setCell], fun k _ hn => Below.heap_setCell _ _ _ _ hn⟩
theorem Chg.below {b : Nat} {W x y : World} (h : Below W.heap.size W x) (k : Chg b x y) (hb : W.heap.size ≤ b) : Below W.heap.size W y :=
  h.trans ⟨k.os, k.tape, k.output, k.size, fun i hi => k.block i (Nat.lt_of_lt_of_le hi h.size) (by omega)⟩
theorem Chg.clk {b c : Nat} {w w' : World} {a s r : Int} (h : Clk w c a s r) (k : Chg b w w') (hn : c ≠ b) : Clk w' c a s r := h.same (k.block c h.lt hn)

/-- what Copy gives -/
def IsCopy (w : World) (a s r : Int) (e : Ending) (w' : World) : Prop := ∃ d, e = .returned (.pointer (some ⟨d, 0, none⟩)) ∧ w.heap.size ≤ d ∧ Clk w' d a s r ∧ Below w.heap.size w w'

theorem copy_yes (a s r : Int) (w : World) (b : Nat) (h : Clk w b a s r) : Calls Try.prog 18 #[.pointer (some ⟨b, 0, none⟩)] w (IsCopy w a s r) := by
  have hC := h
  obtain ⟨c0, c1, c2, c3, hf, hl, ha0, ha1, hs0, hs1, hr0, hr1⟩ := h
  go_enter Try.func18, Try.ntmps18
  go_wp2_with (go_at_call 28; refine (usable_yes a s r _ b hC).mono ?_; rintro e w' ⟨rfl, rfl⟩)
  go_ret
  refine ⟨w.heap.size, rfl, Nat.le_refl _, ⟨?_, ?_, ?_, ?_, ?_, ?_, ha0, ha1, hs0, hs1, hr0, hr1⟩, by go_grown⟩
  all_goals first | (intro o; go_simp; done) | (go_simp; done) | (simp [go_sem]; done)

theorem step_ok (a s r t y : Int) (w : World) (b : Nat) (h : Clk w b a s r) (h0 : shE a s r t = 0) (h1 : 0 ≤ shw a s r t + y) (h2 : shw a s r t + y ≤ 1099511627776) (h3 : 0 ≤ shw a s r t) (h4 : shw a s r t ≤ 1099511627776) (hv : shV a s r t = shw a s r t) (h5 : 0 ≤ t) (h6 : t ≤ 1099511627776) :
    Calls Try.prog 21 #[.pointer (some ⟨b, 0, none⟩), .int .i64 t, .int .i64 y] w fun e w' => e = .returned (.int .i64 0) ∧ Clk w' b t (shw a s r t + y) r ∧ Chg b w w' := by
  have hs := show_any a s r t w b h
  rw [hv, h0] at hs
  have HS := Lib.hid hs; clear hs hv h0
  have hC := h
  obtain ⟨c0, c1, c2, c3, hf, hl, ha0, ha1, hs0, hs1, hr0, hr1⟩ := h
  go_enter Try.func21, Try.ntmps21
  go_wp2_with (go_at_call 17; refine (HS.out).mono ?_; rintro e w' ⟨rfl, hb1⟩; obtain ⟨d0, d1, d2, d3, df, dl, da0, da1, ds0, ds1, dr0, dr1⟩ := hC.below hb1 hl)
  go_ret
  refine ⟨rfl, ⟨?_, ?_, ?_, ?_, ?_, ?_, h5, h6, h1, h2, hr0, hr1⟩, ((Chg.of_below hb1).setCell _).setCell _⟩
  all_goals first | (intro o; go_simp; done) | (go_cell; done) | (go_simp; done) | (simp [go_sem]; omega)

theorem setRate_ok (a s r t q : Int) (w : World) (b : Nat) (h : Clk w b a s r) (h0 : shE a s r t = 0) (h1 : -100000 ≤ q) (h2 : q ≤ 100000) (h3 : 0 ≤ shw a s r t) (h4 : shw a s r t ≤ 1099511627776) (hv : shV a s r t = shw a s r t) (h5 : 0 ≤ t) (h6 : t ≤ 1099511627776) :
    Calls Try.prog 19 #[.pointer (some ⟨b, 0, none⟩), .int .i64 t, .int .i64 q] w fun e w' => e = .returned (.int .i64 0) ∧ Clk w' b t (shw a s r t) q ∧ Chg b w w' := by
  have hs := show_any a s r t w b h
  rw [hv, h0] at hs
  have HS := Lib.hid hs; clear hs hv h0
  have hC := h
  obtain ⟨c0, c1, c2, c3, hf, hl, ha0, ha1, hs0, hs1, hr0, hr1⟩ := h
  go_enter Try.func19, Try.ntmps19
  go_wp2_with (first | (go_at_call 28; refine (usable_yes a s r _ b hC).mono ?_; rintro e w' ⟨rfl, rfl⟩) | (go_at_call 24; refine (allowed_yes q _ h1 h2).mono ?_; rintro e w' ⟨rfl, rfl⟩) | (go_at_call 17; refine (HS.out).mono ?_; rintro e w' ⟨rfl, hb1⟩; obtain ⟨d0, d1, d2, d3, df, dl, da0, da1, ds0, ds1, dr0, dr1⟩ := hC.below hb1 hl))
  go_ret
  refine ⟨rfl, ⟨?_, ?_, ?_, ?_, ?_, ?_, h5, h6, h3, h4, h1, h2⟩, (((Chg.of_below hb1).setCell _).setCell _).setCell _⟩
  all_goals first | (intro o; go_simp; done) | (go_cell; done) | (go_simp; done) | (simp [go_sem]; omega)

end Go.Proofs.Ytjpnfpmgbeigbaa

/- Walks of layer 47 (drift), the fifth part: the examples of the chapter come out true. -/
import Derived.Test.YtjpnfpmgbeigbaaWalks4
namespace Go.Proofs.Ytjpnfpmgbeigbaa
open Go.ChangeShapes Go.WideShapes Go.ChangeAt Go.RowKit Drift
set_option linter.unusedVariables false

theorem cell_lt {w : World} {p : Addr} {v : Value} (h : w.cell? p = some v) : p.block < w.heap.size := by
  rcases Nat.lt_or_ge p.block w.heap.size with h1 | h1
  · exact h1
  · simp [World.cell?, Array.getElem?_eq_none h1] at h

theorem shows4 (w : World) (b p q u : Nat) (h : Clk w b 100 50 100000)
    (p0 : w.cell? ⟨p, 0, none⟩ = some (.int .i64 100)) (p1 : w.cell? ⟨p, 1, none⟩ = some (.int .i64 109)) (p2 : w.cell? ⟨p, 2, none⟩ = some (.int .i64 110)) (p3 : w.cell? ⟨p, 3, none⟩ = some (.int .i64 99))
    (q0 : w.cell? ⟨q, 0, none⟩ = some (.int .i64 50)) (q1 : w.cell? ⟨q, 1, none⟩ = some (.int .i64 59)) (q2 : w.cell? ⟨q, 2, none⟩ = some (.int .i64 61)) (q3 : w.cell? ⟨q, 3, none⟩ = some (.int .i64 0))
    (u0 : w.cell? ⟨u, 0, none⟩ = some (.int .i64 0)) (u1 : w.cell? ⟨u, 1, none⟩ = some (.int .i64 0)) (u2 : w.cell? ⟨u, 2, none⟩ = some (.int .i64 0)) (u3 : w.cell? ⟨u, 3, none⟩ = some (.int .i64 8)) :
    Calls Try.prog 22 #[.pointer (some ⟨b, 0, none⟩), .slice (some ⟨p, 0, none⟩) 4 4, .slice (some ⟨q, 0, none⟩) 4 4, .slice (some ⟨u, 0, none⟩) 4 4] w fun e w' => e = .returned (.bool true) ∧ Below w.heap.size w w' := by
  refine shows_any 4 (by omega) 100 50 100000 w b p q u (fun k => if k = 0 then 100 else if k = 1 then 109 else if k = 2 then 110 else 99) h ?_ ?_ ?_ (cell_lt p0) (cell_lt q0) (cell_lt u0)
  · intro k hk
    match k, hk with
    | 0, _ => exact p0
    | 1, _ => exact p1
    | 2, _ => exact p2
    | 3, _ => exact p3
  · intro k hk
    match k, hk with
    | 0, _ => exact q0
    | 1, _ => exact q1
    | 2, _ => exact q2
    | 3, _ => exact q3
  · intro k hk
    match k, hk with
    | 0, _ => exact u0
    | 1, _ => exact u1
    | 2, _ => exact u2
    | 3, _ => exact u3

theorem shows2 (a s r t0 t1 v0 v1 : Int) (e0 : v0 = shV a s r t0) (e1 : v1 = shV a s r t1) (c0 : 0 = shE a s r t0) (c1 : 0 = shE a s r t1) (w : World) (b p q u : Nat) (h : Clk w b a s r)
    (p0 : w.cell? ⟨p, 0, none⟩ = some (.int .i64 t0)) (p1 : w.cell? ⟨p, 1, none⟩ = some (.int .i64 t1))
    (q0 : w.cell? ⟨q, 0, none⟩ = some (.int .i64 v0)) (q1 : w.cell? ⟨q, 1, none⟩ = some (.int .i64 v1))
    (u0 : w.cell? ⟨u, 0, none⟩ = some (.int .i64 0)) (u1 : w.cell? ⟨u, 1, none⟩ = some (.int .i64 0)) :
    Calls Try.prog 22 #[.pointer (some ⟨b, 0, none⟩), .slice (some ⟨p, 0, none⟩) 2 2, .slice (some ⟨q, 0, none⟩) 2 2, .slice (some ⟨u, 0, none⟩) 2 2] w fun e w' => e = .returned (.bool true) ∧ Below w.heap.size w w' := by
  subst e0 e1
  rw [c0] at u0
  rw [c1] at u1
  refine shows_any 2 (by omega) a s r w b p q u (fun k => if k = 0 then t0 else t1) h ?_ ?_ ?_ (cell_lt p0) (cell_lt q0) (cell_lt u0)
  · intro k hk
    match k, hk with
    | 0, _ => exact p0
    | 1, _ => exact p1
  · intro k hk
    match k, hk with
    | 0, _ => exact q0
    | 1, _ => exact q1
  · intro k hk
    match k, hk with
    | 0, _ => exact u0
    | 1, _ => exact u1

theorem kDev (w : World) (b : Nat) (h : Clk w b 100 50 100000) :
    Calls Try.prog 20 #[.pointer (some ⟨b, 0, none⟩), .int .i64 110] w fun e w' => e = .returned (.tuple #[.int .i64 (-49), .int .i64 0]) ∧ Below w.heap.size w w' := by
  have := deviation_ok 100 50 100000 110 w b h (by decide)
  rw [show shw 100 50 100000 110 - 110 = -49 from by decide] at this
  exact this

instance (a s r k t : Int) : Decidable (Ovr a s r k t) := by unfold Ovr; infer_instance

theorem kEx1 (w : World) (b : Nat) (h : Clk w b 100 50 100000) :
    Calls Try.prog 13 #[.pointer (some ⟨b, 0, none⟩), .int .i64 100, .int .i64 50] w fun e w' => e = .returned (.tuple #[.int .i64 1110, .int .i64 0]) ∧ Below w.heap.size w w' := by
  refine (ex_first 100 50 100000 50 100 w b h (by decide) (by decide) (by decide) (by decide) (by decide)).mono ?_
  rintro e w' ⟨v, rfl, hb, h1, h2, h3, h4⟩
  rw [Ovr.first (a := 100) (s := 50) (r := 100000) (k := 50) (t := 100) (u := v) (v := 1110) (by decide) (by decide) h1 (by decide) h3 h4 (by decide) (by decide)]
  exact ⟨rfl, hb⟩

theorem kEx2 (w : World) (b : Nat) (h : Clk w b 100 50 100000) :
    Calls Try.prog 13 #[.pointer (some ⟨b, 0, none⟩), .int .i64 100, .int .i64 49] w fun e w' => e = .returned (.tuple #[.int .i64 100, .int .i64 0]) ∧ Below w.heap.size w w' :=
  ex_now 100 50 100000 49 100 w b h (by decide) (by decide) (by decide) (by decide)

theorem kEx3 (w : World) (b : Nat) (h : Clk w b 100 50 100000) :
    Calls Try.prog 13 #[.pointer (some ⟨b, 0, none⟩), .int .i64 100, .int .i64 60] w fun e w' => e = .returned (.tuple #[.int .i64 1210, .int .i64 0]) ∧ Below w.heap.size w w' := by
  refine (ex_first 100 50 100000 60 100 w b h (by decide) (by decide) (by decide) (by decide) (by decide)).mono ?_
  rintro e w' ⟨v, rfl, hb, h1, h2, h3, h4⟩
  rw [Ovr.first (a := 100) (s := 50) (r := 100000) (k := 60) (t := 100) (u := v) (v := 1210) (by decide) (by decide) h1 (by decide) h3 h4 (by decide) (by decide)]
  exact ⟨rfl, hb⟩

theorem kStep (w : World) (b : Nat) (h : Clk w b 100 50 100000) :
    Calls Try.prog 21 #[.pointer (some ⟨b, 0, none⟩), .int .i64 110, .int .i64 5] w fun e w' => e = .returned (.int .i64 0) ∧ Clk w' b 110 66 100000 ∧ Chg b w w' := by
  have := step_ok 100 50 100000 110 5 w b h (by decide) (by decide) (by decide) (by decide) (by decide) (by decide) (by decide) (by decide)
  rw [show shw 100 50 100000 110 + 5 = 66 from by decide] at this
  exact this

theorem kRate (w : World) (b : Nat) (h : Clk w b 110 66 100000) :
    Calls Try.prog 19 #[.pointer (some ⟨b, 0, none⟩), .int .i64 120, .int .i64 (-100000)] w fun e w' => e = .returned (.int .i64 0) ∧ Clk w' b 120 77 (-100000) ∧ Chg b w w' := by
  have := setRate_ok 110 66 100000 120 (-100000) w b h (by decide) (by decide) (by decide) (by decide) (by decide) (by decide) (by decide) (by decide)
  rw [show shw 110 66 100000 120 = 77 from by decide] at this
  exact this

end Go.Proofs.Ytjpnfpmgbeigbaa

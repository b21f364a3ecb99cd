/- Layer 11 (der): a region in any order inside a deferred closure that recovers; the closure of read. -/
import Derived.Test.YtmkejehjjpaelaaBytes
import Derived.Defers
import Derived.Recover
import Derived.Orders
namespace Go.Proofs.Ytmkejehjjpaelaa
open Go.ChangeShapes Go.WideShapes Go.ChangeAt Go.RowKit
set_option linter.unusedVariables false

theorem wpS_region_draw {P : Program} {ops : Array Oper} {Q : Exit → Act → List Frame → World → Prop} {id : Nat} {a : Act} {cs : List Frame} {w : World}
    (h : ∀ t, wpOpsS P ops Q (Region.schedule (P.follows .mixedOrders) ops t) a cs { w with drawn := w.drawn + 1 }) : (Code.region id ops true).wpS P Q a cs w :=
  fun b k hb hr => let ⟨e, a', cs', w', q, r⟩ := wp_opsS _ a cs _ (h _) b k hb hr; ⟨e, a', cs', w', q, .of_steps (.one step_region_draw) r⟩

/-- the orders that a region can take -/
def orders (md : Region.Mode) (ops : Array Oper) : Nat → Array Bool → List (List Nat)
  | 0, _ => [[]]
  | fuel + 1, listed => if (Region.ready md ops listed).isEmpty then [[]] else (Region.ready md ops listed).flatMap fun i => (orders md ops fuel (listed.setIfInBounds i true)).map (i :: ·)

theorem orders_sound {md : Region.Mode} {ops : Array Oper} : ∀ (fuel t : Nat) (listed : Array Bool), Region.linearise.go md ops fuel t listed [] ∈ orders md ops fuel listed := by
  intro fuel
  induction fuel with
  | zero => intro t listed; simp [Region.linearise.go, orders]
  | succ fuel ih =>
    intro t listed
    simp only [Region.linearise.go, orders]
    change (match (Region.ready md ops listed)[t % (Region.ready md ops listed).length]? with
      | some i => Region.linearise.go md ops fuel (t / (Region.ready md ops listed).length) (listed.setIfInBounds i true) [i]
      | none => [].reverse) ∈ _
    cases hi : (Region.ready md ops listed)[t % (Region.ready md ops listed).length]? with
    | none =>
      have hnil : Region.ready md ops listed = [] := by
        cases hr : Region.ready md ops listed with
        | nil => rfl
        | cons x xs =>
          rw [hr] at hi
          have hlt : t % (x :: xs).length < (x :: xs).length := Nat.mod_lt _ (by simp)
          simp at hi
          simp at hlt
          omega
      rw [hnil]; simp
    | some i =>
      have hm := List.mem_of_getElem? hi
      have hne : (Region.ready md ops listed).isEmpty = false := by
        cases hr : Region.ready md ops listed with
        | nil => rw [hr] at hm; simp at hm
        | cons x xs => rfl
      simp only [hne, Bool.false_eq_true, if_false]
      rw [linearise_go_acc, List.reverse_singleton, List.singleton_append]
      exact List.mem_flatMap.2 ⟨i, hm, List.mem_map.2 ⟨_, ih _ _, rfl⟩⟩

theorem wpS_region_any {P : Program} {ops : Array Oper} {Q : Exit → Act → List Frame → World → Prop} {id : Nat} {a : Act} {cs : List Frame} {w : World} (hm : P.follows .mixedOrders = true) (L : List (List Nat)) (hL : orders .any ops ops.size (Array.replicate ops.size false) = L)
    (h : ∀ p ∈ L, wpOpsS P ops Q p a cs w.drew) : (Code.region id ops true).wpS P Q a cs w := by
  refine wpS_region_draw fun t => h _ ?_
  subst hL
  simp only [Region.schedule, hm, Bool.true_or, if_true]
  exact orders_sound ops.size t _

theorem assert149 (e : Int) (w : World) : (Instr.typeAssert (.iface 149 (.int .i64 e)) 20 149 true).run Try.prog w = .ok (.tuple #[.int .i64 e, .bool true]) w := by kernel_rfl

set_option maxRecDepth 20000 in
theorem restore_hit (b : Nat) (off : Int) (e : Int) (w : World) (o0 v0 e0 : Int)
    (h2 : w.cell? ⟨b, 1, none⟩ = some (.int .i64 o0)) (z2 : w.frozen? ⟨b, 1, none⟩ = false)
    (p2 p3 : Nat) (h3 : w.cell? ⟨p2, 0, none⟩ = some (.int .i64 v0)) (z3 : w.frozen? ⟨p2, 0, none⟩ = false) (h4 : w.cell? ⟨p3, 0, none⟩ = some (.int .i64 e0)) (z4 : w.frozen? ⟨p3, 0, none⟩ = false) (n1 : b ≠ p2) (n2 : b ≠ p3) (n3 : p2 ≠ p3) :
    Calls Try.prog 97 #[.pointer (some ⟨b, 0, none⟩), .int .i64 off, .iface 149 (.int .i64 e), .pointer (some ⟨p2, 0, none⟩), .pointer (some ⟨p3, 0, none⟩)] w fun r w' => r = .returned (.tuple #[]) ∧ ((w.setCell ⟨b, 1, none⟩ (.int .i64 off)).setCell ⟨p2, 0, none⟩ (.int .i64 0)).setCell ⟨p3, 0, none⟩ (.int .i64 e) = w' := by
  have hta := assert149 e
  go_enter Try.func97, Try.ntmps97
  go_wp2
  go_end0
  exact ⟨rfl, rfl⟩

theorem catch96 (b p1 p2 p3 : Nat) (off : Int) (o0 v0 e0 : Int) (e : Int) (older : List PanicEntry) (w : World)
    (h1 : w.cell? ⟨p1, 0, none⟩ = some (.pointer (some ⟨b, 0, none⟩)))
    (h2 : w.cell? ⟨b, 1, none⟩ = some (.int .i64 o0)) (z2 : w.frozen? ⟨b, 1, none⟩ = false)
    (h3 : w.cell? ⟨p2, 0, none⟩ = some (.int .i64 v0)) (z3 : w.frozen? ⟨p2, 0, none⟩ = false) (h4 : w.cell? ⟨p3, 0, none⟩ = some (.int .i64 e0)) (z4 : w.frozen? ⟨p3, 0, none⟩ = false) (n1 : b ≠ p2) (n2 : b ≠ p3) (n3 : p2 ≠ p3) :
    CallsD Try.prog 96 #[.int .i64 off, .pointer (some ⟨p1, 0, none⟩), .pointer (some ⟨p2, 0, none⟩), .pointer (some ⟨p3, 0, none⟩)] (.panicking ({ v := .iface 149 (.int .i64 e), recovered := false } :: older)) w fun r u' w' => r = .returned (.tuple #[]) ∧ u' = .panicking ({ v := .iface 149 (.int .i64 e), recovered := true } :: older) ∧ ((w.drew.setCell ⟨b, 1, none⟩ (.int .i64 off)).setCell ⟨p2, 0, none⟩ (.int .i64 0)).setCell ⟨p3, 0, none⟩ (.int .i64 e) = w' := by
  have hr := restore_hit b off e w.drew o0 v0 e0 (by simpa [go_sem] using h2) (by simpa [go_sem] using z2) p2 p3 (by simpa [go_sem] using h3) (by simpa [go_sem] using z3) (by simpa [go_sem] using h4) (by simpa [go_sem] using z4) n1 n2 n3
  refine callsD_of_wpS Try.func96 rfl fun c₀ cs hu => ?_
  refine wpS_region_any (by kernel_rfl) [[0, 1, 2, 3], [0, 2, 1, 3], [1, 0, 2, 3], [1, 2, 0, 3], [2, 0, 1, 3], [2, 1, 0, 3]] (by kernel_rfl) ?_
  have h1' : w.drew.cell? ⟨p1, 0, none⟩ = some (.pointer (some ⟨b, 0, none⟩)) := by simpa [go_sem] using h1
  intro p hp
  simp only [List.mem_cons, List.not_mem_nil, or_false] at hp
  rcases hp with rfl | rfl | rfl | rfl | rfl | rfl
  all_goals
    simp [wpOpsS, go_sem, recoverD, hu, Try.ntmps96, h1']
    refine hr.mono ?_
    rintro r w' ⟨rfl, rfl⟩
    simp [bodyPostS, results, Try.results96, go_sem]
end Go.Proofs.Ytmkejehjjpaelaa

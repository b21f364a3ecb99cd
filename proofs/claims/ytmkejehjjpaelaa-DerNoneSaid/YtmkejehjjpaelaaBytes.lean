/- Slices of bytes in memory, as lists of numbers (for layer 11, der). -/
import Derived.Test.YtmkejehjjpaelaaRows
import Derived.WalkKit
import Derived.ProofKit
import Derived.OpenShut
import Derived.Handy
import Derived.WalkLawsBesides
import Derived.WalkSpells
import Derived.Lib.Hide
import Derived.Deep.RegionWith
import Derived.Laws.AppendOwnNone
import Derived.Laws.BytesArg
namespace Go.Proofs.Ytmkejehjjpaelaa
open Go.ChangeShapes Go.WideShapes Go.ChangeAt Go.RowKit
set_option linter.unusedVariables false

theorem ret_int {k : IntKind} {a b : Int} (h : a = b) : Ending.returned (.int k a) = Ending.returned (.int k b) := by rw [h]

theorem add_block (a : Addr) (n : Nat) : (a.add n).block = a.block := by unfold Addr.add; split <;> rfl
theorem add_add (a : Addr) (i j : Nat) : (a.add i).add j = a.add (i + j) := by
  unfold Addr.add
  by_cases hi : i = 0 <;> by_cases hj : j = 0 <;> simp [hi, hj, Nat.add_assoc]

/-- the slice value with address A and capacity c reads as these bytes -/
def Rd (w : World) (A : Option Addr) (c : Nat) (l : List Int) : Prop := (∀ x ∈ l, 0 ≤ x ∧ x < 256) ∧ ((A = none ∧ c = 0 ∧ l = []) ∨ ∃ ad : Addr, A = some ad ∧ ad.block < w.heap.size ∧ ∀ (i : Nat) (x : Int), l[i]? = some x → w.cell? (ad.add i) = some (.int .u8 x))

theorem Rd.nil (w : World) : Rd w none 0 [] := ⟨by simp, Or.inl ⟨rfl, rfl, rfl⟩⟩

theorem Rd.below {w w' : World} {A : Option Addr} {c : Nat} {l : List Int} (h : Rd w A c l) (hb : Below w.heap.size w w') : Rd w' A c l := by
  refine ⟨h.1, ?_⟩
  rcases h.2 with h | ⟨ad, e, hl, hc⟩
  · exact Or.inl h
  · exact Or.inr ⟨ad, e, Nat.lt_of_lt_of_le hl hb.size, fun i x hx => (hb.cell (p := ad.add i) (by rw [add_block]; exact hl)).trans (hc i x hx)⟩

theorem Rd.alloc {w : World} {A : Option Addr} {c : Nat} {l : List Int} (h : Rd w A c l) (X : Obj) : Rd (w.alloc X) A c l := h.below ((Below.refl _ _).alloc (Nat.le_refl _) X)

/-- what an append of the call's own holds can be read -/
theorem Rd.own {w : World} {base : Nat} {A : Option Addr} {c : Nat} {l : List Int} (hr : ∀ x ∈ l, 0 ≤ x ∧ x < 256) (h : w.ownsRow base 5 1 (.slice A l.length c) l.length (l.map (Value.int .u8))) : Rd w A c l := by
  refine ⟨hr, ?_⟩
  rcases h.2 with ⟨h1, h2⟩ | ⟨g, cap, cur, hv, hb, hg, hn, hm, hs, ht⟩
  · injection h1 with e1 e2 e3
    exact Or.inl ⟨e1, e3, List.eq_nil_of_length_eq_zero e2⟩
  · injection hv with e1 e2 e3
    subst e3
    refine Or.inr ⟨⟨g, 0, none⟩, e1, ?_, fun i x hx => ?_⟩
    · rcases Nat.lt_or_ge g w.heap.size with hlt | hge
      · exact hlt
      · rw [Array.getElem?_eq_none hge] at hg; cases hg
    · have hcell := h.cells (g := g) (by rw [e1]; rfl) i (.int .u8 x) (by rw [List.getElem?_map, hx]; rfl)
      exact hcell

/-- a fresh block of bytes can be read -/
theorem Rd.fresh (w : World) (l : List Int) (hr : ∀ x ∈ l, 0 ≤ x ∧ x < 256) : Rd (w.alloc (.cells (l.map (Value.int .u8)).toArray 5)) (some ⟨w.heap.size, 0, none⟩) l.length l := by
  refine ⟨hr, Or.inr ⟨_, rfl, by simp, fun i x hx => ?_⟩⟩
  rw [Go.WideShapes.add_plain, Nat.zero_add, World.cell?_alloc_new]
  simp [hx]

theorem own_fresh (w : World) (l : List Int) (hm : l.length ≤ maxLen) : (w.alloc (.cells (l.map (Value.int .u8)).toArray 5)).ownsRow w.heap.size 5 1 (.slice (some ⟨w.heap.size, 0, none⟩) l.length l.length) l.length (l.map (Value.int .u8)) := by
  refine ⟨by simp, Or.inr ⟨w.heap.size, l.length, (l.map (Value.int .u8)).toArray, rfl, Nat.le_refl _, heap_alloc_new w _, Nat.le_refl _, hm, by simp, ?_⟩⟩
  rw [List.take_of_length_le (by simp)]

/-- string(b) -/
theorem conv_any {w : World} {A : Option Addr} {c : Nat} {l : List Int} (h : Rd w A c l) : (convert 23 9 (.slice A l.length c)).run Try.prog w = .ok (.string (strOfNums l)) w := by
  rcases h.2 with ⟨rfl, rfl, rfl⟩ | ⟨ad, rfl, _, hc⟩
  · rw [run_convert_bytes_nil w 23 5 Try.underlying23 Try.underlying5 _ _ 9 Try.underlying9]
    rfl
  · have hl : (loadCells ad l.length).run Try.prog w = .ok (l.map (Value.int .u8)).toArray w := by
      have := run_loadCells_list (P := Try.prog) w ad (l.map (Value.int .u8)) (fun j v hj => by
        rw [List.getElem?_map] at hj
        cases hx : l[j]? with
        | none => rw [hx] at hj; simp at hj
        | some x => rw [hx] at hj; simp at hj; subst hj; exact hc j x hx)
      simpa using this
    rw [run_convert_bytes_string w 23 9 5 _ _ c Try.underlying23 Try.underlying5 Try.underlying9, run_bytesToString w _ _ c l hl, foldl_push_bytes]
    simp [strOfNums, ByteArray.empty, ByteArray.emptyWithCapacity]
    rfl

theorem u8_info : (Try.prog.info? 5).map (fun i => (i.zero, i.size, i.bytes)) = some (some (.int .u8 0), 1, 1) := by kernel_rfl

/-- append(b, x...) where b is the call's own -/
theorem wp_app {ops : Array Oper} {rest : List Oper} {o : Oper} {a : Act} {Q : Exit → Act → World → Prop} {w : World} (hgd : o.guard = none) (s x : Operand)
    (ho : o.op = .call { callee := .builtin .append, args := #[s, x], argTypes := #[23, 23] }) (base : Nat) (v : Value) (xs : List Int) (hs : a.eval s = v)
    (hown : w.ownsRow base 5 1 v xs.length (xs.map (Value.int .u8))) (A : Option Addr) (c : Nat) (l : List Int) (hx : a.eval x = .slice A l.length c) (hr : Rd w A c l) (hlen : xs.length + l.length ≤ 1000000000) (hbase : base ≤ w.heap.size)
    (h : ∀ A' c' w', w'.ownsRow base 5 1 (.slice A' (xs ++ l).length c') (xs ++ l).length ((xs ++ l).map (Value.int .u8)) → Below base w w' → wpList Try.prog ops Q rest (a.put o.dst (.slice A' (xs ++ l).length c')) w') : wpList Try.prog ops Q (o :: rest) a w := by
  obtain ⟨i0, hi0, hz0, hz1, hz2⟩ := info_parts u8_info
  have hv : ∃ A0 c0, v = .slice A0 xs.length c0 := by
    rcases hown.2 with ⟨h1, h2⟩ | ⟨g, cap, cur, hv, _⟩
    · exact ⟨none, 0, by rw [h1, h2]⟩
    · exact ⟨_, _, hv⟩
  rcases hr.2 with ⟨rfl, rfl, rfl⟩ | ⟨ad, rfl, hb, hc⟩
  · obtain ⟨A0, c0, hv⟩ := hv
    refine wpList_append_own_none hgd s x 23 ho base 5 i0 1 Try.underlying23 hi0 v xs.length _ hs hown hx ?_
    have := h A0 c0 w (by simpa [hv] using hown) (Below.refl _ _)
    simpa [hv] using this
  · refine wpList_append_own w hgd s x 23 ho base 5 i0 (.int .u8 0) 1 1 Try.underlying23 hi0 hz0 hz1 hz2 rfl (by omega) v xs.length _ hs hown ad l.length c (l.map (Value.int .u8)) hx (by simp) ?_ ?_ (by unfold maxLen; omega) (by omega) hbase ?_
    · intro j u hu
      rw [List.getElem?_map] at hu
      cases hx : l[j]? with
      | none => rw [hx] at hu; simp at hu
      | some y => rw [hx] at hu; simp at hu; subst hu; exact hc j y hx
    · intro u hu
      simp at hu
      obtain ⟨y, _, rfl⟩ := hu
      rfl
    · intro v' w' hown' hg hnil
      have hb' : Below base w w' := (Below.refl _ _).grown hg hbase (fun k hk => by
        rcases hown.2 with ⟨h1, h2⟩ | ⟨g, cap, cur, hv, hbg, _⟩
        · rw [h1] at hk; simp [Value.ownBlock] at hk
        · rw [hv] at hk; simp [Value.ownBlock] at hk; omega)
      rw [← List.length_append, ← List.map_append] at hown'
      rcases hown'.2 with ⟨h1, h2⟩ | ⟨g, cap, cur, hv', _⟩
      · rw [h1] at hown' ⊢
        rw [h2] at hown'
        have key := h none 0 w'
        rw [h2] at key
        exact key hown' hb'
      · rw [hv'] at hown' ⊢
        exact h _ _ w' hown' hb'

/-- the bytes of a length -/
def lenB (n : Int) : List Int := if n < 128 then [n] else if n < 256 then [129, n] else if n < 65536 then [130, n / 256, n % 256] else [131, n / 65536, n / 256 % 256, n % 256]

theorem lengthOf_any (n : Int) (w : World) (h0 : 0 ≤ n) (h1 : n ≤ 16777215) :
    Calls Try.prog 90 #[.int .i64 n] w fun e w' => e = .returned (.slice (some ⟨w.heap.size, 0, none⟩) (lenB n).length (lenB n).length) ∧ w.alloc (.cells ((lenB n).map (Value.int .u8)).toArray 5) = w' := by
  unfold lenB
  by_cases c1 : n < 128
  · rw [if_pos c1]
    go_enter Try.func90, Try.ntmps90
    go_wp2
    go_ret
    exact ⟨rfl, rfl⟩
  rw [if_neg c1]
  by_cases c2 : n < 256
  · rw [if_pos c2]
    go_enter Try.func90, Try.ntmps90
    go_wp2
    go_ret
    exact ⟨rfl, rfl⟩
  rw [if_neg c2]
  by_cases c3 : n < 65536
  · rw [if_pos c3]
    go_enter Try.func90, Try.ntmps90
    go_wp2
    go_ret
    exact ⟨rfl, rfl⟩
  rw [if_neg c3]
  go_enter Try.func90, Try.ntmps90
  go_wp2
  go_ret
  exact ⟨rfl, rfl⟩

end Go.Proofs.Ytmkejehjjpaelaa

/- A machine over values that are known, or unknown numbers as linear forms with facts about them, or unknown otherwise: a run of it that ends well on every way is a contract of the call. No conditions but that of the tables (mixed orders). -/
import Derived.Test.YtkllodeeccooeaaDoorSymA
import Derived.IntWalk
import Derived.AtR
import Derived.Laws.Externs
/- The abstract machine: append and copy. -/
namespace Go.Sim
open Go.RowKit
set_option linter.unusedVariables false
set_option linter.unusedSimpArgs false
set_option linter.unusedSectionVars false
variable [Ev]

variable {P : Program} {B : Nat} {ρ : Map} {h : H} {w : World}

theorem extract0 (s : ByteArray) (k : Nat) : ((s.extract 0 k).data.map fun b => Value.int .u8 b.toNat) = ⟨(s.data.toList.map fun b => Value.int .u8 b.toNat).take k⟩ := by
  apply Array.ext'
  simp [ByteArray.data_extract, Array.toList_extract, List.extract, List.map_take]

theorem bytes_rel (ρ : Map) (l : List UInt8) : VRs ρ (l.map fun b => Value.int .u8 b.toNat) (l.map fun b => Value.int .u8 b.toNat) := by
  induction l with
  | nil => exact .nil
  | cons b l ih => exact .cons _ _ _ _ (.int _ _) ih

theorem VRs.take {a a' : List Value} (n : Nat) (h : VRs ρ a a') : VRs ρ (a.take n) (a'.take n) := by
  refine VRs.of_get _ _ (by simp [h.length]) ?_
  intro i v v' h1 h2
  rw [List.getElem?_take] at h1 h2
  split at h1
  · rename_i hi
    rw [if_pos hi] at h2
    obtain ⟨u, k1, k2⟩ := h.get i v h1
    rw [h2] at k1; cases k1; exact k2
  · cases h1

theorem srcA_sound (R : HR P B ρ h w.heap) {size n : Nat} {x x' : Value} {new : List Value} (e : srcA h size x = some (n, new)) (hx : VR ρ x x') :
    (∀ w' : World, (Builtin.lenOf x').run P w' = .ok n w') ∧ new.length = n * size ∧
      ∀ k, k ≤ n → ∃ L, (∀ w' : World, w'.heap = w.heap → (Builtin.firstCells size k x').run P w' = .ok ⟨L⟩ w') ∧ VRs ρ (new.take (k * size)) L := by
  unfold srcA at e
  split at e
  · rename_i s
    cases hb : Nat.beq size 1 <;> rw [hb] at e <;> simp only [cond_true, cond_false] at e <;> cases e
    have hs : size = 1 := Nat.eq_of_beq_eq_true hb
    subst hs
    cases hx
    refine ⟨fun _ => rfl, by simp, fun k hk => ⟨_, fun w' hw => by simp only [Builtin.firstCells, extract0]; rfl, ?_⟩⟩
    rw [Nat.mul_one]
    exact (bytes_rel ρ _).take k
  · rename_i n' c
    cases hb : Nat.beq n' 0 <;> rw [hb] at e <;> simp only [cond_true, cond_false] at e <;> cases e
    have hs : n' = 0 := Nat.eq_of_beq_eq_true hb
    subst hs
    cases hx
    exact ⟨fun _ => rfl, by simp, fun k hk => ⟨[], fun _ _ => rfl, by simpa using VRs.nil⟩⟩
  · rename_i b o n' c
    cases g : (h.get b).bind rowOf with
    | none => simp [g] at e
    | some cs =>
      simp only [g] at e
      cases hq : takeX (n' * size) (cs.drop o) with
      | none => simp [hq] at e
      | some q =>
        simp only [hq] at e
        cases e
        obtain ⟨r, d, c', p, hb, hp, rfl⟩ := hx.rslice
        have hql : new.length = n * size := by
          obtain ⟨rfl, hl⟩ := takeX_spec _ _ _ hq
          simp only [List.length_take]; omega
        refine ⟨fun _ => rfl, hql, fun k hk => ?_⟩
        obtain ⟨L, hL, hV, hc⟩ := R.row g hb o (n * size) new hq
        have hkm : k * size ≤ n * size := Nat.mul_le_mul_right _ hk
        refine ⟨L.take (k * size), fun w' hw => ?_, hV.take _⟩
        have hlen : (L.take (k * size)).length = k * size := by simp only [List.length_take]; omega
        have hcc : ∀ (j : Nat) (v : Value), (L.take (k * size))[j]? = some v → w'.cell? ⟨r, p + j, none⟩ = some v := by
          intro j v hj
          rw [show w'.cell? ⟨r, p + j, none⟩ = w.cell? ⟨r, p + j, none⟩ from by simp [World.cell?, hw]]
          rw [List.getElem?_take] at hj
          split at hj
          · rcases hp with rfl | ⟨rfl, rfl⟩
            · exact hc j v hj
            · rename_i hlt
              simp at hkm; omega
          · cases hj
        have := run_loadCells (P := P) r p _ w' hcc
        rw [hlen] at this
        simpa [Builtin.firstCells] using this
  · cases e

theorem growBy_le : ∀ (rounds newLen c : Nat), c ≤ newLen + (newLen + 768) / 4 → Builtin.growBy newLen rounds c ≤ newLen + (newLen + 768) / 4
  | 0, newLen, c, h => h
  | rounds + 1, newLen, c, h => by
    simp only [Builtin.growBy]
    split
    · exact h
    · refine growBy_le rounds newLen _ ?_
      omega

theorem nextcap_le {need old : Nat} (h : old ≤ need) (hn : need ≤ 2000000) : Builtin.nextslicecap need old ≤ 4000000 := by
  unfold Builtin.nextslicecap
  split
  · omega
  · split
    · omega
    · have := growBy_le 4 need old (by omega)
      omega

structure Grew (w w' : World) (c : Array Value) (e : TypeId) : Prop where
  heap : w'.heap = w.heap.push (.cells c e)
  os : w'.os = w.os
  tape : w'.tape = w.tape
  output : w'.output = w.output

/-- append makes a new row -/
theorem grow_run {t t2 e ty : TypeId} {i : TypeInfo} {z : Value} (hu : P.underlying t = some (.slice e)) (hi : P.info? e = some i) (hz : i.zero = some z) (h2 : isIntT P t2 = false)
    {base : Option Addr} {m sCap n : Nat} {x' : Value} {Lo Ln : List Value} (hm : m ≤ 1000000) (hn : n ≤ 1000000) (hb : i.bytes ≤ 1000000)
    (hl : ∀ w' : World, w'.heap = w.heap → (Builtin.lenOf x').run P w' = .ok n w')
    (ho : ∀ w' : World, w'.heap = w.heap → (Builtin.firstCells i.size m (.slice base m sCap)).run P w' = .ok ⟨Lo⟩ w')
    (hnw : ∀ w' : World, w'.heap = w.heap → (Builtin.firstCells i.size n x').run P w' = .ok ⟨Ln⟩ w') (hne : ¬ m + n ≤ sCap) :
    ∃ (k : Nat) (rest : List Value) (w' : World), m + n ≤ k ∧ (Builtin.append_ #[t, t2] ty #[.slice base m sCap, x']).run P w = .ok (.slice (some ⟨w.heap.size, 0, none⟩) (m + n) k) w' ∧
      Grew w w' ⟨Lo ++ Ln ++ rest⟩ e ∧ rest.length = (k - (m + n)) * z.cells.size := by
  have hti : ∀ w', (typeInfo e).run P w' = .ok i w' := fun w' => by simp [typeInfo, hi]
  have hso : ∀ w', (sizeOf e).run P w' = .ok i.size w' := fun w' => by simp [sizeOf, typeInfo, hi]
  have hzv : ∀ w', (zeroValue e).run P w' = .ok z w' := fun w' => by simp [zeroValue, typeInfo, hi, hz]
  obtain ⟨d2, hd2, hd3⟩ : ∃ d2, P.underlying t2 = some d2 ∧ (∀ k, d2 ≠ .int k) := by
    unfold isIntT at h2
    cases hd : P.underlying t2 with
    | none => simp [hd] at h2
    | some d => exact ⟨d, rfl, by rintro k rfl; simp [hd] at h2⟩
  let need := m + n
  let k : Nat := Question.cut (.appendCap (m + n) sCap e) (w.tape w.drawn (.appendCap (m + n) sCap e))
  have hk : m + n ≤ k := by show m + n ≤ (m + n) + _; omega
  let rest : Array Value := Builtin.zeroCells z.cells (k - (m + n))
  have hch : (choose (.appendCap (m + n) sCap e)).run P w = .ok k { w with drawn := w.drawn + 1 } := by
    simp [choose, Sem.run, Question.forced, k]
  have c1 : ¬ (((m + n : Nat) : Int) > IntKind.i64.max ∧ i.bytes = 0) := by rw [IntKind.max_i64]; omega
  have c2 : ¬ (Builtin.nextslicecap (m + n) sCap * i.bytes > 2 ^ 48) := by
    have := nextcap_le (need := m + n) (old := sCap) (by omega) (by omega)
    have := Nat.mul_le_mul this hb
    omega
  have r0 : ∀ (q : Nat) (w' : World), (askRoom q).run P w' = .ok () w' := by intro q w'; unfold askRoom; split <;> rfl
  refine ⟨k, rest.toList, { w with heap := w.heap.push (.cells ⟨Lo ++ Ln ++ rest.toList⟩ e), drawn := w.drawn + 1 }, hk, ?_, ⟨rfl, rfl, rfl, rfl⟩, by simp [rest, Builtin.zeroCells]⟩
  have hl0 := hl w rfl
  have ho0 := ho { w with drawn := w.drawn + 1 } rfl
  have hn0 := hnw { w with drawn := w.drawn + 1 } rfl
  have hrow : (⟨Lo⟩ : Array Value) ++ ⟨Ln⟩ ++ rest = ⟨Lo ++ Ln ++ rest.toList⟩ := by apply Array.ext'; simp
  cases d2 <;> first | exact absurd rfl (hd3 _) | skip
  all_goals
    simp only [Builtin.append_, List.getElem?_toArray, List.getElem?_cons_zero, List.getElem?_cons_succ, Sem.run_bind, run_underlying hu, run_underlying hd2, Result.andThen_ok, hso]
    simp only [Bool.false_eq_true, if_false, Sem.run_bind, hl0, Result.andThen_ok, hne, hti, false_or, c1, c2, hch, r0, ho0, hn0, hzv, Bool.not_false, if_true, Sem.run_pure, newRow, newObj]
    simp only [Sem.run]
    rw [hrow]
    rfl

/-- append finds room -/
theorem stay_run {t t2 e ty : TypeId} {size : Nat} (hu : P.underlying t = some (.slice e)) (hs : sizeA P e = some size) (h2 : isIntT P t2 = false)
    {base : Option Addr} {m sCap n : Nat} {x' : Value} {Ln : List Value} (hl : (Builtin.lenOf x').run P w = .ok n w)
    (hnw : (Builtin.firstCells size n x').run P w = .ok ⟨Ln⟩ w) (hne : m + n ≤ sCap) {w' : World}
    (hst : ∀ a, base = some a → (storeCells (a.add (m * size)) Ln).run P w = .ok () w') (hno : base = none → w' = w) :
    (Builtin.append_ #[t, t2] ty #[.slice base m sCap, x']).run P w = .ok (.slice base (m + n) sCap) w' := by
  obtain ⟨d2, hd2, hd3⟩ : ∃ d2, P.underlying t2 = some d2 ∧ (∀ k, d2 ≠ .int k) := by
    unfold isIntT at h2
    cases hd : P.underlying t2 with
    | none => simp [hd] at h2
    | some d => exact ⟨d, rfl, by rintro k rfl; simp [hd] at h2⟩
  cases base with
  | none =>
    obtain rfl := hno rfl
    cases d2 <;> first | exact absurd rfl (hd3 _) | skip
    all_goals
      simp only [Builtin.append_, List.getElem?_toArray, List.getElem?_cons_zero, List.getElem?_cons_succ, Sem.run_bind, run_underlying hu, run_underlying hd2, Result.andThen_ok, sizeA_some hs]
      simp only [Bool.false_eq_true, if_false, Sem.run_bind, hl, Result.andThen_ok, hne, hnw, Bool.not_false, if_true, Sem.run_pure]
  | some a =>
    have hst := hst a rfl
    cases d2 <;> first | exact absurd rfl (hd3 _) | skip
    all_goals
      simp only [Builtin.append_, List.getElem?_toArray, List.getElem?_cons_zero, List.getElem?_cons_succ, Sem.run_bind, run_underlying hu, run_underlying hd2, Result.andThen_ok, sizeA_some hs]
      simp only [Bool.false_eq_true, if_false, Sem.run_bind, hl, Result.andThen_ok, hne, hnw, Bool.not_false, if_true, Sem.run_pure, hst]

/-- a new row of the machine's own -/
theorem rowA_sound (R : HR P B ρ h w.heap) {Lo Ln rest : List Value} {cs : List Value} {e : TypeId} {m k size : Nat} {w' : World} (hg : Grew w w' ⟨Lo ++ Ln ++ rest⟩ e) (hv : VRs ρ cs (Lo ++ Ln)) (hs : sizeA P e = some size)
    (hlen : cs.length = m * size) (hrest : rest.length = (k - m) * size) (hk : m ≤ k) (fs : List AF) :
    ∃ ρ', Eff P B ρ h w fs ρ' (rowA h cs e m).2 w' ∧ VR ρ' (rowA h cs e m).1 (.slice (some ⟨w.heap.size, 0, none⟩) m k) := by
  have hn := R.n
  have hll := hv.length
  have R1 := R.push (.cells cs e (7777777, 0)) rfl (.cells ⟨Lo ++ Ln ++ rest⟩ e) (.cells cs e (7777777, 0) 0 _ _ (.inl rfl) (fun h => absurd rfl h) (fun o v ho => by
    obtain ⟨v', h1, h2⟩ := (hv.mono (le.app ρ [some (w.heap.size, 0)])).get o v ho
    refine ⟨v', ?_, h2⟩
    have hlt : o < (Lo ++ Ln).length := (List.getElem?_eq_some_iff.1 h1).1
    rw [Nat.zero_add, ← Array.getElem?_toList]
    show (Lo ++ Ln ++ rest)[o]? = some v'
    rw [List.getElem?_append_left hlt]
    exact h1))
  have e1 : (ρ ++ [some (w.heap.size, 0)])[h.n]? = some (some (w.heap.size, 0)) := by
    rw [List.getElem?_append_right (by omega)]; simp [hn]
  have R2 := R1.giveRoom w.heap.size 0 k h.n rfl e1 (fun cs' e' own' g' => by
    rcases H.get_push g' with ⟨_, hq⟩ | ⟨hl, _⟩
    · cases hq
      refine ⟨_, _, by rw [Array.getElem?_push, if_pos rfl], fun z hz => ?_⟩
      rw [hs] at hz
      cases hz
      have hkm : k * size = (k - m) * size + m * size := by rw [← Nat.add_mul]; congr 1; omega
      simp only [List.length_append] at hll
      show 0 + k * size ≤ (Lo ++ Ln ++ rest).length
      simp only [List.length_append]
      omega
    · omega)
  rw [← hg.heap] at R2
  refine ⟨ρ ++ [some (w.heap.size, 0)] ++ [some (w.heap.size, k)], ⟨(le.app _ _).trans (le.app _ _), R2, ?_, ?_, ?_, by simp [rowA, H.push]; omega⟩, ?_⟩
  · refine ⟨hg.os, hg.tape, hg.output, by rw [hg.heap]; simp, fun i hi => ?_⟩
    rw [hg.heap, Array.getElem?_push, if_neg (by have := R.base; omega)]
  · intro b hb
    have hlt : b < ρ.length := by
      rcases Nat.lt_or_ge b ρ.length with hl | hl
      · exact hl
      · rw [List.getElem?_eq_none hl] at hb; cases hb
    rw [app_lt (by simp; omega), app_lt hlt]; exact hb
  · intro b o _ hb
    have := H.get_lt hb
    show ((h.push _).push _).get b = _
    rw [H.get_push_lt (by simp [H.push]; omega), H.get_push_lt this]; exact hb
  · refine .sliceW h.n w.heap.size 0 m k ?_ ?_ hk
    · rw [app_lt (by simp; omega)]; exact e1
    · rw [List.getElem?_append_right (by simp; omega)]
      simp [hn]

end Go.Sim

/- The abstract machine: append and copy, whole. -/
namespace Go.Sim
open Go.RowKit
set_option linter.unusedVariables false
set_option linter.unusedSimpArgs false
set_option linter.unusedSectionVars false
variable [Ev]

variable {P : Program} {B : Nat} {ρ : Map} {h : H} {w : World}

theorem HR.at (R : HR P B ρ h w.heap) {w' : World} (e : w'.heap = w.heap) : HR P B ρ h w'.heap := by rw [e]; exact R

theorem takeAll {l : List Value} {n : Nat} (h : l.length = n) : l.take n = l := List.take_of_length_le (by omega)

/-- a slice's own cells -/
theorem sliceCells (R : HR P B ρ h w.heap) {b o m c : Nat} {x' : Value} {cs old : List Value} {e : TypeId} {own : Nat × Nat} {size : Nat} (hx : VR ρ (.slice (some ⟨b, o, none⟩) m c) x')
    (g : h.get b = some (.cells cs e own)) (hq : takeX (m * size) (cs.drop o) = some old) :
    ∃ L, (∀ w' : World, w'.heap = w.heap → (Builtin.firstCells size m x').run P w' = .ok ⟨L⟩ w') ∧ VRs ρ old L ∧ old.length = m * size := by
  have e1 : srcA h size (.slice (some ⟨b, o, none⟩) m c) = some (m, old) := by simp [srcA, g, rowOf, hq]
  obtain ⟨_, h2, h3⟩ := srcA_sound R e1 hx
  obtain ⟨L, k1, k2⟩ := h3 m (Nat.le_refl _)
  exact ⟨L, k1, by rwa [takeAll h2] at k2, h2⟩

theorem putArr_get : ∀ (vs : List Value) (c : Array Value) (o i : Nat), i < o ∨ o + vs.length ≤ i → (putArr c o vs)[i]? = c[i]?
  | [], c, o, i, _ => rfl
  | v :: vs, c, o, i, h => by
    simp only [putArr]
    simp only [List.length_cons] at h
    rw [putArr_get vs _ _ _ (by omega), Array.getElem?_setIfInBounds, if_neg (by omega)]

theorem putArr_new : ∀ (vs : List Value) (c : Array Value) (o j : Nat) (v : Value), vs[j]? = some v → o + j < c.size → (putArr c o vs)[o + j]? = some v
  | [], c, o, j, v, h, _ => by simp at h
  | u :: vs, c, o, 0, v, h, hs => by
    simp at h
    subst h
    simp only [putArr, Nat.add_zero]
    rw [putArr_get vs _ _ _ (by omega)]
    simp [Array.getElem?_setIfInBounds]; omega
  | u :: vs, c, o, j + 1, v, h, hs => by
    simp only [putArr]
    rw [show o + (j + 1) = (o + 1) + j from by omega]
    exact putArr_new vs _ (o + 1) j v (by simpa using h) (by simp; omega)

theorem appZ_run {t t2 e ty : TypeId} {i : TypeInfo} {z : Value} {k2 k1 : IntKind} (hu : P.underlying t = some (.slice e)) (hd2 : P.underlying t2 = some (.int k2)) (hi : P.info? e = some i) (hz : i.zero = some z)
    {n : Nat} (hn : n ≤ 65536) (hp : 0 < n) (hb : i.bytes ≤ 1000000) (hs : 0 < i.size) :
    ∃ (k : Nat) (rest : List Value) (w' : World), n ≤ k ∧ (Builtin.append_ #[t, t2] ty #[.slice none 0 0, .int k1 (n : Int)]).run P w = .ok (.slice (some ⟨w.heap.size, 0, none⟩) n k) w' ∧
      Grew w w' ⟨[] ++ (Builtin.zeroCells z.cells n).toList ++ rest⟩ e ∧ rest.length = (k - n) * z.cells.size := by
  have hti : ∀ w', (typeInfo e).run P w' = .ok i w' := fun w' => by simp [typeInfo, hi]
  have hso : ∀ w', (sizeOf e).run P w' = .ok i.size w' := fun w' => by simp [sizeOf, typeInfo, hi]
  have hzv : ∀ w', (zeroValue e).run P w' = .ok z w' := fun w' => by simp [zeroValue, typeInfo, hi, hz]
  let k : Nat := Question.cut (.appendCap n 0 e) (w.tape w.drawn (.appendCap n 0 e))
  have hk : n ≤ k := by show n ≤ n + _; omega
  let rest : Array Value := Builtin.zeroCells z.cells (k - n)
  have hch : (choose (.appendCap n 0 e)).run P w = .ok k { w with drawn := w.drawn + 1 } := by
    simp [choose, Sem.run, Question.forced, k]
  have hw : IntKind.i64.wrap (n : Int) = (n : Int) := i64_small (by omega)
  have c0 : ¬ ((n : Int) < 0) := by omega
  have cb : n * i.bytes ≤ 65536 * 1000000 := Nat.mul_le_mul hn hb
  have c1 : ¬ ((n : Int) * (i.bytes : Int) > 2 ^ 48) := by
    have h1 : ((n * i.bytes : Nat) : Int) ≤ ((65536 * 1000000 : Nat) : Int) := Int.ofNat_le.2 cb
    rw [Int.natCast_mul n i.bytes] at h1
    omega
  have c2 : ¬ ((n : Int) > IntKind.i64.max) := by rw [IntKind.max_i64]; omega
  have c3 : ¬ (Builtin.nextslicecap n 0 * i.bytes > 2 ^ 48) := by
    have := nextcap_le (need := n) (old := 0) (by omega) (by omega)
    have := Nat.mul_le_mul this hb
    omega
  have c4 : ¬ (n ≤ 0) := by omega
  have c5 : ¬ (n * i.size = 0) := by
    have := Nat.mul_pos hp hs
    omega
  have r0 : ∀ (q : Nat) (w' : World), (askRoom q).run P w' = .ok () w' := by intro q w'; unfold askRoom; split <;> rfl
  refine ⟨k, rest.toList, { w with heap := w.heap.push (.cells ⟨[] ++ (Builtin.zeroCells z.cells n).toList ++ rest.toList⟩ e), drawn := w.drawn + 1 }, hk, ?_, ⟨rfl, rfl, rfl, rfl⟩, by simp [rest, Builtin.zeroCells]⟩
  have hrow : (#[] : Array Value) ++ Builtin.zeroCells z.cells n ++ rest = ⟨[] ++ (Builtin.zeroCells z.cells n).toList ++ rest.toList⟩ := by apply Array.ext'; simp
  have ho0 : ∀ w', (Builtin.firstCells i.size 0 (.slice none 0 0)).run P w' = .ok #[] w' := fun w' => rfl
  simp only [Builtin.append_, List.getElem?_toArray, List.getElem?_cons_zero, List.getElem?_cons_succ, Sem.run_bind, run_underlying hu, run_underlying hd2, Result.andThen_ok, hso, Sem.run_pure]
  simp only [if_true, asInt, asIntOf, Sem.run_bind, Sem.run_pure, Result.andThen_ok, hw, c0, if_false, hti, c1, Int.toNat_natCast, Nat.zero_add, c4, c2, false_and, c3, hch, r0, ho0, Bool.not_true, Bool.false_eq_true, c5, hzv, newRow, newObj]
  simp only [Sem.run]
  rw [hrow]
  rfl

theorem appZT_sound (R : HR P B ρ h w.heap) (fs : List AF) {t t2 ty : TypeId} {s s' x x' : Value} {q : List Value × TypeId × Nat} (e : appZT P [t, t2] s x = some q) (hs : VR ρ s s') (hx : VR ρ x x') :
    ∃ v' w' ρ', (Builtin.append_ #[t, t2] ty #[s', x']).run P w = .ok v' w' ∧ Eff P B ρ h w fs ρ' (rowA h q.1 q.2.1 q.2.2).2 w' ∧ VR ρ' (rowA h q.1 q.2.1 q.2.2).1 v' := by
  unfold appZT at e
  split at e <;> try (cases e; done)
  rename_i t0 t20 n hts hnat
  cases hts
  split at e <;> try (cases e; done)
  rename_i el k2 hu hd2
  split at e <;> try (cases e; done)
  rename_i i hi
  split at e <;> try (cases e; done)
  rename_i z hz
  cases hc : (Nat.ble n 65536 && Nat.blt 0 n && Nat.ble i.bytes 1000000 && Nat.blt 0 i.size && Nat.beq (constOf z).cells.size i.size && allCell (constOf z).cells.toList) <;> rw [hc] at e <;> simp only [cond_true, cond_false] at e <;> cases e
  simp only [Bool.and_eq_true] at hc
  obtain ⟨⟨⟨⟨⟨c1, c2⟩, c3⟩, c4⟩, c5⟩, c6⟩ := hc
  have c1 := Nat.le_of_ble_eq_true c1
  have c2 : 0 < n := Nat.le_of_ble_eq_true c2
  have c3 := Nat.le_of_ble_eq_true c3
  have c4 : 0 < i.size := Nat.le_of_ble_eq_true c4
  have c5 := Nat.eq_of_beq_eq_true c5
  obtain ⟨k1, rfl⟩ := natOf_rel hnat hx
  have hnb := notBad_of (constOf_rel ρ z) c6
  have hzc := cells_rel (constOf_rel ρ z) hnb
  have hlen : z.cells.size = i.size := by rw [← c5]; simpa using hzc.length.symm
  have hsz : sizeA P el = some i.size := by simp [sizeA, hi]
  cases hs
  obtain ⟨k, rest, w', hk, hrun, hg, hr⟩ := appZ_run (w := w) (ty := ty) (k1 := k1) hu hd2 hi hz c1 c2 c3 c4
  have hrel : VRs ρ (repl n (constOf z).cells.toList) ([] ++ (Builtin.zeroCells z.cells n).toList) := by
    rw [List.nil_append]
    exact zeros_rel hnb
  obtain ⟨ρ', E, hv⟩ := rowA_sound R hg hrel hsz (by rw [repl_length]; congr 1) (by rw [hr, hlen]) hk fs
  exact ⟨_, w', ρ', hrun, E, hv⟩

set_option maxHeartbeats 1000000 in
theorem appendA_sound (R : HR P B ρ h w.heap) {fs : List AF} {t t2 ty : TypeId} {s s' x x' v : Value} {h' : H} (e : appendA P h fs [t, t2] s x = some (v, h')) (hs : VR ρ s s') (hx : VR ρ x x') :
    ∃ v' w' ρ', (Builtin.append_ #[t, t2] ty #[s', x']).run P w = .ok v' w' ∧ Eff P B ρ h w fs ρ' h' w' ∧ VR ρ' v v' := by
  simp only [appendA] at e
  cases h2 : isIntT P t2 <;> rw [h2] at e <;> simp only [cond_true, cond_false] at e
  case true =>
    cases hq : appZT P [t, t2] s x with
    | none => rw [hq] at e; cases e
    | some q =>
      rw [hq] at e
      cases e
      exact appZT_sound R fs hq hs hx
  split at e <;> try (cases e; done)
  rename_i el hu
  split at e <;> try (cases e; done)
  rename_i i hi
  split at e <;> try (cases e; done)
  rename_i n new hsrc
  cases hc : appOk i n new <;> rw [hc] at e <;> simp only [Bool.not_true, Bool.not_false, cond_true, cond_false] at e
  case false => cases e
  unfold appOk at hc
  cases hz : i.zero with
  | none => simp [hz] at hc
  | some z =>
    simp only [hz, Bool.and_eq_true, Nat.ble_eq] at hc
    obtain ⟨⟨⟨c1, c2⟩, c3⟩, c4⟩ := hc
    have c3 := Nat.eq_of_beq_eq_true c3
    have hsz : sizeA P el = some i.size := by simp [sizeA, hi]
    obtain ⟨l1, l2, l3⟩ := srcA_sound R hsrc hx
    obtain ⟨Ln, l4, l5⟩ := l3 n (Nat.le_refl _)
    rw [takeAll l2] at l5
    have hLn := l5.length
    split at e
    · -- nil
      cases hs
      cases hn : Nat.beq n 0 <;> rw [hn] at e <;> simp only [cond_true, cond_false] at e
      · have hn0 : n ≠ 0 := by intro h; rw [h] at hn; simp at hn
        obtain ⟨k, rest, w', k1, k2, k3, k4⟩ := grow_run (w := w) (ty := ty) (base := none) (m := 0) (sCap := 0) (Lo := []) hu hi hz h2 (by omega) c1 c2 (fun w' _ => l1 w') (fun w' _ => by rfl) l4 (by omega)
        rw [c3, Nat.zero_add] at k4
        rw [Nat.zero_add] at k1 k2
        obtain ⟨ρ', q1, q2⟩ := rowA_sound R (Lo := []) k3 (by simpa using l5) hsz l2 k4 k1 fs
        cases e
        exact ⟨_, w', ρ', k2, q1, q2⟩
      · have hn0 : n = 0 := Nat.eq_of_beq_eq_true hn
        cases e
        subst hn0
        have := stay_run (P := P) (w := w) (ty := ty) (base := none) (m := 0) (sCap := 0) (w' := w) hu hsz h2 (l1 w) (l4 w rfl) (Nat.le_refl _) (fun a ha => by cases ha) (fun _ => rfl)
        exact ⟨_, w, ρ, this, Eff.refl R fs, .sliceN 0 0⟩
    · rename_i b o m c
      cases g : h.get b with
      | none => simp [g] at e
      | some ob =>
        cases ob <;> simp only [g] at e <;> try (cases e; done)
        rename_i cs e' own
        cases hq : takeX (m * i.size) (cs.drop o) with
        | none => simp [hq] at e
        | some old =>
          simp only [hq] at e
          cases hmo : Nat.ble m 1000000 && allCell old <;> rw [hmo] at e <;> simp only [Bool.not_true, Bool.not_false, cond_true, cond_false] at e
          case false => cases e
          simp only [Bool.and_eq_true, Nat.ble_eq] at hmo
          obtain ⟨m1, m2⟩ := hmo
          obtain ⟨Lo, o1, o2, o3⟩ := sliceCells R hs g hq
          have hLo := o2.length
          cases hw : Nat.beq c unk2 <;> rw [hw] at e <;> simp only [cond_true, cond_false] at e
          · cases hcU : isU c <;> rw [hcU] at e <;> simp only [cond_true, cond_false] at e
            case true =>
              cases hcc : Nat.ble 1 (lbC m c) && Nat.ble (m + n) (lbC m c) && Nat.ble (o + (m + n) * i.size) cs.length && freeOf b fs <;> rw [hcc] at e <;> simp only [cond_true, cond_false] at e
              case false => cases e
              simp only [Bool.and_eq_true, Nat.ble_eq] at hcc
              obtain ⟨⟨⟨g0, g1⟩, g2⟩, g3⟩ := hcc
              have hs0 := hs
              obtain ⟨r, d, c', p, hb, ⟨_, hlb1, hlb2⟩, hp, rfl⟩ := hs.uslice hcU
              have hpd : p = d + o := by
                rcases hp with hp | ⟨_, h0⟩
                · exact hp
                · omega
              subst hpd
              cases e
              obtain ⟨w', k1, k2⟩ := write_sound R g hb l5 c4 (o + m * i.size) (by rw [l2]; have := g2; rw [Nat.add_mul] at this; omega) fs g3
              have := stay_run (P := P) (w := w) (ty := ty) (base := some ⟨r, d + o, none⟩) (m := m) (sCap := c') (w' := w') hu hsz h2 (l1 w) (l4 w rfl) (Nat.le_trans g1 hlb2)
                (fun a ha => by cases ha; rw [Addr.add_lit, Nat.add_assoc]; exact k1) (fun ha => by cases ha)
              refine ⟨_, w', ρ, this, k2, ?_⟩
              generalize hq : Value.slice (some ⟨b, o, none⟩) m c = q at hs0
              generalize hq2 : Value.slice (some ⟨r, d + o, none⟩) m c' = q2 at hs0
              cases hs0 <;> first | (cases hq; done) | skip
              case slice hb' hc' => cases hq; rw [hcU] at hc'; cases hc'
              case sliceU hb' hn' hp' =>
                cases hq
                rw [lbC_unk] at g1
                have : n = 0 := by omega
                subst this
                exact .sliceU _ _ _ _ _ _ _ hb (by omega) (.inl rfl)
              case sliceW => cases hq; cases hw
              case sliceK k hb' hn' hk' hp' =>
                cases hq
                rw [lbC_unkK] at g1 hlb2
                exact .sliceK _ _ _ _ _ _ _ _ hb g1 hlb2 (.inl rfl)
            obtain ⟨r, d, hb, rfl⟩ := hs.eslice hcU
            cases hle : Nat.ble (m + n) c <;> rw [hle] at e <;> simp only [cond_true, cond_false] at e
            · -- grown
              cases hcc : Nat.ble c 1000000 <;> rw [hcc] at e <;> simp only [cond_true, cond_false] at e
              case false => cases e
              cases e
              have hne : ¬ (m + n ≤ c) := by intro hh; rw [← Nat.ble_eq] at hh; rw [hh] at hle; cases hle
              obtain ⟨k, rest, w', k1, k2, k3, k4⟩ := grow_run (w := w) (ty := ty) (base := some ⟨r, d + o, none⟩) (m := m) (sCap := c) hu hi hz h2 m1 c1 c2 (fun w' _ => l1 w') o1 l4 hne
              rw [c3] at k4
              obtain ⟨ρ', q1, q2⟩ := rowA_sound R (cs := old ++ new) k3 (o2.append l5) hsz (by simp only [List.length_append]; rw [l2, o3, Nat.add_mul]) k4 k1 fs
              exact ⟨_, w', ρ', k2, q1, q2⟩
            · -- in place
              cases hcc : Nat.ble (o + (m + n) * i.size) cs.length && freeOf b fs <;> rw [hcc] at e <;> simp only [cond_true, cond_false] at e
              case false => cases e
              simp only [Bool.and_eq_true, Nat.ble_eq] at hcc hle
              cases e
              obtain ⟨w', k1, k2⟩ := write_sound R g hb l5 c4 (o + m * i.size) (by rw [l2]; have := hcc.1; rw [Nat.add_mul] at this; omega) fs hcc.2
              have := stay_run (P := P) (w := w) (ty := ty) (base := some ⟨r, d + o, none⟩) (m := m) (sCap := c) (w' := w') hu hsz h2 (l1 w) (l4 w rfl) hle
                (fun a ha => by cases ha; rw [Addr.add_lit, Nat.add_assoc]; exact k1) (fun ha => by cases ha)
              exact ⟨_, w', ρ, this, k2, .slice _ _ _ _ _ _ hb hcU⟩
          · have hcw : c = unk2 := Nat.eq_of_beq_eq_true hw
            subst hcw
            cases hcc : Nat.beq o 0 && Nat.beq el e' && freeOf b fs && roomAt h (b + 1) <;> rw [hcc] at e <;> simp only [cond_true, cond_false] at e
            case false => cases e
            simp only [Bool.and_eq_true] at hcc
            obtain ⟨⟨⟨g1, g2⟩, g3⟩, g4⟩ := hcc
            have g1 := Nat.eq_of_beq_eq_true g1
            have g2 := Nat.eq_of_beq_eq_true g2
            subst g1
            subst g2
            have hroom : h.get (b + 1) = some .room := by
              unfold roomAt at g4
              split at g4
              · assumption
              · cases g4
            cases e
            generalize hqs : Value.slice (some ⟨b, 0, none⟩) m unk2 = qs at hs
            cases hs <;> first | (cases hqs; done) | skip
            case slice hbad => cases hqs; cases hbad
            case sliceK kk _ _ _ _ => exfalso; injection hqs with _ _ hqs; exact unk2_unkK _ hqs
            case sliceW b0 r d m0 k hb hb' hn =>
              cases hqs
              obtain ⟨r1, d1, k', e1, e2, e3⟩ := R.room b hroom
              rw [hb] at e1
              simp at e1
              obtain ⟨rfl, rfl⟩ := e1
              rw [hb'] at e2
              simp at e2
              subst e2
              obtain ⟨c0, f0, f1, f2⟩ := e3 cs el own g
              have f3 := f2 i.size hsz
              obtain ⟨c1', f1', hw1, hf1, hh1⟩ := R.cellsOf g hb
              rw [f1] at hw1
              cases hw1
              have hkill : ∀ (hp' : Array Obj), hp'.size = w.heap.size → (∀ j, j ≠ r → hp'[j]? = w.heap[j]?) → HR P B ρ (h.set b .dead) hp' := fun hp' a1 a2 => R.kill b r d hb _ g rfl rfl hp' a1 a2
              have keepDead : ∀ b' o', fpIn fs b' → h.get b' = some o' → (h.set b .dead).get b' = some o' := by
                intro b' o' hfp hg'
                have : b' ≠ b := by rintro rfl; exact freeOf_spec g3 hfp
                rw [H.get_set_ne this]; exact hg'
              by_cases hle : m + n ≤ k
              · -- in place
                have hkn : (m + n) * i.size ≤ k * i.size := Nat.mul_le_mul_right _ hle
                rw [Nat.add_mul] at hkn
                obtain ⟨w', k1, k2⟩ := run_storeCells (P := P) r (d + m * i.size) Ln 0 w c0 el f0 f1 hf1 (fun j hj => by omega) (allCell_flat l5 c4)
                have hrun := stay_run (P := P) (w := w) (ty := ty) (base := some ⟨r, d, none⟩) (m := m) (sCap := k) (w' := w') hu hsz h2 (l1 w) (l4 w rfl) hle
                  (fun a ha => by cases ha; rw [Addr.add_lit]; exact k1) (fun ha => by cases ha)
                rw [Nat.add_zero] at k2
                have R1 := hkill w'.heap k2.size k2.other
                have hn1 : (h.set b .dead).n = h.n := rfl
                have hrn := R.n
                have win : ∀ ρ', le ρ ρ' → OR ρ' (.cells (old ++ new) el (7777777, 0)) d w'.heap[r]? := by
                  intro ρ' hle'
                  rw [k2.here]
                  refine .cells _ _ _ _ _ _ (by rw [putArr_size]; exact hf1) (fun h => absurd rfl h) ?_
                  intro j v hj
                  rcases Nat.lt_or_ge j (m * i.size) with hlt | hge
                  · rw [List.getElem?_append_left (by omega)] at hj
                    have hjc : cs[j]? = some v := by
                      obtain ⟨rfl, _⟩ := takeX_spec _ _ _ hq
                      rw [List.getElem?_take, if_pos hlt] at hj
                      simpa using hj
                    obtain ⟨v', q1, q2⟩ := hh1 j v hjc
                    exact ⟨v', by rw [putArr_get _ _ _ _ (by omega)]; exact q1, q2.mono hle'⟩
                  · rw [List.getElem?_append_right (by omega)] at hj
                    rw [o3] at hj
                    obtain ⟨v', q1, q2⟩ := l5.get _ _ hj
                    have hlt' : j - m * i.size < Ln.length := (List.getElem?_eq_some_iff.1 q1).1
                    refine ⟨v', ?_, q2.mono hle'⟩
                    have := putArr_new Ln c0 (d + m * i.size) (j - m * i.size) v' q1 (by omega)
                    rwa [show d + m * i.size + (j - m * i.size) = d + j from by omega] at this
                have R2 := R1.name (.cells (old ++ new) el (7777777, 0)) rfl r d ⟨R.low b _ r d g rfl hb, by have := R.lt b r d hb; rw [k2.size]; exact this⟩
                  (fun b' o' d' hg' hl' hr' => by
                    rcases H.get_set hg' with ⟨_, rfl⟩ | ⟨hne, hg'⟩
                    · cases hl'
                    · exact hne (R.inj b' b _ _ r d' d hg' hl' g rfl hr' hb)) (win _ (le.app _ _))
                have e1 : (ρ ++ [some (r, d)])[h.n]? = some (some (r, d)) := by
                  rw [List.getElem?_append_right (by omega)]; simp [hrn]
                have R3 := R2.giveRoom r d k h.n rfl e1 (fun cs' e' own' g' => by
                  rcases H.get_push g' with ⟨_, hqq⟩ | ⟨hl, _⟩
                  · cases hqq
                    refine ⟨_, _, k2.here, fun z' hz' => ?_⟩
                    rw [hsz] at hz'
                    cases hz'
                    rw [putArr_size]
                    exact f3
                  · exact absurd hl (Nat.lt_irrefl _))
                refine ⟨_, w', ρ ++ [some (r, d)] ++ [some (r, k)], hrun, ⟨(le.app _ _).trans (le.app _ _), R3, k2.below (R.low b _ r d g rfl hb), ?_, ?_, by simp [rowA, H.push, H.set]; omega⟩, ?_⟩
                · intro b' hb'
                  have hlt : b' < ρ.length := by
                    rcases Nat.lt_or_ge b' ρ.length with hl | hl
                    · exact hl
                    · rw [List.getElem?_eq_none hl] at hb'; cases hb'
                  rw [app_lt (by simp; omega), app_lt hlt]; exact hb'
                · intro b' o' hfp hg'
                  have hk' := keepDead b' o' hfp hg'
                  have := H.get_lt hg'
                  show (((h.set b .dead).push _).push _).get b' = _
                  rw [H.get_push_lt (by simp [H.push, H.set]; omega), H.get_push_lt (by simp [H.set]; omega)]; exact hk'
                · refine .sliceW h.n r d (m + n) k ?_ ?_ hle
                  · rw [app_lt (by simp; omega)]; exact e1
                  · rw [List.getElem?_append_right (by simp; omega)]
                    simp [hrn]
              · -- grown
                obtain ⟨k', rest, w', k1, k2, k3, k4⟩ := grow_run (w := w) (ty := ty) (base := some ⟨r, d, none⟩) (m := m) (sCap := k) hu hi hz h2 m1 c1 c2 (fun w' _ => l1 w') o1 l4 hle
                rw [c3] at k4
                have R1 := hkill w.heap rfl (fun _ _ => rfl)
                obtain ⟨ρ', q1, q2⟩ := rowA_sound R1 (cs := old ++ new) k3 (o2.append l5) hsz (by simp only [List.length_append]; rw [l2, o3, Nat.add_mul]) k4 k1 fs
                exact ⟨_, w', ρ', k2, ⟨q1.le, q1.hr, q1.below, q1.none, fun b' o' hfp hg' => q1.keep b' o' hfp (keepDead b' o' hfp hg'), q1.n⟩, q2⟩
    · cases e

theorem copyA_sound (R : HR P B ρ h w.heap) {fs : List AF} {ts : Array TypeId} {ty : TypeId} {s s' x x' v : Value} {h' : H} (e : copyA P h fs ts.toList s x = some (v, h')) (hs : VR ρ s s') (hx : VR ρ x x') :
    ∃ v' w', (Builtin.copy_ ts ty #[s', x']).run P w = .ok v' w' ∧ Eff P B ρ h w fs ρ h' w' ∧ VR ρ v v' := by
  unfold copyA at e
  split at e <;> try (cases e; done)
  rename_i t tl hts
  obtain ⟨ts⟩ := ts
  dsimp only at hts
  subst hts
  split at e <;> try (cases e; done)
  rename_i el hu
  split at e <;> try (cases e; done)
  rename_i size base m c hsz
  split at e <;> try (cases e; done)
  rename_i n new hsrc
  obtain ⟨l1, l2, l3⟩ := srcA_sound R hsrc hx
  obtain ⟨L, l4, l5⟩ := l3 (Nat.min n m) (Nat.min_le_left _ _)
  have l4 := l4 w rfl
  have l1 := l1 w
  dsimp only at e
  split at e
  · cases hk : Nat.beq (Nat.min n m) 0 <;> rw [hk] at e <;> simp only [cond_true, cond_false] at e <;> cases e
    have hk0 : Nat.min n m = 0 := Nat.eq_of_beq_eq_true hk
    cases hs
    refine ⟨goInt (Nat.min n m : Nat), w, ?_, Eff.refl R fs, .int _ _⟩
    simp only [Builtin.copy_, List.getElem?_toArray, List.getElem?_cons_zero, List.getElem?_cons_succ, Sem.run_bind, run_underlying hu, Result.andThen_ok, sizeA_some hsz, l1, l4, Sem.run_pure]
  · rename_i b o
    split at e <;> try (cases e; done)
    rename_i vs cs el' own hv g
    cases hc : allCell vs && Nat.ble (o + Nat.min n m * size) cs.length && freeOf b fs <;> rw [hc] at e <;> simp only [cond_true, cond_false] at e <;> cases e
    simp only [Bool.and_eq_true, Nat.ble_eq] at hc
    obtain ⟨⟨c1, c2⟩, c3⟩ := hc
    obtain ⟨rfl, hl⟩ := takeX_spec _ _ _ hv
    obtain ⟨r, d, c', p, hb, hp, rfl⟩ := hs.rslice
    have hlen : (new.take (Nat.min n m * size)).length = Nat.min n m * size := by simp only [List.length_take]; omega
    have hLL := l5.length
    obtain ⟨w', k1, k2⟩ := write_sound R g hb l5 c1 o (by omega) fs c3
    have hst : (storeCells ⟨r, p, none⟩ L).run P w = .ok () w' := by
      rcases hp with rfl | ⟨rfl, rfl⟩
      · exact k1
      · have h0 : Nat.min n 0 = 0 := Nat.min_zero n
        rw [h0, Nat.zero_mul, List.take_zero, List.length_nil] at hLL
        have : L = [] := List.eq_nil_of_length_eq_zero (by omega)
        subst this
        simp [storeCells] at k1 ⊢
        exact k1
    refine ⟨goInt (Nat.min n m : Nat), w', ?_, k2, .int _ _⟩
    simp only [Builtin.copy_, List.getElem?_toArray, List.getElem?_cons_zero, List.getElem?_cons_succ, Sem.run_bind, run_underlying hu, Result.andThen_ok, sizeA_some hsz, l1, l4, hst, Sem.run_pure]
  · cases e

end Go.Sim

/- The abstract machine: words of unknown bits. -/
namespace Go.Sim
open Go.RowKit
set_option linter.unusedVariables false
set_option linter.unusedSimpArgs false
set_option linter.unusedSectionVars false
variable [Ev]

noncomputable def term (e : Nat) : Nat := bif monoB (e / 32) then 2 ^ (e % 32) else 0
theorem wval_cons (e : Nat) (l : List Nat) : wval (e :: l) = term e ^^^ wval l := rfl
theorem wval_nil : wval [] = 0 := rfl
theorem wval_ins (e : Nat) : ∀ l, wval (insX e l) = term e ^^^ wval l
  | [] => rfl
  | a :: l => by
    show wval (Bool.rec (motive := fun _ => List Nat) (Bool.rec (motive := fun _ => List Nat) (e :: a :: l) (a :: insX e l) (Nat.ble a e)) l (Nat.beq e a)) = _
    cases h : Nat.beq e a
    · cases h2 : Nat.ble a e
      · rfl
      · show wval (a :: insX e l) = _
        rw [wval_cons, wval_ins e l, wval_cons, ← Nat.xor_assoc, Nat.xor_comm (term a), Nat.xor_assoc]
    · have := Nat.eq_of_beq_eq_true h
      subst this
      rw [wval_cons, ← Nat.xor_assoc, Nat.xor_self, Nat.zero_xor]
theorem wval_xor : ∀ f g, wval (xorW f g) = wval f ^^^ wval g
  | [], g => (Nat.zero_xor _).symm
  | e :: f, g => by
    show wval (insX e (xorW f g)) = _
    rw [wval_ins, wval_xor f g, wval_cons, Nat.xor_assoc]

theorem mono_true (m : Nat) : monoB m = true ↔ ∀ v, m.testBit v = true → 1 ≤ Ev.val (64 + v) := by
  unfold monoB
  exact @decide_eq_true_iff _ (Classical.propDecidable _)
theorem mono_zero : monoB 0 = true := (mono_true 0).2 fun v h => by simp at h
theorem mono_or (a b : Nat) : monoB (a ||| b) = (monoB a && monoB b) := by
  rw [Bool.eq_iff_iff, Bool.and_eq_true, mono_true, mono_true, mono_true]
  constructor
  · intro h
    exact ⟨fun v hv => h v (by rw [Nat.testBit_or, hv]; rfl), fun v hv => h v (by rw [Nat.testBit_or, hv, Bool.or_true])⟩
  · rintro ⟨h1, h2⟩ v hv
    rw [Nat.testBit_or, Bool.or_eq_true] at hv
    exact hv.elim (h1 v) (h2 v)
theorem mono_pow (v : Nat) : monoB (2 ^ v) = decide (1 ≤ Ev.val (64 + v)) := by
  rw [Bool.eq_iff_iff, mono_true, decide_eq_true_iff]
  constructor
  · exact fun h => h v (by rw [Nat.testBit_two_pow]; simp)
  · intro h u hu
    rw [Nat.testBit_two_pow] at hu
    simp at hu
    subst hu
    exact h
theorem term_bit (e j : Nat) : (term e).testBit j = (monoB (e / 32) && decide (e % 32 = j)) := by
  unfold term
  cases monoB (e / 32)
  · simp
  · simp only [cond_true, Nat.testBit_two_pow, Bool.true_and]

theorem mulE_parts (a b : Nat) : mulE a b / 32 = (a / 32 ||| b / 32) ∧ mulE a b % 32 = a % 32 := by
  show ((a / 32 ||| b / 32) * 32 + a % 32) / 32 = _ ∧ ((a / 32 ||| b / 32) * 32 + a % 32) % 32 = _
  omega
theorem term_and (a b : Nat) : term a &&& term b = bif Nat.beq (a % 32) (b % 32) then term (mulE a b) else 0 := by
  apply Nat.eq_of_testBit_eq
  intro j
  rw [Nat.testBit_and, term_bit, term_bit]
  cases h : Nat.beq (a % 32) (b % 32)
  · have hne : a % 32 ≠ b % 32 := fun e => by rw [e, Nat.beq_refl] at h; cases h
    simp only [cond_false, Nat.zero_testBit]
    by_cases h1 : a % 32 = j
    · rw [decide_eq_false (show ¬ b % 32 = j from fun e => hne (h1.trans e.symm))]; simp
    · rw [decide_eq_false h1]; simp
  · have he := Nat.eq_of_beq_eq_true h
    simp only [cond_true]
    rw [term_bit, (mulE_parts a b).1, (mulE_parts a b).2, mono_or, ← he]
    cases monoB (a / 32) <;> cases monoB (b / 32) <;> cases decide (a % 32 = j) <;> rfl
theorem wval_andE (a : Nat) (acc : List Nat) : ∀ g, wval (andE a g acc) = (term a &&& wval g) ^^^ wval acc
  | [] => by rw [wval_nil, Nat.and_zero, Nat.zero_xor]; rfl
  | b :: g => by
    show wval (Bool.rec (motive := fun _ => List Nat) (andE a g acc) (insX (mulE a b) (andE a g acc)) (Nat.beq (a % 32) (b % 32))) = _
    rw [wval_cons, Nat.and_xor_distrib_left, term_and]
    cases h : Nat.beq (a % 32) (b % 32)
    · simp only [cond_false, Nat.zero_xor]
      exact wval_andE a acc g
    · simp only [cond_true]
      rw [wval_ins, wval_andE a acc g, Nat.xor_assoc]
theorem wval_and : ∀ f g, wval (andW f g) = wval f &&& wval g
  | [], g => (Nat.zero_and _).symm
  | a :: f, g => by
    show wval (andE a g (andW f g)) = _
    rw [wval_andE, wval_and f g, wval_cons, Nat.and_xor_distrib_right]
theorem wval_or (f g : List Nat) : wval (orW f g) = wval f ||| wval g := by
  unfold orW
  rw [wval_xor, wval_xor, wval_and]
  apply Nat.eq_of_testBit_eq
  intro j
  simp only [Nat.testBit_xor, Nat.testBit_and, Nat.testBit_or]
  cases (wval f).testBit j <;> cases (wval g).testBit j <;> rfl
theorem term_lt (e : Nat) : term e < 2 ^ 32 := by
  unfold term
  cases monoB (e / 32)
  · exact Nat.two_pow_pos 32
  · exact Nat.pow_lt_pow_right (by omega) (Nat.mod_lt _ (by omega))
theorem wval_lt : ∀ f, wval f < 2 ^ 32
  | [] => Nat.two_pow_pos 32
  | e :: f => Nat.xor_lt_two_pow (term_lt e) (wval_lt f)

theorem wval_const (n : Nat) : ∀ k, k ≤ 32 → wval (constW n k) = n % 2 ^ k
  | 0, _ => by rw [Nat.pow_zero, Nat.mod_one]; rfl
  | k + 1, hk => by
    have ih := wval_const n k (by omega)
    show wval (Bool.rec (motive := fun _ => List Nat) (constW n k) (insX k (constW n k)) (Nat.beq (n / 2 ^ k % 2) 1)) = _
    have hb : n.testBit k = Nat.beq (n / 2 ^ k % 2) 1 := by
      rw [Nat.testBit_eq_decide_div_mod_eq]
      cases h : Nat.beq (n / 2 ^ k % 2) 1
      · exact decide_eq_false fun e => by rw [e, Nat.beq_refl] at h; cases h
      · exact decide_eq_true (Nat.eq_of_beq_eq_true h)
    rw [← hb]
    apply Nat.eq_of_testBit_eq
    intro j
    rw [Nat.testBit_mod_two_pow]
    cases h : n.testBit k
    · show (wval (constW n k)).testBit j = _
      rw [ih, Nat.testBit_mod_two_pow]
      by_cases hj : j = k
      · subst hj; rw [h]; simp
      · rw [show decide (j < k) = decide (j < k + 1) from by congr 1; apply propext; omega]
    · show (wval (insX k (constW n k))).testBit j = _
      rw [wval_ins, ih, Nat.testBit_xor, term_bit, Nat.testBit_mod_two_pow]
      rw [show k / 32 = 0 from by omega, show k % 32 = k from by omega, mono_zero]
      by_cases hj : j = k
      · subst hj; rw [h]; simp
      · rw [show decide (j < k) = decide (j < k + 1) from by congr 1; apply propext; omega, decide_eq_false (show ¬ k = j from fun e => hj e.symm)]
        simp
theorem wval_var {i : Nat} (hi : i < 64) : ∀ k, k ≤ 32 → wval (varW i k) = (Ev.val i).toNat % 2 ^ k
  | 0, _ => by rw [Nat.pow_zero, Nat.mod_one]; rfl
  | k + 1, hk => by
    have ih := wval_var hi k (by omega)
    show wval (insX (2 ^ (32 * i + k) * 32 + k) (varW i k)) = _
    rw [wval_ins, ih]
    apply Nat.eq_of_testBit_eq
    intro j
    rw [Nat.testBit_xor, term_bit, Nat.testBit_mod_two_pow, Nat.testBit_mod_two_pow]
    rw [show (2 ^ (32 * i + k) * 32 + k) / 32 = 2 ^ (32 * i + k) from by omega, show (2 ^ (32 * i + k) * 32 + k) % 32 = k from by omega, mono_pow, Ev.bit i k hi (by omega)]
    by_cases hj : j = k
    · subst hj
      cases (Ev.val i).toNat.testBit j <;> simp
    · rw [show decide (j < k) = decide (j < k + 1) from by congr 1; apply propext; omega, decide_eq_false (show ¬ k = j from fun e => hj e.symm)]
      simp

theorem ble_dec (p n : Nat) : Nat.ble p n = decide (p ≤ n) := by
  cases h : Nat.ble p n
  · exact (decide_eq_false fun e => by rw [Nat.ble_eq_true_of_le e] at h; cases h).symm
  · exact (decide_eq_true (Nat.le_of_ble_eq_true h)).symm
theorem wval_hi (p j : Nat) : ∀ f, (wval (hiW p f)).testBit j = (decide (p ≤ j) && (wval f).testBit j)
  | [] => by show (0 : Nat).testBit j = (_ && (0 : Nat).testBit j); simp
  | e :: f => by
    show (wval (Bool.rec (motive := fun _ => List Nat) (hiW p f) (e :: hiW p f) (Nat.ble p (e % 32)))).testBit j = _
    rw [wval_cons, Nat.testBit_xor, term_bit, ble_dec]
    by_cases h : p ≤ e % 32
    · rw [decide_eq_true h]
      show (wval (e :: hiW p f)).testBit j = _
      rw [wval_cons, Nat.testBit_xor, wval_hi p j f, term_bit]
      by_cases h2 : e % 32 = j
      · rw [decide_eq_true (show p ≤ j by omega)]; simp
      · rw [decide_eq_false h2]; simp
    · rw [decide_eq_false h]
      show (wval (hiW p f)).testBit j = _
      rw [wval_hi p j f]
      by_cases h2 : p ≤ j
      · rw [decide_eq_false (show ¬ e % 32 = j by omega)]; simp
      · rw [decide_eq_false h2]; simp
theorem wval_lo (p j : Nat) : ∀ f, (wval (loW p f)).testBit j = (decide (j < p) && (wval f).testBit j)
  | [] => by show (0 : Nat).testBit j = (_ && (0 : Nat).testBit j); simp
  | e :: f => by
    show (wval (Bool.rec (motive := fun _ => List Nat) (e :: loW p f) (loW p f) (Nat.ble p (e % 32)))).testBit j = _
    rw [wval_cons, Nat.testBit_xor, term_bit, ble_dec]
    by_cases h : p ≤ e % 32
    · rw [decide_eq_true h]
      show (wval (loW p f)).testBit j = _
      rw [wval_lo p j f]
      by_cases h2 : j < p
      · rw [decide_eq_false (show ¬ e % 32 = j by omega)]; simp
      · rw [decide_eq_false h2]; simp
    · rw [decide_eq_false h]
      show (wval (e :: loW p f)).testBit j = _
      rw [wval_cons, Nat.testBit_xor, wval_lo p j f, term_bit]
      by_cases h2 : e % 32 = j
      · rw [decide_eq_true (show j < p by omega)]; simp
      · rw [decide_eq_false h2]; simp
theorem wval_shr (p j : Nat) : ∀ f, (wval (shrW p f)).testBit j = (wval f).testBit (j + p)
  | [] => by show (0 : Nat).testBit j = (0 : Nat).testBit (j + p); simp
  | e :: f => by
    show (wval (Bool.rec (motive := fun _ => List Nat) (shrW p f) ((e - p) :: shrW p f) (Nat.ble p (e % 32)))).testBit j = _
    rw [wval_cons, Nat.testBit_xor, term_bit, ble_dec]
    by_cases h : p ≤ e % 32
    · rw [decide_eq_true h]
      show (wval ((e - p) :: shrW p f)).testBit j = _
      rw [wval_cons, Nat.testBit_xor, wval_shr p j f, term_bit]
      rw [show (e - p) / 32 = e / 32 from by omega, show decide ((e - p) % 32 = j) = decide (e % 32 = j + p) from by congr 1; apply propext; omega]
    · rw [decide_eq_false h]
      show (wval (shrW p f)).testBit j = _
      rw [wval_shr p j f, decide_eq_false (show ¬ e % 32 = j + p by omega)]; simp
theorem wval_shr' (p : Nat) (f : List Nat) : wval (shrW p f) = wval f / 2 ^ p := by
  apply Nat.eq_of_testBit_eq
  intro j
  rw [wval_shr, Nat.testBit_div_two_pow]
theorem wval_lo' (p : Nat) (f : List Nat) : wval (loW p f) = wval f % 2 ^ p := by
  apply Nat.eq_of_testBit_eq
  intro j
  rw [wval_lo, Nat.testBit_mod_two_pow]
theorem wval_hi' (p : Nat) (f : List Nat) : (wval (hiW p f) = 0) ↔ wval f < 2 ^ p := by
  constructor
  · intro h
    apply Nat.lt_pow_two_of_testBit
    intro j hj
    have := wval_hi p j f
    rw [h, decide_eq_true (show p ≤ j from hj), Nat.zero_testBit, Bool.true_and] at this
    exact this.symm
  · intro h
    apply Nat.eq_of_testBit_eq
    intro j
    rw [wval_hi, Nat.zero_testBit]
    by_cases hj : p ≤ j
    · rw [Nat.testBit_lt_two_pow (Nat.lt_of_lt_of_le h (Nat.pow_le_pow_right (by omega) hj)), Bool.and_false]
    · rw [decide_eq_false hj]; rfl
theorem num_wval : ∀ {f : List Nat} {n : Nat}, numW f = some n → wval f = n
  | [], n, h => by cases h; rfl
  | e :: f, n, h => by
    have h' : Bool.rec (motive := fun _ => Option Nat) none (Option.rec (motive := fun _ => Option Nat) none (fun r => some (Nat.xor (Nat.pow 2 e) r)) (numW f)) (Nat.blt e 32) = some n := h
    cases hb : Nat.blt e 32
    · rw [hb] at h'; cases h'
    · rw [hb] at h'
      have he : e < 32 := Nat.le_of_ble_eq_true hb
      cases hr : numW f with
      | none => rw [hr] at h'; cases h'
      | some r =>
        rw [hr] at h'
        cases h'
        rw [wval_cons, num_wval hr]
        unfold term
        rw [show e / 32 = 0 from by omega, show e % 32 = e from by omega, mono_zero]
        rfl
theorem wordV_rel {ρ : Map} (f : List Nat) : VR ρ (wordV f) (.int .u32 (.ofNat (wval f))) := by
  unfold wordV
  split
  · rename_i n h
    rw [num_wval h]
    exact .int _ _
  · exact .symW f

/-! what is known of bits -/
theorem dropT_get : ∀ (k : Nat) (l : List Int) (j : Nat) (a : Int), (dropT l k)[j]? = some a → l[k + j]? = some a
  | 0, l, j, a, h => by rw [Nat.zero_add]; exact h
  | k + 1, l, j, a, h => by
    have h' : (tl (dropT l k))[j]? = some a := h
    have h2 : (dropT l k)[j + 1]? = some a := by
      cases hd : dropT l k with
      | nil => rw [hd] at h'; simp [tl] at h'
      | cons b m => rw [hd] at h'; rw [List.getElem?_cons_succ]; exact h'
    have := dropT_get k l (j + 1) a h2
    rwa [show k + 1 + j = k + (j + 1) from by omega]
theorem mask_bit (p : Int → Bool) : ∀ (l : List Int) (v : Nat), (maskOf p l).testBit v = true → ∃ a, l[v]? = some a ∧ p a = true
  | [], v, h => by
    have h' : (0 : Nat).testBit v = true := h
    simp at h'
  | a :: l, v, h => by
    have h' : (2 * maskOf p l + Bool.rec (motive := fun _ => Nat) 0 1 (p a)).testBit v = true := h
    cases v with
    | zero =>
      refine ⟨a, rfl, ?_⟩
      cases hp : p a
      · rw [hp] at h'
        rw [Nat.testBit_zero] at h'
        simp at h'
      · rfl
    | succ v =>
      rw [Nat.testBit_succ] at h'
      have e : (2 * maskOf p l + Bool.rec (motive := fun _ => Nat) 0 1 (p a)) / 2 = maskOf p l := by
        cases p a
        · show (2 * maskOf p l + 0) / 2 = _; omega
        · show (2 * maskOf p l + 1) / 2 = _; omega
      rw [e] at h'
      obtain ⟨b, h1, h2⟩ := mask_bit p l v h'
      exact ⟨b, by rw [List.getElem?_cons_succ]; exact h1, h2⟩
theorem wval_red {ones zeros : Nat} (h1 : ∀ v, ones.testBit v = true → 1 ≤ Ev.val (64 + v)) (h0 : ∀ v, zeros.testBit v = true → Ev.val (64 + v) ≤ 0) : ∀ f, wval (redW ones zeros f) = wval f
  | [] => rfl
  | e :: f => by
    show wval (Bool.rec (motive := fun _ => List Nat) (redW ones zeros f) (insX ((e / 32 ^^^ (e / 32 &&& ones)) * 32 + e % 32) (redW ones zeros f)) (Nat.beq (e / 32 &&& zeros) 0)) = _
    rw [wval_cons]
    cases h : Nat.beq (e / 32 &&& zeros) 0
    · show wval (redW ones zeros f) = _
      rw [wval_red h1 h0 f]
      have hne : e / 32 &&& zeros ≠ 0 := fun q => by rw [q] at h; cases h
      obtain ⟨v, hv⟩ := Nat.exists_testBit_of_ne_zero hne
      rw [Nat.testBit_and, Bool.and_eq_true] at hv
      have hm : monoB (e / 32) = false := by
        cases hq : monoB (e / 32)
        · rfl
        · have := (mono_true _).1 hq v hv.1
          have := h0 v hv.2
          omega
      have : term e = 0 := by unfold term; rw [hm]; rfl
      rw [this, Nat.zero_xor]
    · show wval (insX ((e / 32 ^^^ (e / 32 &&& ones)) * 32 + e % 32) (redW ones zeros f)) = _
      rw [wval_ins, wval_red h1 h0 f]
      have hm : monoB (e / 32 ^^^ (e / 32 &&& ones)) = monoB (e / 32) := by
        rw [Bool.eq_iff_iff, mono_true, mono_true]
        constructor
        · intro q v hv
          cases ho : ones.testBit v
          · exact q v (by rw [Nat.testBit_xor, Nat.testBit_and, hv, ho]; rfl)
          · exact h1 v ho
        · intro q v hv
          rw [Nat.testBit_xor, Nat.testBit_and] at hv
          refine q v ?_
          cases hx : (e / 32).testBit v
          · rw [hx] at hv; cases hv
          · rfl
      have : term ((e / 32 ^^^ (e / 32 &&& ones)) * 32 + e % 32) = term e := by
        unfold term
        rw [show ((e / 32 ^^^ (e / 32 &&& ones)) * 32 + e % 32) / 32 = (e / 32 ^^^ (e / 32 &&& ones)) from by omega, show ((e / 32 ^^^ (e / 32 &&& ones)) * 32 + e % 32) % 32 = e % 32 from by omega, hm]
      rw [this]
theorem wval_redK {K : Facts} (hK : FactsOk K) (f : List Nat) : wval (redK K f) = wval f := by
  unfold redK
  refine wval_red (fun v hv => ?_) (fun v hv => ?_) f
  · obtain ⟨a, q1, q2⟩ := mask_bit _ _ _ hv
    have := hK.lo _ _ (dropT_get _ _ _ _ q1)
    have : 1 ≤ a := by
      cases a with
      | ofNat n => have : 1 ≤ n := Nat.le_of_ble_eq_true q2
                   simp only [Int.ofNat_eq_natCast]; omega
      | negSucc n => cases q2
    omega
  · obtain ⟨a, q1, q2⟩ := mask_bit _ _ _ hv
    have h0 : a ≤ 0 := by
      cases a with
      | ofNat n => have : n = 0 := Nat.eq_of_beq_eq_true q2
                   subst this; exact Int.le_refl _
      | negSucc n => rw [Int.negSucc_eq]; omega
    have := hK.hi _ _ (dropT_get _ _ _ _ q1) (by unfold noBound; omega)
    omega
theorem sole_bit {e : Nat} (he : e < 32) : ∀ f, soleW e f = true → (wval f).testBit e = decide (countW e f % 2 = 1)
  | [], _ => by show (0 : Nat).testBit e = _; simp [countW]
  | a :: f, h => by
    have h' : Bool.rec (motive := fun _ => Bool) (soleW e f) (Bool.rec (motive := fun _ => Bool) false (soleW e f) (Nat.beq a e)) (Nat.beq (a % 32) e) = true := h
    have hc : countW e (a :: f) = Bool.rec (motive := fun _ => Nat) (countW e f) (Nat.succ (countW e f)) (Nat.beq a e) := rfl
    rw [wval_cons, Nat.testBit_xor, term_bit, hc]
    cases h1 : Nat.beq (a % 32) e
    · rw [h1] at h'
      have hne : a % 32 ≠ e := fun q => by rw [q, Nat.beq_refl] at h1; cases h1
      have hae : Nat.beq a e = false := by
        cases hq : Nat.beq a e
        · rfl
        · have := Nat.eq_of_beq_eq_true hq
          exact absurd (by rw [this]; omega) hne
      rw [sole_bit he f h', hae, decide_eq_false hne, Bool.and_false, Bool.false_xor]
    · rw [h1] at h'
      cases h2 : Nat.beq a e
      · rw [h2] at h'; cases h'
      · rw [h2] at h'
        have := Nat.eq_of_beq_eq_true h2
        subst this
        rw [sole_bit he f h', show a / 32 = 0 from by omega, mono_zero, decide_eq_true (show a % 32 = a by omega)]
        show (true ^^ _) = decide ((countW a f + 1) % 2 = 1)
        rcases Nat.mod_two_eq_zero_or_one (countW a f) with hq | hq
        · rw [decide_eq_false (show ¬ countW a f % 2 = 1 by omega), decide_eq_true (show (countW a f + 1) % 2 = 1 by omega)]; rfl
        · rw [decide_eq_true hq, decide_eq_false (show ¬ (countW a f + 1) % 2 = 1 by omega)]; rfl
theorem hasOne_sound (all : List Nat) : ∀ f, hasOne all f = true → wval all ≠ 0
  | [], h => by cases h
  | e :: f, h => by
    have h' : Bool.rec (motive := fun _ => Bool) (hasOne all f) (Bool.rec (motive := fun _ => Bool) (hasOne all f) true (soleW e all && Nat.beq (countW e all) 1)) (Nat.blt e 32) = true := h
    cases h1 : Nat.blt e 32
    · rw [h1] at h'; exact hasOne_sound all f h'
    · rw [h1] at h'
      cases h2 : (soleW e all && Nat.beq (countW e all) 1)
      · rw [h2] at h'; exact hasOne_sound all f h'
      · rw [Bool.and_eq_true] at h2
        intro q
        have := sole_bit (Nat.le_of_ble_eq_true h1) all h2.1
        rw [q, Nat.eq_of_beq_eq_true h2.2] at this
        simp at this
theorem soleE_bit (e : Nat) : ∀ f, soleE e f = true → (wval f).testBit (e % 32) = (monoB (e / 32) && decide (countW e f % 2 = 1))
  | [], _ => by show (0 : Nat).testBit (e % 32) = _; simp [countW]
  | a :: f, h => by
    have h' : Bool.rec (motive := fun _ => Bool) (soleE e f) (Bool.rec (motive := fun _ => Bool) false (soleE e f) (Nat.beq a e)) (Nat.beq (a % 32) (e % 32)) = true := h
    have hc : countW e (a :: f) = Bool.rec (motive := fun _ => Nat) (countW e f) (Nat.succ (countW e f)) (Nat.beq a e) := rfl
    rw [wval_cons, Nat.testBit_xor, term_bit, hc]
    cases h1 : Nat.beq (a % 32) (e % 32)
    · rw [h1] at h'
      have hne : a % 32 ≠ e % 32 := fun q => by rw [q, Nat.beq_refl] at h1; cases h1
      have hae : Nat.beq a e = false := by
        cases hq : Nat.beq a e
        · rfl
        · have := Nat.eq_of_beq_eq_true hq
          exact absurd (by rw [this]) hne
      rw [soleE_bit e f h', hae, decide_eq_false hne, Bool.and_false, Bool.false_xor]
    · rw [h1] at h'
      cases h2 : Nat.beq a e
      · rw [h2] at h'; cases h'
      · rw [h2] at h'
        have := Nat.eq_of_beq_eq_true h2
        subst this
        rw [soleE_bit a f h', decide_eq_true (rfl : a % 32 = a % 32), Bool.and_true]
        show (monoB (a / 32) ^^ _) = (monoB (a / 32) && decide ((countW a f + 1) % 2 = 1))
        rcases Nat.mod_two_eq_zero_or_one (countW a f) with hq | hq
        · rw [decide_eq_false (show ¬ countW a f % 2 = 1 by omega), decide_eq_true (show (countW a f + 1) % 2 = 1 by omega)]; cases monoB (a / 32) <;> rfl
        · rw [decide_eq_true hq, decide_eq_false (show ¬ (countW a f + 1) % 2 = 1 by omega)]; cases monoB (a / 32) <;> rfl
theorem lones_sound (all : List Nat) {v : Nat} (hv : 1 ≤ Ev.val (64 + v)) : ∀ f, (lonesW all f).testBit v = true → wval all ≠ 0
  | [], h => by
    have : (0 : Nat).testBit v = true := h
    simp at this
  | e :: f, h => by
    have h' : (Bool.rec (motive := fun _ => Nat) (lonesW all f) (e / 32 ||| lonesW all f) (Nat.beq (2 ^ Nat.log2 (e / 32)) (e / 32) && (soleE e all && Nat.beq (countW e all) 1))).testBit v = true := h
    cases hc : (Nat.beq (2 ^ Nat.log2 (e / 32)) (e / 32) && (soleE e all && Nat.beq (countW e all) 1))
    · rw [hc] at h'; exact lones_sound all hv f h'
    · rw [hc] at h'
      have h2 : (e / 32 ||| lonesW all f).testBit v = true := h'
      rw [Nat.testBit_or, Bool.or_eq_true] at h2
      rcases h2 with h2 | h2
      · simp only [Bool.and_eq_true] at hc
        obtain ⟨c1, c2, c3⟩ := hc
        have e1 := Nat.eq_of_beq_eq_true c1
        rw [← e1, Nat.testBit_two_pow] at h2
        have e2 : Nat.log2 (e / 32) = v := by simpa using h2
        have hb := soleE_bit e all c2
        rw [Nat.eq_of_beq_eq_true c3, ← e1, mono_pow, e2, decide_eq_true hv] at hb
        intro q
        rw [q] at hb
        simp at hb
      · exact lones_sound all hv f h2
theorem maskOne_sound : ∀ (l : List Int) (i m : Nat), maskOne l = some m → 1 ≤ dotL i l → ∃ v, m.testBit v = true ∧ 1 ≤ Ev.val (i + v)
  | [], i, m, h, hd => by simp [dotL] at hd
  | a :: l, i, m, h, hd => by
    unfold maskOne at h
    cases hm : maskOne l with
    | none => simp [hm] at h
    | some m' =>
      simp only [hm] at h
      simp only [dotL] at hd
      have up : 1 ≤ dotL (i + 1) l → ∀ x, x < 2 → m = 2 * m' + x → ∃ v, m.testBit v = true ∧ 1 ≤ Ev.val (i + v) := by
        intro h1 x hx hm2
        obtain ⟨v, k1, k2⟩ := maskOne_sound l (i + 1) m' hm h1
        refine ⟨v + 1, ?_, by rw [show i + (v + 1) = i + 1 + v from by omega]; exact k2⟩
        rw [Nat.testBit_succ, hm2, show (2 * m' + x) / 2 = m' from by omega]
        exact k1
      cases h0 : a == 0 <;> rw [h0] at h <;> simp only [cond_true, cond_false] at h
      · cases h1 : a == 1 <;> rw [h1] at h <;> simp only [cond_true, cond_false] at h <;> cases h
        simp at h1
        subst h1
        by_cases hv : 1 ≤ Ev.val i
        · exact ⟨0, by rw [Nat.testBit_zero]; simp, by simpa using hv⟩
        · exact up (by omega) 1 (by omega) rfl
      · cases h
        simp at h0
        subst h0
        exact up (by omega) 0 (by omega) rfl
theorem dot_split : ∀ (k i : Nat) (l : List Int), dotL i l = dotL i (l.take k) + dotL (i + k) (l.drop k)
  | 0, i, l => by simp [dotL]
  | k + 1, i, [] => by simp [dotL]
  | k + 1, i, a :: l => by
    simp only [dotL, List.take_succ_cons, List.drop_succ_cons]
    rw [dot_split k (i + 1) l, show i + 1 + k = i + (k + 1) from by omega]; omega
theorem zero_dot' : ∀ (f : List Int) (i : Nat), zeroL f = true → dotL i f = 0
  | [], i, h => rfl
  | a :: f, i, h => by
    unfold zeroL at h
    cases ha : a == 0 <;> rw [ha] at h <;> simp only [cond_true, cond_false] at h
    · cases h
    · simp at ha
      simp only [dotL]
      rw [zero_dot' f (i + 1) h, ha]; simp
theorem setOf_sound {f : List Int} {s : Nat} (h : setOf f = some s) (hf : 0 ≤ evalL f) : ∃ v, s.testBit v = true ∧ 1 ≤ Ev.val (64 + v) := by
  cases f with
  | nil => cases h
  | cons c cs =>
    simp only [setOf] at h
    cases hb : (c == -1 && zeroL (cs.take 64)) <;> rw [hb] at h <;> simp only [cond_true, cond_false] at h
    · cases h
    rw [Bool.and_eq_true, beq_iff_eq] at hb
    obtain ⟨rfl, hz⟩ := hb
    simp only [evalL] at hf
    rw [dot_split 64 0 cs, zero_dot' _ _ hz] at hf
    exact maskOne_sound _ _ _ h (by rw [Nat.zero_add] at hf; omega)
theorem factW_sound {all : List Nat} : ∀ (cs : List (List Int)), (∀ f ∈ cs, 0 ≤ evalL f) → factW cs all = true → wval all ≠ 0
  | [], _, h => by cases h
  | g :: cs, hcs, h => by
    have h' : Bool.rec (motive := fun _ => Bool) (factW cs all) true (match setOf g with | some s => Nat.beq (Nat.land s (lonesW all all)) s | none => false) = true := h
    cases hq : (match setOf g with | some s => Nat.beq (Nat.land s (lonesW all all)) s | none => false)
    · rw [hq] at h'
      exact factW_sound cs (fun f hf => hcs f (by simp [hf])) h'
    · cases hs : setOf g with
      | none => rw [hs] at hq; cases hq
      | some s =>
        rw [hs] at hq
        obtain ⟨v, h1, h2⟩ := setOf_sound hs (hcs g (by simp))
        have e : s &&& lonesW all all = s := Nat.eq_of_beq_eq_true hq
        have : (lonesW all all).testBit v = true := by
          rw [← e, Nat.testBit_and, Bool.and_eq_true] at h1
          exact h1.2
        exact lones_sound all h2 all this
theorem decW_sound {K : Facts} (hK : FactsOk K) {f : List Nat} {b : Bool} (h : decW K f = some b) : b = decide (wval f = 0) := by
  unfold decW at h
  have hr := wval_redK hK f
  split at h
  · rename_i q
    cases h
    rw [q] at hr
    rw [decide_eq_true]
    rw [← hr]; rfl
  · rename_i e r q
    cases hh : hasOne (e :: r) (e :: r) <;> rw [hh] at h <;> simp only [cond_true, cond_false] at h
    · cases hf : factW K.cs (e :: r) <;> rw [hf] at h <;> simp only [cond_true, cond_false] at h <;> cases h
      have := factW_sound K.cs hK.cs hf
      rw [← q, hr] at this
      rw [decide_eq_false this]
    · cases h
      have := hasOne_sound _ _ hh
      rw [← q, hr] at this
      rw [decide_eq_false this]
theorem natsV_map : ∀ {l : List Value} {f : List Nat}, natsV l = some f → l = f.map fun e => Value.int .i64 (.ofNat e)
  | [], f, h => by simp [natsV] at h; subst h; rfl
  | v :: l, f, h => by
    unfold natsV at h
    split at h <;> try (cases h; done)
    · rename_i heq; simp at heq
    · rename_i heq
      simp at heq
      obtain ⟨rfl, rfl⟩ := heq
      split at h <;> cases h
      rename_i r hr
      rw [natsV_map hr]; rfl
theorem map_nat_inj : ∀ {a b : List Nat}, (a.map fun e => Value.int .i64 (.ofNat e)) = (b.map fun e => Value.int .i64 (.ofNat e)) → a = b
  | [], [], _ => rfl
  | [], _ :: _, h => by simp at h
  | _ :: _, [], h => by simp at h
  | x :: a, y :: b, h => by
    simp only [List.map_cons, List.cons.injEq, Value.int.injEq, true_and, Int.ofNat.injEq] at h
    rw [h.1, map_nat_inj h.2]
theorem natsI_ints (f : List Nat) : natsI (intsN f) = f := by
  unfold natsI intsN
  rw [List.map_map]
  induction f with
  | nil => rfl
  | cons a f ih => rw [List.map_cons, ih]; rfl
theorem natsB_eq : ∀ {f g : List Nat}, natsB f g = true → f = g
  | [], [], _ => rfl
  | [], _ :: _, h => by cases h
  | _ :: _, [], h => by cases h
  | a :: f, b :: g, h => by
    have h' : Bool.rec (motive := fun _ => Bool) false (natsB f g) (Nat.beq a b) = true := h
    cases hb : Nat.beq a b
    · rw [hb] at h'; cases h'
    · rw [hb] at h'
      rw [Nat.eq_of_beq_eq_true hb, natsB_eq h']
theorem bval33 (f : List Int) : bval 33 f = decide (wval (natsI f) = 0) := rfl
theorem bval34 (f : List Int) : bval 34 f = !decide (wval (natsI f) = 0) := rfl
theorem wordB_rel {ρ : Map} {K : Facts} (hK : FactsOk K) {c : Nat} (hc : c = 33 ∨ c = 34) (f : List Nat) : VR ρ (wordB K c f) (.bool (bif Nat.beq c 33 then decide (wval f = 0) else !decide (wval f = 0))) := by
  unfold wordB
  split
  · rename_i b h
    rw [decW_sound hK h]
    exact .bool _
  · cases Nat.ble 6 (mixedW (redK K f))
    · have := VR.symB (ρ := ρ) c (intsN f) (by rcases hc with rfl | rfl <;> decide)
      rcases hc with rfl | rfl
      · rw [bval33, natsI_ints] at this; exact this
      · rw [bval34, natsI_ints] at this; exact this
    · exact .topB _
end Go.Sim

/- The abstract machine: numbers that are forms of unknown ones; what is decided about them holds. -/
namespace Go.Sim
open Go.RowKit
set_option linter.unusedVariables false
set_option linter.unusedSimpArgs false
set_option linter.unusedSectionVars false
variable [Ev]

variable {P : Program} {B : Nat} {ρ : Map} {h : H} {w : World} {K : Facts}

theorem dot_add : ∀ (f g : List Int) (i : Nat), dotL i (addL f g) = dotL i f + dotL i g
  | [], g, i => by simp [addL, dotL]
  | a :: f, [], i => by simp [addL, dotL]
  | a :: f, b :: g, i => by
    simp only [addL, dotL]
    rw [dot_add f g (i + 1), Int.add_mul]; omega
theorem dot_mul (c : Int) : ∀ (f : List Int) (i : Nat), dotL i (mulL c f) = c * dotL i f
  | [], i => by simp [mulL, dotL]
  | a :: f, i => by
    simp only [mulL, dotL]
    rw [dot_mul c f (i + 1), Int.mul_add, Int.mul_assoc]
theorem eval_add (f g : List Int) : evalL (addL f g) = evalL f + evalL g := by
  cases f with
  | nil => simp [addL, evalL]
  | cons a f => cases g with
    | nil => simp [addL, evalL]
    | cons b g => simp only [addL, evalL]; rw [dot_add]; omega
theorem eval_mul (c : Int) (f : List Int) : evalL (mulL c f) = c * evalL f := by
  cases f with
  | nil => simp [mulL, evalL]
  | cons a f => simp only [mulL, evalL]; rw [dot_mul, Int.mul_add]
theorem subZ_eq (a b : Int) : subZ a b = a - b := by
  cases a with
  | ofNat m => cases b with
    | ofNat n =>
      show Bool.rec (motive := fun _ => Int) (.negSucc (Nat.pred (Nat.sub n m))) (.ofNat (Nat.sub m n)) (Nat.ble n m) = _
      cases h : Nat.ble n m
      · have : ¬ n ≤ m := fun e => by rw [Nat.ble_eq_true_of_le e] at h; cases h
        show Int.negSucc (n - m - 1) = (m : Int) - n
        rw [Int.negSucc_eq]; omega
      · have := Nat.le_of_ble_eq_true h
        show ((m - n : Nat) : Int) = (m : Int) - n
        omega
    | negSucc n => show ((m + (n + 1) : Nat) : Int) = (m : Int) - Int.negSucc n; rw [Int.negSucc_eq]; omega
  | negSucc m => cases b with
    | ofNat n => show Int.negSucc (m + n) = Int.negSucc m - (n : Int); rw [Int.negSucc_eq, Int.negSucc_eq]; omega
    | negSucc n =>
      show Bool.rec (motive := fun _ => Int) (.negSucc (Nat.pred (Nat.sub m n))) (.ofNat (Nat.sub n m)) (Nat.ble m n) = _
      cases h : Nat.ble m n
      · have : ¬ m ≤ n := fun e => by rw [Nat.ble_eq_true_of_le e] at h; cases h
        show Int.negSucc (m - n - 1) = _
        rw [Int.negSucc_eq, Int.negSucc_eq, Int.negSucc_eq]; omega
      · have := Nat.le_of_ble_eq_true h
        show ((n - m : Nat) : Int) = _
        rw [Int.negSucc_eq, Int.negSucc_eq]; omega
theorem subL_nil (g : List Int) : ∀ i, dotL i (subL [] g) = - dotL i g := by
  induction g with
  | nil => intro i; rfl
  | cons b g ih =>
    intro i
    show dotL i (subZ 0 b :: subL [] g) = _
    simp only [dotL]
    rw [subZ_eq, ih (i + 1), Int.sub_mul]; omega
theorem dot_sub : ∀ (f g : List Int) (i : Nat), dotL i (subL f g) = dotL i f - dotL i g
  | [], g, i => by rw [subL_nil]; simp only [dotL]; omega
  | a :: f, [], i => by show dotL i (a :: f) = _; simp only [dotL]; omega
  | a :: f, b :: g, i => by
    show dotL i (subZ a b :: subL f g) = _
    simp only [dotL]
    rw [subZ_eq, dot_sub f g (i + 1), Int.sub_mul]; omega
theorem eval_sub (f g : List Int) : evalL (subL f g) = evalL f - evalL g := by
  cases f with
  | nil => cases g with
    | nil => rfl
    | cons b g =>
      show evalL (subZ 0 b :: subL [] g) = _
      simp only [evalL]
      rw [subZ_eq, subL_nil]; omega
  | cons a f => cases g with
    | nil => show evalL (a :: f) = _; simp only [evalL]; omega
    | cons b g =>
      show evalL (subZ a b :: subL f g) = _
      simp only [evalL]
      rw [subZ_eq, dot_sub]; omega
theorem eval_one (c : Int) : evalL [c] = c := by simp [evalL, dotL]
theorem eval_not (f : List Int) : evalL (notL f) = -1 - evalL f := by
  unfold notL
  rw [eval_sub, eval_one]
theorem zero_dot : ∀ (f : List Int) (i : Nat), zeroL f = true → dotL i f = 0
  | [], i, h => rfl
  | a :: f, i, h => by
    unfold zeroL at h
    cases ha : a == 0 <;> rw [ha] at h <;> simp only [cond_true, cond_false] at h
    · cases h
    · simp at ha
      simp only [dotL]
      rw [zero_dot f (i + 1) h, ha]; simp

theorem dot_unit : ∀ (i j : Nat), dotL j (unitL i) = Ev.val (j + i)
  | 0, j => by simp [unitL, dotL]
  | i + 1, j => by
    simp only [unitL, dotL]
    rw [dot_unit i (j + 1), Int.zero_mul, Int.zero_add]
    congr 1; omega
theorem eval_unit (c : Int) (i : Nat) : evalL (c :: unitL i) = c + Ev.val i := by
  simp only [evalL]
  rw [dot_unit, Nat.zero_add]

theorem addZ_eq (a b : Int) (s : Int → Bool) : addZ a b s = s (a + b) := by
  cases a with
  | ofNat m => cases b with
    | ofNat n => rfl
    | negSucc n =>
      show Bool.rec (motive := fun _ => Bool) (s (.negSucc (Nat.sub n m))) (s (.ofNat (Nat.sub m (Nat.succ n)))) (Nat.ble (Nat.succ n) m) = _
      cases h : Nat.ble (Nat.succ n) m
      · have : ¬ n + 1 ≤ m := fun e => by rw [Nat.ble_eq_true_of_le e] at h; cases h
        show s (.negSucc (n - m)) = _
        congr 1
        rw [Int.negSucc_eq, Int.negSucc_eq]; simp only [Int.ofNat_eq_natCast]; omega
      · have := Nat.le_of_ble_eq_true h
        show s (.ofNat (m - (n + 1))) = _
        congr 1
        rw [Int.negSucc_eq]; simp only [Int.ofNat_eq_natCast]; omega
  | negSucc m => cases b with
    | ofNat n =>
      show Bool.rec (motive := fun _ => Bool) (s (.negSucc (Nat.sub m n))) (s (.ofNat (Nat.sub n (Nat.succ m)))) (Nat.ble (Nat.succ m) n) = _
      cases h : Nat.ble (Nat.succ m) n
      · have : ¬ m + 1 ≤ n := fun e => by rw [Nat.ble_eq_true_of_le e] at h; cases h
        show s (.negSucc (m - n)) = _
        congr 1
        rw [Int.negSucc_eq, Int.negSucc_eq]; simp only [Int.ofNat_eq_natCast]; omega
      · have := Nat.le_of_ble_eq_true h
        show s (.ofNat (n - (m + 1))) = _
        congr 1
        rw [Int.negSucc_eq]; simp only [Int.ofNat_eq_natCast]; omega
    | negSucc n => rfl
theorem mulP_eq {n : Nat} (hn : n ≠ 0) (b : Int) (s : Int → Bool) : mulP n b s = s (n * b) := by
  cases b with
  | ofNat m => rfl
  | negSucc m =>
    show s (.negSucc (Nat.pred (n * (m + 1)))) = _
    congr 1
    have : 0 < n * (m + 1) := Nat.mul_pos (by omega) (by omega)
    rw [Int.negSucc_eq, Int.negSucc_eq]
    have e : ((n : Int) * -((m : Int) + 1)) = -((n * (m + 1) : Nat) : Int) := by rw [Int.mul_neg]; simp
    rw [e, Nat.pred_eq_sub_one]; omega
theorem mulN_eq {n : Nat} (hn : n ≠ 0) (b : Int) (s : Int → Bool) : mulN n b s = s (-(n : Int) * b) := by
  cases b with
  | ofNat m =>
    show Bool.rec (motive := fun _ => Bool) (s (.negSucc (Nat.pred (Nat.mul n m)))) (s (.ofNat 0)) (Nat.beq m 0) = _
    cases h : Nat.beq m 0
    · have hm : m ≠ 0 := fun e => by rw [e] at h; cases h
      show s (.negSucc (Nat.pred (n * m))) = _
      congr 1
      have : 0 < n * m := Nat.mul_pos (by omega) (by omega)
      have e : (-(n : Int) * (m : Int)) = -((n * m : Nat) : Int) := by rw [Int.neg_mul]; simp
      rw [Int.negSucc_eq, Int.ofNat_eq_natCast, e, Nat.pred_eq_sub_one]; omega
    · have hm := Nat.eq_of_beq_eq_true h
      subst hm
      show s 0 = s (-(n : Int) * 0)
      rw [Int.mul_zero]
  | negSucc m =>
    show s (.ofNat (n * (m + 1))) = _
    congr 1
    rw [Int.negSucc_eq]
    have e : (-(n : Int) * -((m : Int) + 1)) = ((n * (m + 1) : Nat) : Int) := by rw [Int.neg_mul_neg]; simp
    rw [e]; rfl
theorem hd_true {l : List Int} {s : Int → Bool} (h : hd l s = true) : ∃ a, l[0]? = some a ∧ s a = true := by
  cases l with
  | nil => cases h
  | cons a l => exact ⟨a, rfl, h⟩
theorem tl_get (l : List Int) (j : Nat) (a : Int) (h : (tl l)[j]? = some a) : l[j + 1]? = some a := by
  cases l with
  | nil => simp [tl] at h
  | cons b l => rw [List.getElem?_cons_succ]; exact h
theorem nn_sound : ∀ (f lo hi : List Int) (a : Int) (i : Nat), nn f lo hi a = true → (∀ (j : Nat) (a : Int), lo[j]? = some a → a ≤ Ev.val (i + j)) → (∀ (j : Nat) (a : Int), hi[j]? = some a → a < noBound → Ev.val (i + j) ≤ a) → 0 ≤ a + dotL i f
  | [], lo, hi, a, i, e, hl, hh => by
    cases a with
    | ofNat n => simp only [dotL, Int.ofNat_eq_natCast]; omega
    | negSucc n => cases e
  | c :: f, lo, hi, a, i, e, hl, hh => by
    have go : ∀ b : Int, nn f (tl lo) (tl hi) b = true → 0 ≤ b + dotL (i + 1) f := fun b hb => nn_sound f (tl lo) (tl hi) b (i + 1) hb
      (fun j x hx => by have := hl (j + 1) x (tl_get _ _ _ hx); rwa [show i + (j + 1) = i + 1 + j from by omega] at this)
      (fun j x hx hb => by have := hh (j + 1) x (tl_get _ _ _ hx) hb; rwa [show i + (j + 1) = i + 1 + j from by omega] at this)
    simp only [dotL]
    cases c with
    | ofNat n =>
      have e' : Bool.rec (motive := fun _ => Bool) (hd lo fun l => mulP n l fun p => addZ a p fun a => nn f (tl lo) (tl hi) a) (nn f (tl lo) (tl hi) a) (Nat.beq n 0) = true := e
      cases h : Nat.beq n 0
      · have hn : n ≠ 0 := fun q => by rw [q] at h; cases h
        rw [h] at e'
        obtain ⟨l, h1, h2⟩ := hd_true e'
        rw [mulP_eq hn, addZ_eq] at h2
        have h3 := go _ h2
        have h4 := hl 0 l h1
        rw [Nat.add_zero] at h4
        have := Int.mul_le_mul_of_nonneg_left h4 (show (0 : Int) ≤ (n : Int) by omega)
        simp only [Int.ofNat_eq_natCast]
        omega
      · have hn := Nat.eq_of_beq_eq_true h
        subst hn
        have := go a e'
        simp only [Int.ofNat_eq_natCast, Int.natCast_zero, Int.zero_mul]
        omega
    | negSucc n =>
      have e' : (hd hi fun u => Bool.rec (motive := fun _ => Bool) (mulN (Nat.succ n) u fun p => addZ a p fun a => nn f (tl lo) (tl hi) a) false (decide (noBound ≤ u))) = true := e
      obtain ⟨u, h1, h2⟩ := hd_true e'
      cases hb : decide (noBound ≤ u) <;> rw [hb] at h2
      · dsimp only at h2
        rw [mulN_eq (by omega), addZ_eq] at h2
        have h3 := go _ h2
        have h4 := hh 0 u h1 (by simp at hb; omega)
        rw [Nat.add_zero] at h4
        have := Int.mul_le_mul_of_nonpos_left (show (Int.negSucc n) ≤ 0 by rw [Int.negSucc_eq]; omega) h4
        rw [Int.negSucc_eq] at this ⊢
        have e5 : (-((n.succ : Nat) : Int)) = -((n : Int) + 1) := by simp
        rw [e5] at h3
        omega
      · cases h2

theorem nonneg_sound (hK : FactsOk K) {f : List Int} (h : nonneg K f = true) : 0 ≤ evalL f := by
  cases f with
  | nil => simp [evalL]
  | cons c cs =>
    have h' : nn cs K.lo K.hi c = true := h
    simp only [evalL]
    exact nn_sound cs K.lo K.hi c 0 h' (fun j a ha => by simpa using hK.lo j a ha) (fun j a ha hb => by simpa using hK.hi j a ha hb)
theorem anyL_some {p : List Int → Bool} : ∀ {l : List (List Int)}, anyL p l = true → ∃ g ∈ l, p g = true
  | [], h => by cases h
  | g :: l, h => by
    have h' : Bool.rec (motive := fun _ => Bool) (anyL p l) true (p g) = true := h
    cases hp : p g
    · rw [hp] at h'
      obtain ⟨g', h1, h2⟩ := anyL_some h'
      exact ⟨g', by simp [h1], h2⟩
    · exact ⟨g, by simp, hp⟩
theorem ifB_true {c s : Bool} (h : ifB c s = true) : s = true := by
  cases c
  · cases h
  · exact h
theorem pos_sound (hK : FactsOk K) {f : List Int} (h : pos K f = true) : 0 ≤ evalL f := by
  unfold pos at h
  cases h1 : nonneg K f
  case true => exact nonneg_sound hK h1
  rw [h1] at h
  dsimp only at h
  cases h2 : anyL (fun g => ifB (shares (tl f) (tl g)) (nonneg K (subL f g))) K.cs
  case true =>
    obtain ⟨g, k1, k2⟩ := anyL_some h2
    have q1 := hK.cs g k1
    have q2 := nonneg_sound hK (ifB_true k2)
    rw [eval_sub] at q2; omega
  case false =>
    rw [h2] at h
    obtain ⟨g, k1, k2⟩ := anyL_some h
    obtain ⟨g', k3, k4⟩ := anyL_some (ifB_true k2)
    have q1 := hK.cs g k1
    have q3 := hK.cs g' k3
    have q2 := nonneg_sound hK (ifB_true k4)
    rw [eval_sub, eval_sub] at q2; omega
theorem decS_sound (hK : FactsOk K) {f : List Int} {b : Bool} (h : decS K f = some b) : b = decide (0 ≤ evalL f) := by
  unfold decS at h
  cases h1 : pos K f <;> rw [h1] at h <;> simp only [cond_true, cond_false] at h
  · cases h2 : pos K (notL f) <;> rw [h2] at h <;> simp only [cond_true, cond_false] at h <;> cases h
    have := pos_sound hK h2
    rw [eval_not] at this
    simp; omega
  · cases h
    have := pos_sound hK h1
    simp [this]
theorem eqS_sound (hK : FactsOk K) {f g : List Int} {b : Bool} (h : eqS K f g = some b) : b = decide (evalL f = evalL g) := by
  unfold eqS at h
  have d1 : ∀ b, decS K (subL f g) = some b → b = decide (0 ≤ evalL f - evalL g) := fun b hb => by have := decS_sound hK hb; rwa [eval_sub] at this
  have d2 : ∀ b, decS K (subL g f) = some b → b = decide (0 ≤ evalL g - evalL f) := fun b hb => by have := decS_sound hK hb; rwa [eval_sub] at this
  split at h
  · rename_i hd
    cases h
    have := d1 _ hd
    simp at this
    simp; omega
  · split at h
    · rename_i hd
      cases h
      have := d2 _ hd
      simp at this
      simp; omega
    · rename_i h1 _ _ h2 h3
      cases h
      have a1 := d1 _ h3
      have a2 := d2 _ h2
      simp at a1 a2
      simp; omega
    · cases h

theorem wrap_in (k : IntKind) (n : Int) (h1 : k.min ≤ n) (h2 : n ≤ k.max) : k.wrap n = n := by
  cases k
  · exact Go.IntWalk.i8_in n ⟨h1, h2⟩
  · exact Go.IntWalk.i16_in n ⟨h1, h2⟩
  · exact Go.IntWalk.i32_in n ⟨h1, h2⟩
  · exact Go.IntWalk.i64_in n ⟨h1, h2⟩
  · exact Go.IntWalk.u8_in n ⟨h1, h2⟩
  · exact Go.IntWalk.u16_in n ⟨h1, h2⟩
  · exact Go.IntWalk.u32_in n ⟨h1, h2⟩
  · exact Go.IntWalk.u64_in n ⟨h1, h2⟩

theorem symV_rel (k : IntKind) (f : List Int) : VR ρ (symV k f) (.int k (evalL f)) := .sym k f

theorem mkI_rel (hK : FactsOk K) (k : IntKind) (f : List Int) : VR ρ (mkI K k f) (.int k (k.wrap (evalL f))) := by
  unfold mkI
  cases hi : inK K k f with
  | false => exact .topI _ _
  | true =>
    simp only [cond_true]
    unfold inK at hi
    rw [Bool.and_eq_true] at hi
    have h1 := pos_sound hK hi.1
    have h2 := pos_sound hK hi.2
    rw [eval_sub, eval_one] at h1 h2
    rw [wrap_in k _ (by omega) (by omega)]
    cases f with
    | nil => simp only [evalL]; exact .int _ _
    | cons c cs =>
      simp only
      cases hz : zeroL cs with
      | false => exact .sym k (c :: cs)
      | true =>
        simp only [evalL, cond_true]
        rw [zero_dot _ _ hz, Int.add_zero]
        exact .int _ _

theorem intsV_map : ∀ {l : List Value} {f : List Int}, intsV l = some f → l = f.map (Value.int .i64)
  | [], f, h => by simp [intsV] at h; subst h; rfl
  | v :: l, f, h => by
    unfold intsV at h
    split at h <;> try (cases h; done)
    · rename_i heq; simp at heq
    · rename_i heq
      simp at heq
      obtain ⟨rfl, rfl⟩ := heq
      split at h <;> cases h
      rename_i r hr
      rw [intsV_map hr]; rfl
theorem map_int_inj : ∀ {a b : List Int}, a.map (Value.int .i64) = b.map (Value.int .i64) → a = b
  | [], [], _ => rfl
  | [], _ :: _, h => by simp at h
  | _ :: _, [], h => by simp at h
  | x :: a, y :: b, h => by
    simp only [List.map_cons, List.cons.injEq, Value.int.injEq, true_and] at h
    rw [h.1, map_int_inj h.2]

theorem linOf_rel {x x' : Value} {k : IntKind} {f : List Int} (h : linOf x = some (k, f)) (hx : VR ρ x x') : x' = .int k (evalL f) := by
  unfold linOf at h
  split at h
  · cases h; cases hx; rw [eval_one]
  · rename_i a s l c
    split at h <;> cases h
    rename_i h1 h2
    generalize hq : Value.func (.methodOf a s) l c = q at hx
    cases hx <;> first | (cases hq; done) | skip
    · rename_i k' f'
      cases hq
      rw [kOf_kno] at h1
      cases h1
      have := intsV_map h2
      simp only at this
      rw [map_int_inj this]
    · rename_i c' f' hc
      cases hq
      have := kOf_some h1
      subst this
      cases k <;> exact absurd hc (by decide)
    · cases hq
      cases h1
  · cases h

theorem weak_rel {x x' : Value} (hx : VR ρ x x') : VR ρ (weak x) x' := by
  cases hx with
  | sym k f =>
    have : Nat.ble 30 (kno k) = false := by cases k <;> rfl
    have h2 : Nat.beq (kno k) 16 = false := by cases k <;> rfl
    show VR ρ (bif Nat.ble 30 (kno k) then .chan none else bif Nat.beq (kno k) 16 then .chan (some 6) else .chan (some (kno k))) _
    rw [this, h2]
    exact .topI _ _
  | symB c f hc =>
    show VR ρ (bif Nat.ble 30 c then .chan none else bif Nat.beq c 16 then .chan (some 6) else .chan (some c)) _
    rw [Nat.ble_eq_true_of_le hc]
    exact .top _ rfl
  | opq i h => exact .top _ h
  | symW f => exact .topI .u32 _
  | opqS i s h => exact .topS s
  | opqL i a n c h => exact .topL a n c
  | _ => first | exact .bool _ | exact .int _ _ | exact .string _ | exact .ptrN | exact .sliceN _ _ | exact .nilFunc | exact .nilIface | exact .topI _ _ | exact .topS _ | exact .topL _ _ _ | exact .mapN | exact .bad _ | (constructor <;> assumption)

theorem boolOf_rel {x x' : Value} {c : Nat} {f : List Int} (h : boolOf x = some (c, f)) (hx : VR ρ x x') : x' = .bool (bval c f) ∧ 30 ≤ c := by
  unfold boolOf at h
  split at h <;> try (cases h; done)
  rename_i a s l c0
  cases hb : Nat.ble 30 a <;> rw [hb] at h <;> simp only [cond_true, cond_false] at h
  · cases h
  split at h <;> cases h
  rename_i h2
  generalize hq : Value.func (.methodOf c s) l c0 = q at hx
  cases hx <;> first | (cases hq; done) | skip
  · rename_i k' f'
    cases hq
    cases k' <;> exact absurd hb (by decide)
  · rename_i c' f' hc
    cases hq
    have := intsV_map h2
    simp only at this
    rw [map_int_inj this]
    exact ⟨rfl, hc⟩
  · cases hq
    cases hb

theorem symB_rel (c : Nat) (f : List Int) (hc : 30 ≤ c) : VR ρ (symB c f) (.bool (bval c f)) := .symB c f hc
theorem decB_sound (hK : FactsOk K) {c : Nat} {f : List Int} {b : Bool} (h : decB K c f = some b) : b = bval c f := by
  unfold decB at h
  unfold bval
  cases h1 : Nat.beq c 30 <;> rw [h1] at h <;> simp only [cond_true, cond_false] at h ⊢
  · cases h2 : Nat.ble 33 c <;> rw [h2] at h <;> simp only [cond_true, cond_false] at h ⊢
    · split at h <;> cases h
      rename_i b0 h2
      have := eqS_sound hK h2
      simp only [evalL] at this
      rw [this]
      cases Nat.beq c 31 <;> rfl
    · split at h <;> cases h
      rename_i b0 h2
      have := decW_sound hK h2
      rw [this]
  · exact decS_sound hK h
theorem mkB_rel (hK : FactsOk K) (c : Nat) (f : List Int) (hc : 30 ≤ c) : VR ρ (mkB K c f) (.bool (bval c f)) := by
  unfold mkB
  split
  · rename_i b h
    rw [decB_sound hK h]
    exact .bool _
  · exact .symB c f hc
theorem negB_rel (c : Nat) (f : List Int) (hc : 30 ≤ c) : VR ρ (negB c f) (.bool (!bval c f)) := by
  unfold negB
  cases h1 : Nat.beq c 30 <;> simp only [cond_true, cond_false]
  · cases h3 : Nat.ble 33 c <;> simp only [cond_true, cond_false]
    · cases h2 : Nat.beq c 31 <;> simp only [cond_true, cond_false]
      · have := symB_rel (ρ := ρ) 31 f (by decide)
        have e : bval 31 f = !bval c f := by unfold bval; rw [h1, h2, h3]; simp only [cond_false, Bool.not_not]; rfl
        rw [← e]; exact this
      · have := symB_rel (ρ := ρ) 32 f (by decide)
        have e : bval 32 f = !bval c f := by unfold bval; rw [h1, h2, h3]; rfl
        rw [← e]; exact this
    · cases h2 : Nat.beq c 33 <;> simp only [cond_true, cond_false]
      · have := symB_rel (ρ := ρ) 33 f (by decide)
        have e : bval 33 f = !bval c f := by rw [bval33]; unfold bval; rw [h1, h2, h3]; simp only [cond_false, cond_true, Bool.not_not]
        rw [← e]; exact this
      · have := symB_rel (ρ := ρ) 34 f (by decide)
        have e : bval 34 f = !bval c f := by rw [bval34]; unfold bval; rw [h1, h2, h3]; simp only [cond_false, cond_true]
        rw [← e]; exact this
  · have := symB_rel (ρ := ρ) 30 (notL f) (by decide)
    have e : bval 30 (notL f) = !bval c f := by
      unfold bval
      rw [h1, eval_not]
      simp only [cond_true]
      show decide _ = _
      by_cases h : 0 ≤ evalL f
      · rw [decide_eq_false (by omega), decide_eq_true h]; rfl
      · rw [decide_eq_true (by omega), decide_eq_false h]; rfl
    rw [← e]; exact this

theorem linBin_sound (hK : FactsOk K) {op : BinOp} {k : IntKind} {f g : List Int} {v : Value} (e : linBin K op k f g = some v) (t : TypeId) (w : World) :
    ∃ v', (binOp op t (.int k (evalL f)) (.int k (evalL g))).run P w = .ok v' w ∧ VR ρ v v' := by
  have ib : ∀ {v' : Value}, intBin op k (evalL f) (evalL g) = some v' → VR ρ v v' → ∃ v', (binOp op t (.int k (evalL f)) (.int k (evalL g))).run P w = .ok v' w ∧ VR ρ v v' :=
    fun h1 h2 => ⟨_, intBin_sound h1 t w, h2⟩
  have bb : ∀ {f : List Int} {b : Bool}, decS K f = some b → b = decide (0 ≤ evalL f) := fun h => decS_sound hK h
  unfold linBin at e
  split at e
  · cases e; refine ib rfl ?_; rw [← eval_add]; exact mkI_rel hK _ _
  · cases e; refine ib rfl ?_; rw [← eval_sub]; exact mkI_rel hK _ _
  · split at e
    · cases e; refine ib rfl ?_; rw [eval_one, ← eval_mul]; exact mkI_rel hK _ _
    · cases e; refine ib rfl ?_; rw [eval_one, Int.mul_comm, ← eval_mul]; exact mkI_rel hK _ _
    · cases e
  · cases e
    have := mkB_rel (ρ := ρ) hK 30 (subL (subL g f) [1]) (by decide)
    refine ib rfl ?_
    rw [show decide (evalL f < evalL g) = bval 30 (subL (subL g f) [1]) from by
      show _ = decide _
      rw [eval_sub, eval_sub, eval_one]; congr 1; apply propext; omega]
    exact this
  · cases e
    have := mkB_rel (ρ := ρ) hK 30 (subL g f) (by decide)
    refine ib rfl ?_
    rw [show decide (evalL f ≤ evalL g) = bval 30 (subL g f) from by
      show _ = decide _
      rw [eval_sub]; congr 1; apply propext; omega]
    exact this
  · cases e
    have := mkB_rel (ρ := ρ) hK 30 (subL (subL f g) [1]) (by decide)
    refine ib rfl ?_
    rw [show decide (evalL f > evalL g) = bval 30 (subL (subL f g) [1]) from by
      show _ = decide _
      rw [eval_sub, eval_sub, eval_one]; congr 1; apply propext; omega]
    exact this
  · cases e
    have := mkB_rel (ρ := ρ) hK 30 (subL f g) (by decide)
    refine ib rfl ?_
    rw [show decide (evalL f ≥ evalL g) = bval 30 (subL f g) from by
      show _ = decide _
      rw [eval_sub]; congr 1; apply propext; omega]
    exact this
  · cases e
    have := mkB_rel (ρ := ρ) hK 31 (subL f g) (by decide)
    refine ib rfl ?_
    rw [show (evalL f == evalL g) = bval 31 (subL f g) from by
      show _ = decide _
      rw [eval_sub]
      by_cases h : evalL f = evalL g
      · rw [decide_eq_true (by omega)]; simpa using h
      · rw [decide_eq_false (by omega)]; simpa using h]
    exact this
  · cases e
    have := mkB_rel (ρ := ρ) hK 32 (subL f g) (by decide)
    refine ib rfl ?_
    rw [show (evalL f != evalL g) = bval 32 (subL f g) from by
      show _ = !decide _
      rw [eval_sub]
      by_cases h : evalL f = evalL g
      · rw [decide_eq_true (by omega)]; simpa using h
      · rw [decide_eq_false (by omega)]; simpa using h]
    exact this
  · cases e

theorem resB_rel (hK : FactsOk K) {x x' : Value} (hx : VR ρ x x') : VR ρ (resB K x) x' := by
  unfold resB
  split
  · rename_i c f hb
    split
    · rename_i b hd
      rw [(boolOf_rel hb hx).1, decB_sound hK hd]
      exact .bool _
    · exact hx
  · exact hx
theorem isT22_rel {v v' : Value} (h : isT22 v = true) (hv : VR ρ v v') : ∃ p, v' = .bool p := by
  unfold isT22 at h
  split at h
  · generalize hq : Value.chan (some 22) = q at hv
    cases hv <;> first | (cases hq; done) | skip
    · rename_i k0 n0
      cases k0 <;> cases hq
    · exact ⟨_, rfl⟩
  · cases h
theorem isBl_rel {v v' : Value} (h : isBl v = true) (hv : VR ρ v v') : ∃ p, v' = .bool p := by
  unfold isBl at h
  split at h
  · cases hv; exact ⟨_, rfl⟩
  · exact isT22_rel rfl hv
  · obtain ⟨q, hq⟩ := Option.isSome_iff_exists.1 h
    obtain ⟨c, f⟩ := q
    exact ⟨_, (boolOf_rel hq hv).1⟩
theorem sameB_rel {v v' x : Value} {b : Bool} (e : sameB v b = some x) (hv : VR ρ v v') : ∃ p, v' = .bool p ∧ VR ρ x (.bool (p == b)) := by
  unfold sameB at e
  split at e
  case h_2 =>
    cases ht : isT22 v <;> rw [ht] at e <;> simp only [cond_true, cond_false] at e <;> cases e
    obtain ⟨p, rfl⟩ := isT22_rel ht hv
    exact ⟨p, rfl, .topB _⟩
  cases e
  rename_i c f hb
  obtain ⟨rfl, hc⟩ := boolOf_rel hb hv
  refine ⟨_, rfl, ?_⟩
  cases b
  · simp only [cond_false]; rw [show (bval c f == false) = !bval c f from by cases bval c f <;> rfl]; exact negB_rel c f hc
  · simp only [cond_true]; rw [show (bval c f == true) = bval c f from by cases bval c f <;> rfl]; exact symB_rel c f hc

theorem twinB_rel {x y x' y' : Value} (h : twinB x y = true) (hx : VR ρ x x') (hy : VR ρ y y') : ∃ p, x' = .bool p ∧ y' = .bool p := by
  unfold twinB at h
  split at h <;> try (cases h; done)
  rename_i c f d g h1 h2
  simp only [Bool.and_eq_true] at h
  obtain ⟨h3, h4, h5⟩ := h
  have hd := Nat.eq_of_beq_eq_true h4
  subst hd
  refine ⟨_, (boolOf_rel h1 hx).1, ?_⟩
  rw [(boolOf_rel h2 hy).1]
  congr 1
  have hc : 33 ≤ c := Nat.le_of_ble_eq_true h3
  have hc0 : Nat.beq c 30 = false := by
    cases hq : Nat.beq c 30
    · rfl
    · have := Nat.eq_of_beq_eq_true hq; omega
  unfold bval
  rw [hc0, h3, natsB_eq h5]
  rfl

theorem bolBin_sound (hK : FactsOk K) {op : BinOp} {t : TypeId} {x y x' y' v : Value} (e : bolBin P K op t x y = some v) (hx : VR ρ x x') (hy : VR ρ y y') (X Y : Operand) (w : World) :
    ∃ v', (do eqGuard op t X Y x' y'; binOp op t x' y' : Sem Value).run P w = .ok v' w ∧ VR ρ v v' := by
  have hx' := resB_rel hK hx
  have hy' := resB_rel hK hy
  unfold bolBin at e
  have real : ∀ op (p q r : Bool), P.underlying t = some .bool → (op = .eql ∧ r = (p == q)) ∨ (op = .neq ∧ r = !(p == q)) → (do eqGuard op t X Y (.bool p) (.bool q); binOp op t (.bool p) (.bool q) : Sem Value).run P w = .ok (.bool r) w := by
    intro op p q r hu hq
    have h0 : eqA 10 P t (.bool p) (.bool q) = some (p == q) := by simp only [eqA, hu]
    have hb' : binA P op t (.bool p) (.bool q) = some (.bool r) := by
      rcases hq with ⟨rfl, rfl⟩ | ⟨rfl, rfl⟩ <;> simp only [binA, h0]
    obtain ⟨v', h1, h2⟩ := binA_sound (ρ := ρ) hb' (.bool _) (.bool _) X Y w
    cases h2
    exact h1
  split at e <;> try (cases e; done)
  · rename_i hu
    generalize resB K x = u at e hx'
    generalize resB K y = u2 at e hy'
    split at e <;> try (cases e; done)
    · cases e; cases hx'; cases hy'
      exact ⟨_, real .eql _ _ _ hu (.inl ⟨rfl, rfl⟩), .bool _⟩
    · cases hy'
      obtain ⟨p, rfl, h⟩ := sameB_rel e hx'
      exact ⟨_, real .eql _ _ _ hu (.inl ⟨rfl, rfl⟩), h⟩
    · cases hx'
      rename_i a _
      obtain ⟨p, rfl, h⟩ := sameB_rel e hy'
      refine ⟨_, real .eql _ _ _ hu (.inl ⟨rfl, rfl⟩), ?_⟩
      rw [show (a == p) = (p == a) from by cases a <;> cases p <;> rfl]; exact h
    · cases ht : twinB u u2 <;> rw [ht] at e <;> simp only [cond_true, cond_false] at e
      · cases hb : ((isT22 u || isT22 u2) && (isBl u && isBl u2)) <;> rw [hb] at e <;> simp only [cond_true, cond_false] at e <;> cases e
        simp only [Bool.and_eq_true] at hb
        obtain ⟨p, rfl⟩ := isBl_rel hb.2.1 hx'
        obtain ⟨q, rfl⟩ := isBl_rel hb.2.2 hy'
        exact ⟨_, real .eql _ _ _ hu (.inl ⟨rfl, rfl⟩), .topB _⟩
      cases e
      obtain ⟨p, rfl, rfl⟩ := twinB_rel ht hx' hy'
      exact ⟨_, real .eql _ _ _ hu (.inl ⟨rfl, by simp⟩), .bool _⟩
  · rename_i hu
    generalize resB K x = u at e hx'
    generalize resB K y = u2 at e hy'
    split at e <;> try (cases e; done)
    · cases e; cases hx'; cases hy'
      exact ⟨_, real .neq _ _ _ hu (.inr ⟨rfl, rfl⟩), .bool _⟩
    · cases hy'
      rename_i b _
      obtain ⟨p, rfl, h⟩ := sameB_rel e hx'
      refine ⟨_, real .neq _ _ _ hu (.inr ⟨rfl, rfl⟩), ?_⟩
      rw [show (!(p == b)) = (p == !b) from by cases b <;> cases p <;> rfl]; exact h
    · cases hx'
      rename_i a _
      obtain ⟨p, rfl, h⟩ := sameB_rel e hy'
      refine ⟨_, real .neq _ _ _ hu (.inr ⟨rfl, rfl⟩), ?_⟩
      rw [show (!(a == p)) = (p == !a) from by cases a <;> cases p <;> rfl]; exact h
    · cases ht : twinB u u2 <;> rw [ht] at e <;> simp only [cond_true, cond_false] at e
      · cases hb : ((isT22 u || isT22 u2) && (isBl u && isBl u2)) <;> rw [hb] at e <;> simp only [cond_true, cond_false] at e <;> cases e
        simp only [Bool.and_eq_true] at hb
        obtain ⟨p, rfl⟩ := isBl_rel hb.2.1 hx'
        obtain ⟨q, rfl⟩ := isBl_rel hb.2.2 hy'
        exact ⟨_, real .neq _ _ _ hu (.inr ⟨rfl, rfl⟩), .topB _⟩
      cases e
      obtain ⟨p, rfl, rfl⟩ := twinB_rel ht hx' hy'
      exact ⟨_, real .neq _ _ _ hu (.inr ⟨rfl, by simp⟩), .bool _⟩

set_option maxHeartbeats 4000000 in
theorem eqK_sound (hK : FactsOk K) : ∀ {d : Nat} {t : TypeId} {x y x' y' : Value} {b : Bool} (e : eqK d K P t x y = some b) (hx : VR ρ x x') (hy : VR ρ y y') (w : World) (n : Nat), d ≤ n → (Op.equalIn n t x' y').run P w = .ok b w
  | 0, t, x, y, x', y', b, e, hx, hy, w, n, hd => by simp [eqK] at e
  | d + 1, t, x, y, x', y', b, e, hx, hy, w, 0, hd => by omega
  | d + 1, t, x, y, x', y', b, e, hx, hy, w, n + 1, hd => by
    simp only [eqK] at e
    split at e
    · rename_i k0 x y hu
      split at e <;> try (cases e; done)
      rename_i k f k' g h1 h2
      cases hb : k == k' <;> rw [hb] at e <;> simp only [cond_true, cond_false] at e
      · cases e
      simp at hb
      subst hb
      rw [linOf_rel h1 hx, linOf_rel h2 hy]
      rw [Op.equalIn]
      simp only [Sem.run_bind, run_underlying hu, Result.andThen_ok, if_true, Sem.run_pure]
      rw [eqS_sound hK e]
      congr 1
    · rename_i fs xs ys hu
      cases hst : P.stoodInHeld t with
      | true => rw [hst] at e; cases e
      | false =>
        rw [hst] at e
        simp only [cond_false] at e
        cases hx with
        | agg cs ds h1 => cases hy with
          | agg cs2 ds2 h2 =>
            have hf : P.fieldsOf t = fs := by unfold Program.fieldsOf; rw [hu]
            rw [run_equalIn_struct w n t ⟨ds⟩ ⟨ds2⟩ (by rw [hf]; exact hu) hst, hf]
            exact eqFs_sound (fun t a b a' b' r h3 h4 h5 => eqK_sound hK h3 h4 h5 w n (by omega)) h1 h2 _ _ e
    · rename_i len el xs ys hu
      cases hi : P.info? el with
      | none => simp [hi] at e
      | some i =>
        simp only [hi] at e
        have hc : P.cellsOf el = i.size := by unfold Program.cellsOf; rw [hi]; rfl
        cases hx with
        | agg cs ds h1 => cases hy with
          | agg cs2 ds2 h2 =>
            rw [run_equalIn_array w n ⟨ds⟩ ⟨ds2⟩ hu hi, hc]
            exact eqIs_sound (fun t a b a' b' r h3 h4 h5 => eqK_sound hK h3 h4 h5 w n (by omega)) h1 h2 _ _ e
    · exact eqA_sound e hx hy w (n + 1) hd

theorem topBin_exec {op : BinOp} {x y x' y' v : Value} (e : topBin op x y = some v) (hx : VR ρ x x') (hy : VR ρ y y') (t : TypeId) (X Y : Operand) (w : World) :
    ∃ v', (do eqGuard op t X Y x' y'; binOp op t x' y' : Sem Value).run P w = .ok v' w ∧ VR ρ v v' := by
  obtain ⟨v', h1, h2⟩ := topBin_sound (P := P) e hx hy t w
  refine ⟨v', ?_, h2⟩
  have hk : ∃ k, kindOf x = some k := by
    revert e
    cases hh : kindOf x with
    | some k => simp
    | none => cases op <;> simp [topBin, hh]
  obtain ⟨k, hk⟩ := hk
  obtain ⟨n, rfl⟩ := kindOf_rel hk hx
  have hg : (eqGuard op t X Y (.int k n) y').run P w = .ok () w := run_eqGuard (by simp) w
  simp only [Sem.run_bind, hg, Result.andThen_ok, h1]

theorem oneVar_spec : ∀ (cs : List Int) (i : Nat) {j : Nat} {a : Int}, oneVar cs i = some (j, a) → (a = 1 ∨ a = -1) ∧ dotL i cs = a * Ev.val j
  | [], i, j, a, h => by simp [oneVar] at h
  | c :: cs, i, j, a, h => by
    unfold oneVar at h
    cases hc : c == 0 <;> rw [hc] at h <;> simp only [cond_true, cond_false] at h
    · cases hz : (zeroL cs && (c == 1 || c == -1)) <;> rw [hz] at h <;> simp only [cond_true, cond_false] at h <;> cases h
      rw [Bool.and_eq_true, Bool.or_eq_true] at hz
      refine ⟨by simpa using hz.2, ?_⟩
      simp only [dotL]
      rw [zero_dot _ _ hz.1, Int.add_zero]
    · simp at hc
      obtain ⟨h1, h2⟩ := oneVar_spec cs (i + 1) h
      refine ⟨h1, ?_⟩
      simp only [dotL]
      rw [h2, hc]; simp
theorem asW_rel (hK : FactsOk K) {x x' : Value} {f : List Nat} (h : asW K x = some f) (hx : VR ρ x x') : x' = .int .u32 (.ofNat (wval f)) := by
  unfold asW at h
  split at h
  · rename_i n
    cases hb : Nat.blt n 4294967296 <;> rw [hb] at h <;> simp only [cond_true, cond_false] at h <;> cases h
    cases hx
    have hn : n < 4294967296 := Nat.le_of_ble_eq_true hb
    rw [wval_const n 32 (by omega), Nat.mod_eq_of_lt hn]
  · rename_i a s l c
    cases h16 : Nat.beq a 16 <;> rw [h16] at h <;> simp only [cond_true, cond_false] at h
    · cases h6 : Nat.beq a 6 <;> rw [h6] at h <;> simp only [cond_true, cond_false] at h
      · cases h
      have := Nat.eq_of_beq_eq_true h6
      subst this
      split at h <;> try (cases h; done)
      rename_i c0 cs hi
      split at h <;> try (cases h; done)
      rename_i i a1 ho
      cases hb : (Nat.blt i 64 && (c0 == 0) && (a1 == 1) && inK K .u32 (c0 :: cs)) <;> rw [hb] at h <;> simp only [cond_true, cond_false] at h <;> cases h
      simp only [Bool.and_eq_true, beq_iff_eq] at hb
      obtain ⟨⟨⟨hi64, rfl⟩, rfl⟩, hin⟩ := hb
      have hl : linOf (Value.func (.methodOf 6 s) l c) = some (.u32, 0 :: cs) := by
        show (match kOf 6, intsV l.toList with | some k, some f => some (k, f) | _, _ => none) = _
        rw [hi]; rfl
      rw [linOf_rel hl hx]
      congr 1
      have hv : evalL (0 :: cs) = Ev.val i := by
        simp only [evalL]
        obtain ⟨_, hd⟩ := oneVar_spec cs 0 ho
        rw [hd]; omega
      unfold inK at hin
      rw [Bool.and_eq_true] at hin
      have h1 := pos_sound hK hin.1
      have h2 := pos_sound hK hin.2
      rw [eval_sub, eval_one, hv] at h1 h2
      have e1 : IntKind.u32.min = 0 := rfl
      have e2 : IntKind.u32.max = 4294967295 := rfl
      rw [e1] at h1
      rw [e2] at h2
      rw [hv, wval_var (Nat.le_of_ble_eq_true hi64) 32 (by omega), Nat.mod_eq_of_lt (by omega)]
      simp only [Int.ofNat_eq_natCast]
      omega
    · have := Nat.eq_of_beq_eq_true h16
      subst this
      generalize hq : Value.func (.methodOf 16 s) l c = q at hx
      cases hx <;> first | (cases hq; done) | skip
      · rename_i k f'
        have h' : 16 = kno k := congrArg (fun v => match v with | Value.func (.methodOf a _) _ _ => a | _ => 0) hq
        cases k <;> exact absurd h' (by decide)
      · rename_i c' f' hc
        have h' : 16 = c' := congrArg (fun v => match v with | Value.func (.methodOf a _) _ _ => a | _ => 0) hq
        rw [← h'] at hc
        exact absurd hc (by decide)
      · cases hq
        have := natsV_map h
        simp only at this
        rw [map_nat_inj this]
  · cases h

theorem w_in (f : List Nat) : (Int.ofNat (wval f)) ≤ 4294967295 ∧ IntKind.u32.wrap (Int.ofNat (wval f)) = Int.ofNat (wval f) := by
  have h := wval_lt f
  have h2 : Int.ofNat (wval f) ≤ 4294967295 := by simp only [Int.ofNat_eq_natCast]; omega
  exact ⟨h2, wrap_in .u32 _ (by show (0 : Int) ≤ _; simp only [Int.ofNat_eq_natCast]; omega) h2⟩
theorem w_bv (f : List Nat) : BitVec.ofInt 32 (Int.ofNat (wval f)) = BitVec.ofNat 32 (wval f) := by
  show BitVec.ofInt 32 ((wval f : Nat) : Int) = _
  rw [BitVec.ofInt_natCast]
theorem w_nat (f : List Nat) : (BitVec.ofNat 32 (wval f)).toNat = wval f := by
  rw [BitVec.toNat_ofNat, Nat.mod_eq_of_lt (wval_lt f)]
theorem w_and (f g : List Nat) : (BitVec.ofInt IntKind.u32.bits (Int.ofNat (wval f)) &&& BitVec.ofInt IntKind.u32.bits (Int.ofNat (wval g))).toNat = wval (andW f g) := by
  show (BitVec.ofInt 32 (Int.ofNat (wval f)) &&& BitVec.ofInt 32 (Int.ofNat (wval g))).toNat = _
  rw [w_bv, w_bv, BitVec.toNat_and, w_nat, w_nat, ← wval_and]
theorem w_or (f g : List Nat) : (BitVec.ofInt IntKind.u32.bits (Int.ofNat (wval f)) ||| BitVec.ofInt IntKind.u32.bits (Int.ofNat (wval g))).toNat = wval (orW f g) := by
  show (BitVec.ofInt 32 (Int.ofNat (wval f)) ||| BitVec.ofInt 32 (Int.ofNat (wval g))).toNat = _
  rw [w_bv, w_bv, BitVec.toNat_or, w_nat, w_nat, ← wval_or]
theorem w_xor (f g : List Nat) : (BitVec.ofInt IntKind.u32.bits (Int.ofNat (wval f)) ^^^ BitVec.ofInt IntKind.u32.bits (Int.ofNat (wval g))).toNat = wval (xorW f g) := by
  show (BitVec.ofInt 32 (Int.ofNat (wval f)) ^^^ BitVec.ofInt 32 (Int.ofNat (wval g))).toNat = _
  rw [w_bv, w_bv, BitVec.toNat_xor, w_nat, w_nat, ← wval_xor]
theorem w_andNot (f g : List Nat) : (BitVec.ofInt IntKind.u32.bits (Int.ofNat (wval f)) &&& ~~~ BitVec.ofInt IntKind.u32.bits (Int.ofNat (wval g))).toNat = wval (xorW f (andW f g)) := by
  show (BitVec.ofInt 32 (Int.ofNat (wval f)) &&& ~~~ BitVec.ofInt 32 (Int.ofNat (wval g))).toNat = _
  rw [w_bv, w_bv, wval_xor, wval_and]
  apply Nat.eq_of_testBit_eq
  intro j
  rw [BitVec.testBit_toNat, BitVec.getLsbD_and, BitVec.getLsbD_not, BitVec.getLsbD_ofNat, BitVec.getLsbD_ofNat, Nat.testBit_xor, Nat.testBit_and]
  by_cases hj : j < 32
  · simp only [hj, decide_true, Bool.true_and]
    cases (wval f).testBit j <;> cases (wval g).testBit j <;> rfl
  · have hf : (wval f).testBit j = false := Nat.testBit_lt_two_pow (Nat.lt_of_lt_of_le (wval_lt f) (Nat.pow_le_pow_right (by omega) (by omega)))
    rw [hf]; simp
theorem xor_zero_iff (a b : Nat) : a ^^^ b = 0 ↔ a = b := by
  constructor
  · intro h
    apply Nat.eq_of_testBit_eq
    intro j
    have := congrArg (fun n => n.testBit j) h
    simp only [Nat.testBit_xor, Nat.zero_testBit] at this
    revert this
    cases a.testBit j <;> cases b.testBit j <;> simp
  · rintro rfl
    exact Nat.xor_self _
theorem powOf_eq {n p : Nat} (h : powOf n = some p) : n = 2 ^ p := by
  unfold powOf at h
  cases hb : Nat.beq (Nat.pow 2 (Nat.log2 n)) n <;> rw [hb] at h <;> simp only [cond_true, cond_false] at h <;> cases h
  exact (Nat.eq_of_beq_eq_true hb).symm
theorem wordLo_rel (hK : FactsOk K) {c : Nat} {x x' v : Value} {n : Nat} (h : wordLo K c x n = some v) (hc : c = 33 ∨ c = 34) (hx : VR ρ x x') :
    ∃ f, x' = .int .u32 (.ofNat (wval f)) ∧ VR ρ v (.bool (bif Nat.beq c 33 then decide (wval f < n) else !decide (wval f < n))) := by
  unfold wordLo at h
  split at h <;> try (cases h; done)
  rename_i f p h1 h2
  cases hb : Nat.ble p 32 <;> rw [hb] at h <;> simp only [cond_true, cond_false] at h <;> cases h
  have hn := powOf_eq h2
  refine ⟨f, asW_rel hK h1 hx, ?_⟩
  have := wordB_rel (ρ := ρ) hK hc (hiW p f)
  have e : decide (wval (hiW p f) = 0) = decide (wval f < n) := by
    congr 1; rw [hn]; exact propext (wval_hi' p f)
  rw [e] at this
  exact this

theorem wordBin_sound (hK : FactsOk K) {op : BinOp} {t : TypeId} {x y x' y' v : Value} (e : wordBin K op x y = some v) (hx : VR ρ x x') (hy : VR ρ y y') (X Y : Operand) (w : World) :
    ∃ v', (do eqGuard op t X Y x' y'; binOp op t x' y' : Sem Value).run P w = .ok v' w ∧ VR ρ v v' := by
  have go : ∀ {k k' : IntKind} {a b : Int} {u : Value}, x' = .int k a → y' = .int k' b → binA P op t (.int k a) (.int k' b) = some u → (∀ u', VR ρ u u' → u' = u) → VR ρ v u →
      ∃ v', (do eqGuard op t X Y x' y'; binOp op t x' y' : Sem Value).run P w = .ok v' w ∧ VR ρ v v' := by
    intro k k' a b u h1 h2 h3 h4 h5
    subst h1 h2
    obtain ⟨v', k1, k2⟩ := binA_sound (ρ := ρ) h3 (.int _ _) (.int _ _) X Y w
    rw [h4 v' k2] at k1
    exact ⟨_, k1, h5⟩
  have li : ∀ (k : IntKind) (n : Int) (u' : Value), VR ρ (.int k n) u' → u' = .int k n := fun k n u' h => by cases h; rfl
  have lb : ∀ (b : Bool) (u' : Value), VR ρ (.bool b) u' → u' = .bool b := fun b u' h => by cases h; rfl
  have two : ∀ {f g r : List Nat} {u : Int}, asW K x = some f → asW K y = some g → intBin op .u32 (.ofNat (wval f)) (.ofNat (wval g)) = some (.int .u32 u) → binA P op t (.int .u32 (.ofNat (wval f))) (.int .u32 (.ofNat (wval g))) = intBin op .u32 (.ofNat (wval f)) (.ofNat (wval g)) → v = wordV r → u = .ofNat (wval r) →
      ∃ v', (do eqGuard op t X Y x' y'; binOp op t x' y' : Sem Value).run P w = .ok v' w ∧ VR ρ v v' := by
    intro f g r u h1 h2 h3 h4 h5 h6
    subst h5 h6
    exact go (asW_rel hK h1 hx) (asW_rel hK h2 hy) (h4.trans h3) (li _ _) (wordV_rel r)
  unfold wordBin at e
  split at e
  · split at e <;> cases e
    rename_i f g h1 h2
    refine two (r := andW f g) h1 h2 rfl rfl rfl ?_
    rw [w_and]
    exact (w_in _).2
  · split at e <;> cases e
    rename_i f g h1 h2
    refine two (r := orW f g) h1 h2 rfl rfl rfl ?_
    rw [w_or]
    exact (w_in _).2
  · split at e <;> cases e
    rename_i f g h1 h2
    refine two (r := xorW f g) h1 h2 rfl rfl rfl ?_
    rw [w_xor]
    exact (w_in _).2
  · split at e <;> cases e
    rename_i f g h1 h2
    refine two (r := xorW f (andW f g)) h1 h2 rfl rfl rfl ?_
    rw [w_andNot]
    exact (w_in _).2
  · split at e <;> cases e
    rename_i f g h1 h2
    refine go (asW_rel hK h1 hx) (asW_rel hK h2 hy) (u := .bool (Int.ofNat (wval f) == Int.ofNat (wval g))) rfl (lb _) ?_
    have := wordB_rel (ρ := ρ) hK (.inl rfl) (xorW f g)
    have q : decide (wval (xorW f g) = 0) = (Int.ofNat (wval f) == Int.ofNat (wval g)) := by
      rw [wval_xor, Bool.eq_iff_iff, decide_eq_true_iff, beq_iff_eq, xor_zero_iff, Int.ofNat.injEq]
    rw [← q]; exact this
  · split at e <;> cases e
    rename_i f g h1 h2
    refine go (asW_rel hK h1 hx) (asW_rel hK h2 hy) (u := .bool (Int.ofNat (wval f) != Int.ofNat (wval g))) rfl (lb _) ?_
    have := wordB_rel (ρ := ρ) hK (.inr rfl) (xorW f g)
    have q : decide (wval (xorW f g) = 0) = (Int.ofNat (wval f) == Int.ofNat (wval g)) := by
      rw [wval_xor, Bool.eq_iff_iff, decide_eq_true_iff, beq_iff_eq, xor_zero_iff, Int.ofNat.injEq]
    rw [show (Int.ofNat (wval f) != Int.ofNat (wval g)) = !decide (wval (xorW f g) = 0) from by rw [q]; rfl]; exact this
  · split at e <;> try (cases e; done)
    rename_i k n
    split at e <;> cases e
    rename_i f h1
    cases hy
    refine go (asW_rel hK h1 hx) rfl (u := .int .u32 ((Int.ofNat (wval f)).fdiv (2 ^ (min n 32)))) ?_ (li _ _) ?_
    · show (bif decide ((n : Int) < 0) then none else some (Value.int .u32 ((Int.ofNat (wval f)).fdiv (2 ^ (min n 32))))) = _
      rw [decide_eq_false (by omega)]; rfl
    · have q : (bif Nat.ble n 32 then n else 32) = min n 32 := by
        rw [ble_dec]
        by_cases hn : n ≤ 32
        · rw [decide_eq_true hn]; simp only [cond_true]; omega
        · rw [decide_eq_false hn]; simp only [cond_false]; omega
      rw [q]
      have := wordV_rel (ρ := ρ) (shrW (min n 32) f)
      rw [wval_shr'] at this
      have e2 : (Int.ofNat (wval f)).fdiv (2 ^ (min n 32)) = Int.ofNat (wval f / 2 ^ (min n 32)) := by
        rw [Int.fdiv_eq_ediv_of_nonneg _ (Int.le_of_lt (Int.pow_pos (by decide)))]
        simp only [Int.ofNat_eq_natCast]
        rw [Int.natCast_ediv, Int.natCast_pow]; rfl
      rw [e2]; exact this
  · split at e <;> try (cases e; done)
    rename_i n
    split at e <;> try (cases e; done)
    rename_i f p h1 h2
    cases hp : Nat.blt p 32 <;> rw [hp] at e <;> simp only [cond_true, cond_false] at e <;> cases e
    cases hy
    have hn := powOf_eq h2
    have hn0 : 0 < n := by rw [hn]; exact Nat.two_pow_pos p
    refine go (asW_rel hK h1 hx) rfl (u := .int .u32 ((Int.ofNat (wval f)).tmod (Int.ofNat n))) ?_ (li _ _) ?_
    · show (bif Int.ofNat n == 0 then none else some (Value.int .u32 ((Int.ofNat (wval f)).tmod (Int.ofNat n)))) = _
      have : (Int.ofNat n == 0) = false := by
        cases hq : (Int.ofNat n == 0)
        · rfl
        · rw [beq_iff_eq] at hq; simp only [Int.ofNat_eq_natCast] at hq; omega
      rw [this]; rfl
    · have := wordV_rel (ρ := ρ) (loW p f)
      rw [wval_lo', ← hn] at this
      have e2 : (Int.ofNat (wval f)).tmod (Int.ofNat n) = Int.ofNat (wval f % n) := rfl
      rw [e2]; exact this
  · split at e <;> try (cases e; done)
    rename_i n
    cases hy
    obtain ⟨f, h1, h2⟩ := wordLo_rel hK e (.inl rfl) hx
    refine go h1 rfl (u := .bool (decide (Int.ofNat (wval f) < Int.ofNat n))) rfl (lb _) ?_
    rw [show decide (Int.ofNat (wval f) < Int.ofNat n) = decide (wval f < n) from by congr 1; apply propext; simp only [Int.ofNat_eq_natCast]; omega]
    exact h2
  · split at e <;> try (cases e; done)
    rename_i n
    cases hy
    obtain ⟨f, h1, h2⟩ := wordLo_rel hK e (.inr rfl) hx
    refine go h1 rfl (u := .bool (decide (Int.ofNat (wval f) ≥ Int.ofNat n))) rfl (lb _) ?_
    rw [show decide (Int.ofNat (wval f) ≥ Int.ofNat n) = !decide (wval f < n) from by
      by_cases h : wval f < n
      · rw [decide_eq_true h, decide_eq_false (by simp only [Int.ofNat_eq_natCast]; omega)]; rfl
      · rw [decide_eq_false h, decide_eq_true (by simp only [Int.ofNat_eq_natCast]; omega)]; rfl]
    exact h2
  · split at e <;> try (cases e; done)
    rename_i n
    cases hy
    obtain ⟨f, h1, h2⟩ := wordLo_rel hK e (.inl rfl) hx
    refine go h1 rfl (u := .bool (decide (Int.ofNat (wval f) ≤ Int.ofNat n))) rfl (lb _) ?_
    rw [show decide (Int.ofNat (wval f) ≤ Int.ofNat n) = decide (wval f < n.succ) from by congr 1; apply propext; simp only [Int.ofNat_eq_natCast]; omega]
    exact h2
  · split at e <;> try (cases e; done)
    rename_i n
    cases hy
    obtain ⟨f, h1, h2⟩ := wordLo_rel hK e (.inr rfl) hx
    refine go h1 rfl (u := .bool (decide (Int.ofNat (wval f) > Int.ofNat n))) rfl (lb _) ?_
    rw [show decide (Int.ofNat (wval f) > Int.ofNat n) = !decide (wval f < n.succ) from by
      by_cases h : wval f < n.succ
      · rw [decide_eq_true h, decide_eq_false (by simp only [Int.ofNat_eq_natCast]; omega)]; rfl
      · rw [decide_eq_false h, decide_eq_true (by simp only [Int.ofNat_eq_natCast]; omega)]; rfl]
    exact h2
  · cases e

theorem symBin_sound (hK : FactsOk K) {op : BinOp} {t : TypeId} {x y x' y' v : Value} (e : symBin P K op t x y = some v) (hx : VR ρ x x') (hy : VR ρ y y') (X Y : Operand) (w : World) :
    ∃ v', (do eqGuard op t X Y x' y'; binOp op t x' y' : Sem Value).run P w = .ok v' w ∧ VR ρ v v' := by
  unfold symBin at e
  split at e
  · rename_i xs ys
    cases hgt : P.eqGuardType P.depth t with
    | true => rw [hgt] at e; cases e
    | false =>
      rw [hgt] at e
      simp only [cond_false] at e
      split at e <;> first | (cases e; done) | skip
      all_goals
        cases he : eqK 10 K P t (.agg xs) (.agg ys) with
        | none => simp [he] at e
        | some b =>
          simp only [he] at e
          cases e
          have hq := eqK_sound hK he hx hy w 10000 (by omega)
          cases hx with
          | agg cs ds h1 => cases hy with
            | agg cs2 ds2 h2 =>
              have hg := fun op => run_eqGuard_agg (P := P) w op t X Y ⟨ds⟩ ⟨ds2⟩ hgt
              simp only [Sem.run_bind, hg, Result.andThen_ok, run_eql_struct, run_neq_struct, hq]
              exact ⟨_, rfl, .bool _⟩
  · cases hs : ((isSym x || isSym y) || (isT22 x || isT22 y)) <;> rw [hs] at e <;> simp only [cond_true, cond_false] at e
    · cases e
    have tb : topBin op (weak x) (weak y) = some v → ∃ v', (do eqGuard op t X Y x' y'; binOp op t x' y' : Sem Value).run P w = .ok v' w ∧ VR ρ v v' :=
      fun e => topBin_exec e (weak_rel hx) (weak_rel hy) t X Y w
    split at e
    · rename_i hbb
      cases e
      cases hbo : bitsOn K <;> rw [hbo] at hbb <;> simp only [cond_true, cond_false] at hbb
      · cases hbb
      · exact wordBin_sound hK hbb hx hy X Y w
    split at e
    · rename_i k f k' g h1 h2
      cases hb : k == k' <;> rw [hb] at e <;> simp only [cond_true, cond_false] at e
      · exact tb e
      simp at hb
      subst hb
      split at e
      · rename_i v0 hl
        cases e
        have q1 := linOf_rel h1 hx
        have q2 := linOf_rel h2 hy
        subst q1 q2
        obtain ⟨v', k1, k2⟩ := linBin_sound (P := P) (ρ := ρ) hK hl t w
        have hg : (eqGuard op t X Y (.int k (evalL f)) (.int k (evalL g))).run P w = .ok () w := run_eqGuard (by simp) w
        exact ⟨v', by simp only [Sem.run_bind, hg, Result.andThen_ok, k1], k2⟩
      · exact tb e
    · split at e
      · rename_i hbb
        cases e
        exact bolBin_sound hK hbb hx hy X Y w
      · exact tb e

theorem min2S_sound (hK : FactsOk K) {mx : Bool} {x y x' y' v : Value} (e : min2S K mx x y = some v) (hx : VR ρ x x') (hy : VR ρ y y') (w : World) :
    ∃ v', ((bif mx then Builtin.max2 else Builtin.min2) x' y').run P w = .ok v' w ∧ VR ρ v v' := by
  unfold min2S at e
  split at e <;> try (cases e; done)
  rename_i k f k' g h1 h2
  cases hb : k == k' <;> rw [hb] at e <;> simp only [cond_true, cond_false] at e
  · cases e
  simp at hb
  subst hb
  split at e <;> cases e
  rename_i b hd
  have hq := decS_sound hK hd
  have q1 := linOf_rel h1 hx
  have q2 := linOf_rel h2 hy
  subst q1 q2
  cases mx
  · simp only [cond_false, eval_sub, eval_one] at hq ⊢
    simp only [Builtin.min2]
    have hc : (evalL g < evalL f) ↔ b = true := by rw [hq]; simp; omega
    cases b
    · rw [if_neg (by rw [hc]; simp)] <;> exact ⟨_, rfl, hx⟩
    · rw [if_pos (by rw [hc])] <;> exact ⟨_, rfl, hy⟩
  · simp only [cond_true, eval_sub, eval_one] at hq ⊢
    simp only [Builtin.max2]
    have hc : (evalL g > evalL f) ↔ b = true := by rw [hq]; simp; omega
    cases b
    · rw [if_neg (by rw [hc]; simp)] <;> exact ⟨_, rfl, hx⟩
    · rw [if_pos (by rw [hc])] <;> exact ⟨_, rfl, hy⟩

theorem minS_sound (hK : FactsOk K) (w : World) (mx : Bool) : ∀ (l : List Value) (x x' : Value) (l' : List Value) (v : Value), minS K mx x l = some v → VR ρ x x' → VRs ρ l l' →
    ∃ v', (l'.foldlM (bif mx then Builtin.max2 else Builtin.min2) x').run P w = .ok v' w ∧ VR ρ v v'
  | [], x, x', l', v, e, hx, hl => by
    cases hl
    cases e
    exact ⟨x', rfl, hx⟩
  | y :: l, x, x', l', v, e, hx, hl => by
    cases hl with
    | cons _ y' _ l' hy hl =>
    unfold minS at e
    cases hm : min2S K mx x y with
    | none => simp [hm] at e
    | some z =>
      simp only [hm] at e
      obtain ⟨z', h1, h2⟩ := min2S_sound (P := P) hK hm hx hy w
      obtain ⟨v', h3, h4⟩ := minS_sound hK w mx l z z' l' v e h2 hl
      refine ⟨v', ?_, h4⟩
      rw [List.foldlM_cons, Sem.run_bind, h1]
      exact h3

/-- a place in unknown memory -/
theorem placeOf_rel {x x' : Value} {i o : Nat} {e : TypeId} (h : placeOf x = some (i, o, e)) (hx : VR ρ x x') : ∃ r p n c, Ev.op i = .slice (some ⟨r, p, none⟩) n c ∧ x' = .pointer (some ⟨r, p + o, none⟩) := by
  unfold placeOf at h
  split at h <;> try (cases h; done)
  rename_i a b i0 d l c
  split at h <;> cases h
  rename_i hl
  generalize hq : Value.func (.via 3 b i d) l c = q at hx
  cases hx <;> first | (cases hq; done) | skip
  rename_i i1 o1 e1 r p n c1 hop
  cases hq
  simp only [List.cons.injEq, Value.int.injEq, true_and, and_true, Int.ofNat.injEq] at hl
  obtain ⟨h1, h2⟩ := hl
  subst h1
  exact ⟨r, p, n, c1, hop, rfl⟩
theorem elOf_mem {i : Nat} {e : TypeId} {l : List Value} : ∀ {q : List (Nat × TypeId × List Value)}, elOf i e q = some l → ∃ f, (i, f, l) ∈ q
  | [], h => by cases h
  | (j, f, u) :: q, h => by
    unfold elOf at h
    cases hb : (Nat.beq j i && Nat.beq f e) <;> rw [hb] at h <;> simp only [cond_true, cond_false] at h
    · obtain ⟨g, h1⟩ := elOf_mem h
      exact ⟨g, by simp [h1]⟩
    · cases h
      rw [Bool.and_eq_true] at hb
      have := Nat.eq_of_beq_eq_true hb.1
      subst this
      exact ⟨f, by simp⟩
theorem lenForm_sound (hK : FactsOk K) {i m : Nat} (h : pos K (lenForm i m) = true) : (m : Int) < Ev.val i := by
  have := pos_sound hK h
  unfold lenForm at this
  rw [eval_unit] at this
  omega

theorem loadO_sound (hK : FactsOk K) {w : World} (hO : ∀ (r : Nat) (o : Obj), Ev.heap r = some o → w.heap[r]? = some o) {t : TypeId} {i o : Nat} {el : TypeId} {v : Value} (e : loadO P K t i o el = some v)
    {r p n c : Nat} (hop : Ev.op i = .slice (some ⟨r, p, none⟩) n c) : ∃ v', (Instr.loadAt t (.pointer (some ⟨r, p + o, none⟩))).run P w = .ok v' w ∧ VR ρ v v' := by
  unfold loadO at e
  split at e <;> try (cases e; done)
  rename_i l nn g hel hs hg
  cases hb : (Nat.blt 0 l.length && Nat.ble (o % l.length + nn) l.length && Nat.blt 0 nn && pos K (lenForm i (o / l.length))) <;> rw [hb] at e <;> simp only [cond_true, cond_false] at e
  · cases e
  simp only [Bool.and_eq_true] at hb
  obtain ⟨⟨⟨h1, h2⟩, h3⟩, h4⟩ := hb
  have h1 : 0 < l.length := Nat.le_of_ble_eq_true h1
  have h2 : o % l.length + nn ≤ l.length := Nat.le_of_ble_eq_true h2
  have h3 : 0 < nn := Nat.le_of_ble_eq_true h3
  have h4 := lenForm_sound hK h4
  rw [Ev.lenL i _ _ _ hop] at h4
  have h4 : o / l.length < n := by omega
  obtain ⟨f, hm⟩ := elOf_mem hel
  obtain ⟨r', p', cs, ty, fz, ha, hh, hc⟩ := hK.els _ hm _ _ _ hop (Nat.lt_of_le_of_lt (Nat.zero_le _) h4)
  simp only [Option.some.injEq, Addr.mk.injEq, and_true] at ha
  obtain ⟨rfl, rfl⟩ := ha
  have hw := hO _ _ hh
  have hlt : ∀ j, j < nn → o + j < n * l.length := by
    intro j hj
    have e1 := Nat.div_add_mod o l.length
    have : o / l.length + 1 ≤ n := h4
    have := Nat.mul_le_mul_left l.length this
    rw [Nat.mul_comm n]
    rw [Nat.mul_add, Nat.mul_one] at this
    omega
  have cell : ∀ j, j < nn → ∃ v, w.cell? ⟨r, p + o + j, none⟩ = some v ∧ VR ρ (l.getD (o % l.length + j) (.complex .f32 0 0)) v := by
    intro j hj
    obtain ⟨v, k1, k2⟩ := hc (o + j) (hlt j hj)
    refine ⟨v, by simp [World.cell?, hw, Nat.add_assoc, k1], ?_⟩
    have e2 : (o + j) % l.length = o % l.length + j := by
      rw [Nat.add_mod, Nat.mod_eq_of_lt (show j < l.length by omega), Nat.mod_eq_of_lt (by omega)]
    simp only at k2
    rw [e2] at k2
    exact k2.mono fun b p h => by simp at h
  cases g
  · simp only [cond_false] at e
    split at e <;> try (cases e; done)
    rename_i u hu
    cases hcb : cellB u <;> rw [hcb] at e <;> simp only [cond_true, cond_false] at e <;> cases e
    obtain ⟨v', k1, k2⟩ := cell 0 h3
    rw [Nat.add_zero] at k1
    rw [Nat.add_zero, List.getD_eq_getElem?_getD, hu] at k2
    exact ⟨v', by simp [Instr.loadAt, Instr.sureAddr, loadVar, isAggB_some hg, load, Sem.run, k1], k2⟩
  · simp only [cond_true] at e
    split at e <;> cases e
    rename_i q hq
    obtain ⟨rfl, hl⟩ := takeX_spec _ _ _ hq
    have hex : ∃ L : List Value, L.length = nn ∧ (∀ j v, L[j]? = some v → w.cell? ⟨r, p + o + j, none⟩ = some v) ∧ VRs ρ ((l.drop (o % l.length)).take nn) L := by
      have : ∀ k, k ≤ nn → ∃ L : List Value, L.length = k ∧ (∀ j v, L[j]? = some v → w.cell? ⟨r, p + o + j, none⟩ = some v) ∧ VRs ρ ((l.drop (o % l.length)).take k) L := by
        intro k
        induction k with
        | zero => intro _; exact ⟨[], rfl, fun j v h => by simp at h, by simpa using VRs.nil⟩
        | succ k ih =>
          intro hk
          obtain ⟨L, a1, a2, a3⟩ := ih (by omega)
          obtain ⟨v, b1, b2⟩ := cell k (by omega)
          refine ⟨L ++ [v], by simp [a1], fun j u hu => ?_, ?_⟩
          · rcases Nat.lt_or_ge j L.length with hj | hj
            · rw [List.getElem?_append_left hj] at hu; exact a2 j u hu
            · rw [List.getElem?_append_right hj] at hu
              have : j - L.length = 0 := by
                rcases Nat.eq_zero_or_pos (j - L.length) with h0 | h0
                · exact h0
                · rw [List.getElem?_eq_none (by simp; omega)] at hu; cases hu
              rw [this] at hu
              simp at hu
              subst hu
              rw [show j = k from by omega]
              exact b1
          · rw [List.take_add_one, List.getElem?_drop]
            have hlt : o % l.length + k < l.length := by omega
            rw [List.getElem?_eq_getElem hlt]
            rw [List.getD_eq_getElem?_getD, List.getElem?_eq_getElem hlt] at b2
            exact a3.append (.cons _ _ _ _ b2 .nil)
      exact this nn (Nat.le_refl _)
    obtain ⟨L, a1, a2, a3⟩ := hex
    have := run_loadCells (P := P) r (p + o) L w a2
    rw [a1] at this
    exact ⟨.agg ⟨L⟩, by simp [Instr.loadAt, Instr.sureAddr, loadVar, isAggB_some hg, sizeA_some hs, this], .agg _ _ a3⟩

theorem opqA_sound (hK : FactsOk K) {E E' : Operand → Value} {o : Oper} {v : Value} (e : opqA P K E o.op = some v) (hE : ∀ x ∈ o.op.operands, VR ρ (E x) (E' x)) (w : World)
    (hO : ∀ (r : Nat) (o : Obj), Ev.heap r = some o → w.heap[r]? = some o) : ∃ v', (execOp E' o).run P w = .ok (.value v') w ∧ VR ρ v v' := by
  obtain ⟨dst, op, type, pos, after, guard⟩ := o
  unfold opqA at e
  simp only [Op.operands] at hE
  simp only at e
  split at e
  · rename_i x
    split at e <;> cases e
    rename_i i m el hp
    obtain ⟨r, p, n, c, hop, hx⟩ := placeOf_rel hp (hE x (by simp))
    exact ⟨_, by simp [execOp, hx], .opqP i m el r p n c hop⟩
  · rename_i t a
    split at e <;> try (cases e; done)
    rename_i i m el hp
    obtain ⟨r, p, n, c, hop, hx⟩ := placeOf_rel hp (hE a (by simp))
    obtain ⟨v', h1, h2⟩ := loadO_sound (ρ := ρ) hK hO e hop
    exact ⟨v', by simp [execOp, hx, h1], h2⟩
  · rename_i st x f
    split at e <;> try (cases e; done)
    rename_i i m el fs hp hu
    obtain ⟨r, p, n, c, hop, hx⟩ := placeOf_rel hp (hE x (by simp))
    split at e <;> try (cases e; done)
    rename_i fd hf
    split at e <;> cases e
    rename_i hs
    refine ⟨.pointer (some ⟨r, p + (m + fd.offset), none⟩), ?_, .opqP i _ el r p n c hop⟩
    simp [execOp, hx, Instr.fieldAt, run_underlying hu, hf, Instr.sureAddr, fieldPlace, sizeA_some hs, Addr.add_lit, Nat.add_assoc]
  · rename_i t x ix
    split at e <;> try (cases e; done)
    rename_i m el b i d l1 c1 hn hu hE0
    split at e <;> try (cases e; done)
    rename_i l s hel hs
    cases hb : (Nat.beq l.length s && Nat.blt 0 s && Sim.pos K (lenForm i m)) <;> rw [hb] at e <;> simp only [cond_true, cond_false] at e <;> cases e
    simp only [Bool.and_eq_true] at hb
    obtain ⟨⟨h1, h2⟩, h3⟩ := hb
    have h3 := lenForm_sound hK h3
    obtain ⟨k, hk⟩ := natOf_rel hn (hE ix (by simp))
    have hx := hE x (by simp)
    rw [hE0] at hx
    generalize hq : Value.func (.via 2 b i d) l1 c1 = q at hx
    generalize hq' : E' x = q' at hx
    cases hx <;> first | (cases hq; done) | skip
    rename_i i1 a1 n c hop
    cases hq
    rw [Ev.lenL _ _ _ _ hop] at h3
    have hlt : m < n := by omega
    obtain ⟨f, hm⟩ := elOf_mem hel
    obtain ⟨r, p, cs, ty, fz, ha, hh, hc⟩ := hK.els _ hm _ _ _ hop (by omega)
    subst ha
    have : (0 : Int) ≤ (m : Int) ∧ (m : Int) < (n : Int) := ⟨by omega, by omega⟩
    refine ⟨.pointer (some ⟨r, p + m * s, none⟩), ?_, .opqP _ _ el r p n c hop⟩
    simp [execOp, hq', hk, Instr.indexAt, asIntOf, run_underlying hu, Instr.sureAddr, sizeA_some hs, this, Addr.add_lit, Nat.add_assoc, hlt]
  · rename_i t x ix
    split at e <;> try (cases e; done)
    rename_i m b i d l1 c1 hn hu hE0
    cases hb : Sim.pos K (lenForm i m) <;> rw [hb] at e <;> simp only [cond_true, cond_false] at e <;> cases e
    have h3 := lenForm_sound hK hb
    obtain ⟨k, hk⟩ := natOf_rel hn (hE ix (by simp))
    have hx := hE x (by simp)
    rw [hE0] at hx
    generalize hq : Value.func (.via 1 b i d) l1 c1 = q at hx
    generalize hq' : E' x = q' at hx
    cases hx <;> first | (cases hq; done) | skip
    rename_i i1 s hop
    cases hq
    rw [Ev.lenS _ _ hop] at h3
    have hlt : m < s.size := by omega
    have : (0 : Int) ≤ (m : Int) ∧ (m : Int) < (s.size : Int) := ⟨by omega, by omega⟩
    refine ⟨.int .u8 (s[m]'hlt).toNat, ?_, .topI _ _⟩
    simp [execOp, hq', hk, Instr.index, asIntOf, run_underlying hu, this, hlt]
  · cases e

/-- AN OPERATION ON FORMS, in any world -/
theorem symA_sound (hK : FactsOk K) {E E' : Operand → Value} {o : Oper} {v : Value} (e : symA P K E o.op = some v) (hE : ∀ x ∈ o.op.operands, VR ρ (E x) (E' x)) (w : World)
    (hO : ∀ (r : Nat) (o : Obj), Ev.heap r = some o → w.heap[r]? = some o) : ∃ v', (execOp E' o).run P w = .ok (.value v') w ∧ VR ρ v v' := by
  obtain ⟨dst, op, type, pos, after, guard⟩ := o
  unfold symA at e
  simp only [Op.operands] at hE
  simp only at e
  split at e
  · rename_i op t x y yt
    obtain ⟨v', h1, h2⟩ := symBin_sound hK e (hE x (by simp)) (hE y (by simp)) x y w
    refine ⟨v', ?_, h2⟩
    simp only [execOp]
    rw [Sem.run_bind, h1]; rfl
  · rename_i op t x
    split at e <;> cases e
    · rename_i k f hl
      have hx := linOf_rel hl (hE x (by simp))
      refine ⟨.int k (k.wrap (0 - evalL f)), ?_, ?_⟩
      · simp only [execOp]
        rw [Sem.run_bind, hx]; rfl
      · have := mkI_rel (ρ := ρ) hK k (mulL (-1) f)
        rw [eval_mul] at this
        rw [show (0 : Int) - evalL f = -1 * evalL f from by omega]
        exact this
    · rename_i c f hb
      obtain ⟨hx, hc⟩ := boolOf_rel hb (hE x (by simp))
      refine ⟨.bool (!bval c f), ?_, negB_rel c f hc⟩
      simp only [execOp]
      rw [Sem.run_bind, hx]; rfl
  · rename_i c a b
    split at e <;> try (cases e; done)
    rename_i c0 f hb
    obtain ⟨hx, hc⟩ := boolOf_rel hb (hE c (by simp))
    split at e <;> cases e
    · rename_i hd
      have := decB_sound hK hd
      exact ⟨E' a, by simp [execOp, hx, asBool, ← this], hE a (by simp)⟩
    · rename_i hd
      have := decB_sound hK hd
      exact ⟨E' b, by simp [execOp, hx, asBool, ← this], hE b (by simp)⟩
  · rename_i src dst' x
    split at e <;> try (cases e; done)
    rename_i k0 k a s l c h1 h2 h3
    have hx0 := hE x (by simp)
    rw [h3] at hx0
    split at e
    · cases e
      rename_i k1 f hl
      have hx := linOf_rel hl hx0
      refine ⟨.int k (k.wrap (evalL f)), ?_, mkI_rel hK _ _⟩
      simp only [execOp]
      rw [Sem.run_bind, hx]
      simp [convert, run_underlying h1, run_underlying h2, Conv.intToInt]
    · split at e <;> try (cases e; done)
      rename_i f hw
      cases e
      have hx := asW_rel hK hw hx0
      refine ⟨.int .u32 (.ofNat (wval f)), ?_, wordV_rel f⟩
      simp only [execOp]
      rw [Sem.run_bind, hx]
      have := (w_in f).2
      simp [convert, run_underlying h1, run_underlying h2, Conv.intToInt]
      simpa using this
  · rename_i c
    obtain ⟨callee, args, ts⟩ := c
    simp only [Call.operands] at hE
    simp only at e
    have hargs : VRs ρ (args.toList.map E) (args.toList.map E') := map_rel _ fun x hx => hE x (by
      cases callee <;> simp <;> first | exact .inr (by simpa using hx) | simpa using hx)
    generalize hys : args.toList.map E' = ys at hargs
    split at e
    · generalize hxs : args.toList.map E = xs at e hargs
      cases xs with
      | nil => cases e
      | cons x l =>
        cases hargs with
        | cons _ x' _ l' hx hl =>
          obtain ⟨v', h1, h2⟩ := minS_sound (P := P) hK w false l x x' l' v e hx hl
          simp only [cond_false] at h1
          refine ⟨v', ?_, h2⟩
          simp only [execOp, resolve, Sem.run_bind, Sem.run_pure, Result.andThen_ok, invoke]
          rw [arr_map, hys]
          simp only [builtin, Builtin.min_]; rw [Sem.run_bind, h1]; rfl
    · generalize hxs : args.toList.map E = xs at e hargs
      cases xs with
      | nil => cases e
      | cons x l =>
        cases hargs with
        | cons _ x' _ l' hx hl =>
          obtain ⟨v', h1, h2⟩ := minS_sound (P := P) hK w true l x x' l' v e hx hl
          simp only [cond_true] at h1
          refine ⟨v', ?_, h2⟩
          simp only [execOp, resolve, Sem.run_bind, Sem.run_pure, Result.andThen_ok, invoke]
          rw [arr_map, hys]
          simp only [builtin, Builtin.max_]; rw [Sem.run_bind, h1]; rfl
    · split at e <;> try (cases e; done)
      rename_i t x ht hxs
      rw [hxs] at hargs
      cases hargs with
      | cons _ x' _ l' hx hl =>
        cases hl
        have exact' : ∀ u, VR ρ x u → u = x' ∨ True := fun _ _ => .inr trivial
        split at e
        · rename_i b i d l1 c1 hu
          cases e
          generalize hq : Value.func (.via 1 b i d) l1 c1 = q at hx
          cases hx <;> first | (cases hq; done) | skip
          rename_i i1 s hop
          cases hq
          refine ⟨.int .i64 s.size, ?_, ?_⟩
          · simp only [execOp, resolve, Sem.run_bind, Sem.run_pure, Result.andThen_ok, invoke]
            rw [arr_map, hys]
            obtain ⟨ts⟩ := ts
            dsimp only at ht
            subst ht
            simp [builtin, Builtin.len_, run_underlying hu, goInt]
          · have := symV_rel (ρ := ρ) .i64 (0 :: unitL i)
            rw [eval_unit, Int.zero_add, Ev.lenS _ _ hop] at this
            exact this
        · rename_i el b i d l1 c1 hu
          cases e
          generalize hq : Value.func (.via 2 b i d) l1 c1 = q at hx
          cases hx <;> first | (cases hq; done) | skip
          rename_i i1 a1 n c hop
          cases hq
          refine ⟨.int .i64 n, ?_, ?_⟩
          · simp only [execOp, resolve, Sem.run_bind, Sem.run_pure, Result.andThen_ok, invoke]
            rw [arr_map, hys]
            obtain ⟨ts⟩ := ts
            dsimp only at ht
            subst ht
            simp [builtin, Builtin.len_, run_underlying hu, goInt]
          · have := symV_rel (ρ := ρ) .i64 (0 :: unitL i)
            rw [eval_unit, Int.zero_add, Ev.lenL _ _ _ _ hop] at this
            exact this
        · rename_i x o1 x2 n1 n2
          cases hs : isSym x <;> rw [hs] at e <;> simp only [cond_true, cond_false] at e
          · cases e
          have hb : builtinA P .len ts.toList [weak x] = some v := by rw [ht]; exact e
          obtain ⟨v', h1, h2⟩ := builtinA_sound (ty := type) (cs := args.map fun | .const _ => true | _ => false) hb (.cons _ _ _ _ (weak_rel hx) .nil) w
          refine ⟨v', ?_, h2⟩
          simp only [execOp, resolve, Sem.run_bind, Sem.run_pure, Result.andThen_ok, invoke]
          rw [arr_map, hys]
          exact h1
    · cases e
  · exact opqA_sound (o := ⟨dst, _, type, pos, after, guard⟩) hK e hE w hO

/-! ways -/
theorem maxAt_get : ∀ (l : List Int) (i : Nat) (v : Int) (j : Nat) (a : Int), (maxAt l i v)[j]? = some a → (∃ b, l[j]? = some b ∧ (a = b ∨ (j = i ∧ a = v)))
  | [], i, v, j, a, h => by simp [maxAt] at h
  | x :: l, 0, v, j, a, h => by
    cases j with
    | zero =>
      simp only [maxAt, List.getElem?_cons_zero, Option.some.injEq] at h
      refine ⟨x, rfl, ?_⟩
      cases hd : decide (x ≤ v) <;> rw [hd] at h <;> simp at h
      · exact .inl h.symm
      · exact .inr ⟨rfl, h.symm⟩
    | succ j => simp only [maxAt, List.getElem?_cons_succ] at h ⊢; exact ⟨a, h, .inl rfl⟩
  | x :: l, i + 1, v, j, a, h => by
    cases j with
    | zero => simp only [maxAt, List.getElem?_cons_zero] at h ⊢; exact ⟨a, h, .inl rfl⟩
    | succ j =>
      simp only [maxAt, List.getElem?_cons_succ] at h ⊢
      obtain ⟨b, h1, h2⟩ := maxAt_get l i v j a h
      exact ⟨b, h1, h2.imp id fun ⟨h3, h4⟩ => ⟨by omega, h4⟩⟩
theorem minAt_get : ∀ (l : List Int) (i : Nat) (v : Int) (j : Nat) (a : Int), (minAt l i v)[j]? = some a → (∃ b, l[j]? = some b ∧ (a = b ∨ (j = i ∧ a = v)))
  | [], i, v, j, a, h => by simp [minAt] at h
  | x :: l, 0, v, j, a, h => by
    cases j with
    | zero =>
      simp only [minAt, List.getElem?_cons_zero, Option.some.injEq] at h
      refine ⟨x, rfl, ?_⟩
      cases hd : decide (v ≤ x) <;> rw [hd] at h <;> simp at h
      · exact .inl h.symm
      · exact .inr ⟨rfl, h.symm⟩
    | succ j => simp only [minAt, List.getElem?_cons_succ] at h ⊢; exact ⟨a, h, .inl rfl⟩
  | x :: l, i + 1, v, j, a, h => by
    cases j with
    | zero => simp only [minAt, List.getElem?_cons_zero] at h ⊢; exact ⟨a, h, .inl rfl⟩
    | succ j =>
      simp only [minAt, List.getElem?_cons_succ] at h ⊢
      obtain ⟨b, h1, h2⟩ := minAt_get l i v j a h
      exact ⟨b, h1, h2.imp id fun ⟨h3, h4⟩ => ⟨by omega, h4⟩⟩

theorem addF_ok (hK : FactsOk K) {f : List Int} (h : 0 ≤ evalL f) : FactsOk (addF K f) := by
  unfold addF
  cases f with
  | nil => exact hK
  | cons c cs =>
    simp only
    split
    · rename_i i a ho
      obtain ⟨h1, h2⟩ := oneVar_spec cs 0 ho
      simp only [evalL] at h
      rw [h2] at h
      rcases h1 with rfl | rfl
      · simp only [beq_self_eq_true, cond_true]
        refine ⟨fun j a ha => ?_, hK.hi, hK.cs, hK.con, hK.cells, hK.els⟩
        obtain ⟨b, k1, k2⟩ := maxAt_get _ _ _ _ _ ha
        have := hK.lo j b k1
        rcases k2 with rfl | ⟨rfl, rfl⟩
        · exact this
        · omega
      · have : ((-1 : Int) == 1) = false := rfl
        simp only [this, cond_false]
        refine ⟨hK.lo, fun j a ha hb => ?_, hK.cs, hK.con, hK.cells, hK.els⟩
        obtain ⟨b, k1, k2⟩ := minAt_get _ _ _ _ _ ha
        rcases k2 with rfl | ⟨rfl, rfl⟩
        · exact hK.hi j _ k1 hb
        · omega
    · refine ⟨hK.lo, hK.hi, fun g hg => ?_, hK.con, hK.cells, hK.els⟩
      rcases List.mem_cons.1 hg with rfl | hg
      · exact h
      · exact hK.cs g hg
theorem addF_or (hK : FactsOk K) (f : List Int) : FactsOk (addF K f) ∨ FactsOk (addF K (notL f)) := by
  by_cases h : 0 ≤ evalL f
  · exact .inl (addF_ok hK h)
  · exact .inr (addF_ok hK (by rw [eval_not]; omega))
theorem addF_con (K : Facts) (f : List Int) : (addF K f).con = K.con := by
  unfold addF
  split
  · rfl
  · split
    · rename_i i a _
      cases a == 1 <;> rfl
    · rfl

theorem get_withK (h : H) (K : Facts) (b : Nat) : (h.withK K).get b = h.get b := rfl
theorem HR.withK {hp : Array Obj} (R : HR P B ρ h hp) (hK : FactsOk K) : HR P B ρ (h.withK K) hp :=
  ⟨R.n, R.base, R.lt, R.low, R.glob, R.obj, R.inj, R.room, hK, R.old⟩
theorem HR.forks {hp : Array Obj} (R : HR P B ρ h hp) (f : List Int) : HR P B ρ (h.withK (addF h.k f)) hp ∨ HR P B ρ (h.withK (addF h.k (notL f))) hp :=
  (addF_or R.k f).imp (fun h => R.withK h) (fun h => R.withK h)

/-! calls that are not entered -/
theorem isUnit_spec : ∀ {i : Nat} {f : List Int}, isUnit i f = true → f = unitL i
  | 0, f, h => by
    unfold isUnit at h
    split at h
    · rename_i c heq; simp at h; rw [h]; rfl
    · rename_i heq; cases heq
    · cases h
  | i + 1, [], h => by cases h
  | i + 1, c :: f, h => by
    simp only [isUnit] at h
    cases hc : c == 0 <;> rw [hc] at h <;> simp only [cond_true, cond_false] at h
    · cases h
    simp at hc
    rw [hc, isUnit_spec h]; rfl
theorem isOpq_rel (hK : FactsOk K) {v v' : Value} {i : Nat} (h : isOpq K.cells i v = true) (hv : VR ρ v v') : v' = Ev.op i := by
  unfold isOpq at h
  split at h
  · cases h
  · rename_i hno
    have := Nat.eq_of_beq_eq_true h
    subst this
    cases hv
    · rfl
    · rename_i h; exact h.symm
    · exact (hno rfl).elim
    · rename_i h; exact h.symm
  · rename_i a s l c
    split at h <;> try (cases h; done)
    rename_i b c0 f hc hl
    simp only [Bool.and_eq_true] at h
    obtain ⟨⟨⟨h1, h2⟩, h3⟩, h4⟩ := h
    have hb := Nat.eq_of_beq_eq_true h2
    subst hb
    generalize hq : Value.func (.methodOf a s) l c = q at hv
    cases hv <;> first | (cases hq; done) | skip
    · rename_i k f'
      cases hq
      have e1 := intsV_map hl
      simp only at e1
      have e2 := map_int_inj e1
      subst e2
      simp at h3
      subst h3
      rw [isUnit_spec h4]
      rw [hK.cells i k hc]
      congr 1
      simp only [evalL]
      rw [dot_unit, Nat.zero_add, Int.zero_add]
    · rename_i c' f' hc'
      cases hq
      exact absurd (Nat.le_trans hc' (Nat.le_of_ble_eq_true h1)) (by decide)
    · cases hq
      cases h1
  · cases h
theorem areOpq_rel (hK : FactsOk K) : ∀ {is : List Nat} {vs vs' : List Value}, areOpq K.cells is vs = true → VRs ρ vs vs' → vs' = is.map Ev.op
  | [], [], _, _, hv => by cases hv; rfl
  | [], _ :: _, _, h, _ => by cases h
  | _ :: _, [], _, h, _ => by cases h
  | i :: is, v :: vs, _, h, hv => by
    cases hv with
    | cons _ v' _ l' hv hl =>
      unfold areOpq at h
      cases hb : isOpq K.cells i v <;> rw [hb] at h <;> simp only [cond_true, cond_false] at h
      · cases h
      rw [isOpq_rel hK hb hv, areOpq_rel hK h hl]; rfl
theorem cpA_rel (hK : FactsOk K) {p : CP} {v v' : Value} (h : cpA K.cells p v = true) (hv : VR ρ v v') : v' = p.real := by
  unfold cpA at h
  split at h
  · have := areOpq_rel hK h (.cons _ _ _ _ hv .nil)
    simpa [CP.real] using this
  · cases hv with
    | agg cs ds h' =>
      rw [areOpq_rel hK h h']; rfl
  · cases h
theorem cpsA_rel (hK : FactsOk K) : ∀ {ps : List CP} {vs vs' : List Value}, cpsA K.cells ps vs = true → VRs ρ vs vs' → vs' = ps.map CP.real
  | [], [], _, _, hv => by cases hv; rfl
  | [], _ :: _, _, h, _ => by cases h
  | _ :: _, [], _, h, _ => by cases h
  | p :: ps, v :: vs, _, h, hv => by
    cases hv with
    | cons _ v' _ l' hv hl =>
      unfold cpsA at h
      cases hb : cpA K.cells p v <;> rw [hb] at h <;> simp only [cond_true, cond_false] at h
      · cases h
      rw [cpA_rel hK hb hv, cpsA_rel hK h hl]; rfl
theorem conA_rel (hK : FactsOk K) {g : FuncId} {as bs : List Value} {v : Value} (hv : VRs ρ as bs) : ∀ {l : List (FuncId × List CP × Value)}, conA K.cells g as l = some v → (∀ e ∈ l, Ev.con e.1 (e.2.1.map CP.real) e.2.2) → Ev.con g bs v
  | [], h, _ => by cases h
  | (f, ps, u) :: l, h, hc => by
    unfold conA at h
    cases hb : (Nat.beq f g && cpsA K.cells ps as) <;> rw [hb] at h <;> simp only [cond_true, cond_false] at h
    · exact conA_rel hK hv h fun e he => hc e (by simp [he])
    · cases h
      rw [Bool.and_eq_true] at hb
      have := hc _ (List.mem_cons_self ..)
      rw [cpsA_rel hK hb.2 hv, ← Nat.eq_of_beq_eq_true hb.1]
      exact this
end Go.Sim


/- The abstract machine: frames. -/
namespace Go.Sim
open Go.RowKit
set_option linter.unusedVariables false
set_option linter.unusedSimpArgs false
set_option linter.unusedSectionVars false
variable [Ev]

variable {P : Program} {B : Nat} {ρ : Map} {h : H} {w : World}

theorem notIn_spec {l : List Nat} {i : Nat} : notIn l i = true ↔ i ∉ l := by
  induction l with
  | nil => simp [notIn]
  | cons x l ih =>
    simp only [notIn]
    cases hb : Nat.beq x i
    · have : x ≠ i := by intro h; rw [h] at hb; simp at hb
      simp only [cond_false, ih, List.mem_cons, not_or]
      exact ⟨fun h => ⟨fun e => this e.symm, h⟩, fun h => h.2⟩
    · have : x = i := Nat.eq_of_beq_eq_true hb
      subst this
      simp

theorem eraseN_spec {l : List Nat} {i j : Nat} : j ∈ eraseN l i ↔ j ∈ l ∧ j ≠ i := by
  induction l with
  | nil => simp [eraseN]
  | cons x l ih =>
    simp only [eraseN]
    cases hb : Nat.beq x i
    · have : x ≠ i := by intro h; rw [h] at hb; simp at hb
      simp only [cond_false, List.mem_cons, ih]
      constructor
      · rintro (rfl | h)
        · exact ⟨.inl rfl, this⟩
        · exact ⟨.inr h.1, h.2⟩
      · rintro ⟨rfl | h, hh⟩
        · exact .inl rfl
        · exact .inr ⟨h, hh⟩
    · have : x = i := Nat.eq_of_beq_eq_true hb
      subst this
      simp only [cond_true, ih, List.mem_cons]
      constructor
      · rintro ⟨h1, h2⟩; exact ⟨.inr h1, h2⟩
      · rintro ⟨rfl | h1, h2⟩
        · exact absurd rfl h2
        · exact ⟨h1, h2⟩

theorem setL_eq : ∀ (l : List Value) (i : Nat) (v : Value), setL l i v = l.set i v
  | [], _, _ => rfl
  | _ :: _, 0, _ => rfl
  | x :: l, n + 1, v => by simp [setL, setL_eq l n v]

structure RegSpec (ops : Array Oper) : Prop where
  down : ∀ (i : Nat) (o : Oper) (e : Edge), ops[i]? = some o → e ∈ o.after → Region.binds .any e = true → e.on < i
  reads : ∀ (i j : Nat) (o p : Oper) (d : Tmp), ops[i]? = some o → ops[j]? = some p → p.dst = some d → d ∈ o.looksAt ops → (∃ e ∈ o.after, Region.binds .any e = true ∧ e.on = j) ∨ (lateA ops j = true ∧ i ∈ anc ops j [j])
  once : ∀ (i j : Nat) (o p : Oper) (d : Tmp), ops[i]? = some o → ops[j]? = some p → p.dst = some d → i ≠ j → o.dst ≠ some d

theorem regOk_spec {ops : Array Oper} (h : regOk ops = true) : RegSpec ops := by
  unfold regOk at h
  rw [List.all_eq_true] at h
  have lt : ∀ (i : Nat) (o : Oper), ops[i]? = some o → i < ops.size := fun i o hi => (Array.getElem?_eq_some_iff.1 hi).1
  have key : ∀ (i : Nat) (o : Oper), ops[i]? = some o → (o.after.toList.all fun e => !Region.binds .any e || Nat.blt e.on i) = true ∧
      ∀ (j : Nat) (p : Oper) (d : Tmp), ops[j]? = some p → p.dst = some d →
        (notIn (o.looksAt ops) d || directA o j || !notIn (anc ops j [j]) i) = true ∧ (Nat.beq i j || (match o.dst with | some d' => !Nat.beq d d' | none => true)) = true := by
    intro i o hi
    have h1 := h i (by simp [lt i o hi])
    simp only [hi, Bool.and_eq_true] at h1
    refine ⟨h1.1, fun j p d hj hd => ?_⟩
    have h2 := h1.2
    rw [List.all_eq_true] at h2
    have h3 := h2 j (by simp [lt j p hj])
    simp only [hj, hd, Bool.and_eq_true] at h3
    exact h3
  refine ⟨?_, ?_, ?_⟩
  · intro i o e hi he hb
    have h1 := (key i o hi).1
    rw [List.all_eq_true] at h1
    have h2 := h1 e (by simpa using he)
    rw [hb] at h2
    simpa [Nat.blt_eq] using h2
  · intro i j o p d hi hj hd hr
    have h1 := ((key i o hi).2 j p d hj hd).1
    cases hdir : directA o j with
    | true =>
      unfold directA at hdir
      rw [List.any_eq_true] at hdir
      obtain ⟨e, he, hb⟩ := hdir
      simp only [Bool.and_eq_true] at hb
      exact .inl ⟨e, by simpa using he, hb.1, Nat.eq_of_beq_eq_true hb.2⟩
    | false =>
      right
      rw [hdir, Bool.or_false, Bool.or_eq_true] at h1
      rcases h1 with h1 | h1
      · rw [notIn_spec] at h1; exact absurd hr h1
      · refine ⟨?_, ?_⟩
        · unfold lateA
          simp only [hj, hd]
          rw [List.any_eq_true]
          refine ⟨i, by simp [lt i o hi], ?_⟩
          simp only [hi, hdir, Bool.not_false, Bool.and_true]
          cases hq : notIn (o.looksAt ops) d with
          | false => rfl
          | true => rw [notIn_spec] at hq; exact absurd hr hq
        · cases hq : notIn (anc ops j [j]) i with
          | true => rw [hq] at h1; cases h1
          | false =>
            apply Classical.byContradiction
            intro hn
            rw [← notIn_spec] at hn
            rw [hn] at hq
            cases hq
  · intro i j o p d hi hj hd hne hod
    have h1 := ((key i o hi).2 j p d hj hd).2
    rw [hod] at h1
    rw [Bool.or_eq_true] at h1
    rcases h1 with h1 | h1
    · exact hne (Nat.eq_of_beq_eq_true h1)
    · simp at h1

/-! frames -/

inductive IR (ρ : Map) : AI → Item → Prop
  | code (c) : IR ρ (.code c) (.code c)
  | inBlock (id) : IR ρ (.inBlock id) (.inBlock id)
  | inLoop (b) : IR ρ (.inLoop b) (.inLoop b)
  | inScope (b) : IR ρ (.inScope b) (.inScope b)
  | reg (ops l) : IR ρ (.reg ops l) (.inRegion ops l)
  | inRangeFunc (l r) (h : ρ[l]? = some (some (r, 0))) : IR ρ (.inRangeFunc l) (.inRangeFunc r)
  | endRangeFunc (l r) (h : ρ[l]? = some (some (r, 0))) : IR ρ (.endRangeFunc l) (.endRangeFunc r)
  | beginRound : IR ρ .beginRound .beginRound

theorem IR.mono {ρ ρ' : Map} (hl : le ρ ρ') {a : AI} {b : Item} (h : IR ρ a b) : IR ρ' a b := by
  cases h with
  | code c => exact .code c
  | inBlock c => exact .inBlock c
  | inLoop c => exact .inLoop c
  | inScope c => exact .inScope c
  | reg a b => exact .reg a b
  | inRangeFunc l r h => exact .inRangeFunc l r (hl _ _ h)
  | endRangeFunc l r h => exact .endRangeFunc l r (hl _ _ h)
  | beginRound => exact .beginRound

structure TR (ρ : Map) (no : Nat → Prop) (la : List Value) (ra : Array Value) : Prop where
  len : la.length = ra.size
  val : ∀ (t : Nat) (v : Value), ¬ no t → la[t]? = some v → ∃ v', ra[t]? = some v' ∧ VR ρ v v'

theorem TR.mono {ρ ρ' : Map} (hl : le ρ ρ') {no no' : Nat → Prop} (hn : ∀ t, no t → no' t) {la : List Value} {ra : Array Value} (h : TR ρ no la ra) : TR ρ' no' la ra :=
  ⟨h.len, fun t v ht hv => let ⟨v', a, b⟩ := h.val t v (fun hh => ht (hn t hh)) hv; ⟨v', a, b.mono hl⟩⟩

theorem undef_rel (ρ : Map) : VR ρ undef undef := .tuple [] [] .nil

theorem TR.get {no : Nat → Prop} {la : List Value} {ra : Array Value} (h : TR ρ no la ra) (t : Nat) (ht : ¬ no t) : VR ρ (la.getD t undef) (ra.getD t undef) := by
  cases hv : la[t]? with
  | none =>
    have h1 : la.length ≤ t := List.getElem?_eq_none_iff.1 hv
    have h2 : ra[t]? = none := Array.getElem?_eq_none (by rw [← h.len]; exact h1)
    rw [List.getD_eq_getElem?_getD, hv, Array.getD_eq_getD_getElem?, h2]
    exact undef_rel ρ
  | some v =>
    obtain ⟨v', h1, h2⟩ := h.val t v ht hv
    rw [List.getD_eq_getElem?_getD, hv, Array.getD_eq_getD_getElem?, h1]
    exact h2

theorem TR.ev {no : Nat → Prop} {la : List Value} {ra : Array Value} (h : TR ρ no la ra) (ds : List Deferred) (hg : ∀ g, g < P.globals.size → ρ[g]? = some (some (g, 0))) (x : Operand) (hx : ∀ t, x = .tmp t → ¬ no t) : VR ρ (ev P la x) (Act.eval ⟨ra, ds⟩ x) := by
  cases x with
  | tmp t =>
    show VR ρ (getR la t) _
    rw [getR_eq]
    exact h.get t (hx t rfl)
  | const v => exact constOf_rel ρ v
  | global g =>
    show VR ρ (bif Nat.blt g P.globals.size then _ else _) (.pointer (some ⟨g, 0, none⟩))
    cases hb : Nat.blt g P.globals.size
    · exact .bad _
    · exact .ptr g 0 g 0 (hg g (by simpa [Nat.blt_eq] using hb))
  | func f => exact .func f [] [] [] [] .nil .nil

theorem TR.put {no no' : Nat → Prop} {la : List Value} {ra : Array Value} (h : TR ρ no la ra) (dst : Option Tmp) {v v' : Value} (hv : VR ρ v v') (hn : ∀ t, no t → no' t ∨ dst = some t) :
    TR ρ no' (putA la dst v) (Act.put ⟨ra, []⟩ dst v').tmps := by
  cases dst with
  | none =>
    refine ⟨h.len, fun t u ht hu => h.val t u (fun hh => ?_) hu⟩
    rcases hn t hh with h1 | h1
    · exact ht h1
    · cases h1
  | some d =>
    simp only [putA, setR_eq, setL_eq, Act.put]
    refine ⟨by simp [h.len], ?_⟩
    intro t u ht hu
    rw [List.getElem?_set] at hu
    rw [Array.getElem?_setIfInBounds]
    split at hu
    · rename_i e
      subst e
      rw [if_pos rfl]
      split at hu
      · rename_i hl
        cases hu
        rw [if_pos (by rw [← h.len]; exact hl)]
        exact ⟨v', rfl, hv⟩
      · cases hu
    · rename_i e
      rw [if_neg e]
      refine h.val t u (fun hh => ?_) hu
      rcases hn t hh with h1 | h1
      · exact ht h1
      · cases h1; exact e rfl

/-- what the variable of an operation holds -/
def dstIs (la : List Value) (o : Oper) (v : Value) : Prop := ∀ d, o.dst = some d → d < la.length → la[d]? = some v

/-- whether an operation is wanted -/
def Wanted (ops : Array Oper) (la : List Value) (o : Oper) (b : Bool) : Prop := ∃ K, FactsOk K ∧ wantedK K ops la o = some b

inductive Pend (P : Program) (ρ : Map) (h : H) (dep : Nat) (ops : Array Oper) (fp : List (Nat × Nat)) (la : List Value) (i : Nat) : Prop
  | skip (o : Oper) (ho : ops[i]? = some o) (hw : Wanted ops la o false) (hd : dstIs la o undef)
  | val (o : Oper) (ho : ops[i]? = some o) (hw : Wanted ops la o true) (v : Value) (r : List Nat) (hv : valA P h (ev P la) o = some (v, r)) (hr : ∀ b ∈ r, (i, b) ∈ fp) (hd : dstIs la o v)
  | sym (o : Oper) (ho : ops[i]? = some o) (hw : Wanted ops la o true) (K : Facts) (hK : FactsOk K) (v : Value) (hv : symA P K (ev P la) o.op = some v) (hd : dstIs la o v)
  | new (o : Oper) (ho : ops[i]? = some o) (hw : Wanted ops la o true) (cs : List Value) (e : TypeId) (mk : Nat → Value) (b : Nat) (hv : newA P (ev P la) o = some (cs, e, mk))
      (hb : h.get b = some (.cells cs e (dep, i))) (hf : (i, b) ∈ fp) (hn : ρ[b]? = some none) (hd : dstIs la o (mk b))

/-- an operation that has been carried out ahead and not yet by the machine -/
def early (rest : List Nat) (listed : Array Bool) (i : Nat) : Prop := listed[i]? = some false ∧ i ∉ rest

structure Drawn (P : Program) (ρ : Map) (h : H) (dep : Nat) (ops : Array Oper) (rest : List Nat) (fp : List (Nat × Nat)) (la : List Value) (ra : Array Value) (rr : List Nat) : Prop where
  spec : RegSpec ops
  list : ∃ (fuel t : Nat) (listed : Array Bool), rr = Region.linearise.go .any ops fuel t listed [] ∧ listed.size = ops.size ∧ (∀ i, listed[i]? = some false → i ∈ rr) ∧
    (∀ i ∈ rest, listed[i]? = some false) ∧ (∀ i o e, early rest listed i → ops[i]? = some o → e ∈ o.after → Region.binds .any e = true → e.on ∉ rest) ∧ (∀ i, early rest listed i → Pend P ρ h dep ops fp la i) ∧
    TR ρ (fun t => ∃ i o, early rest listed i ∧ ops[i]? = some o ∧ o.dst = some t) la ra ∧
    (∀ (i : Nat) (o : Oper) (e : Edge), listed[i]? = some true → ops[i]? = some o → e ∈ o.after → Region.binds .any e = true → listed[e.on]? = some true) ∧
    (∀ i, early rest listed i → lateA ops i = false)

inductive PR' (ρ : Map) : PanicEntry → PanicEntry → Prop
  | mk (v v' : Value) (r g : Bool) (h : VR ρ v v') : PR' ρ ⟨v, r, g⟩ ⟨v', r, g⟩

inductive MoR (ρ : Map) : FrameMode → FrameMode → Prop
  | run : MoR ρ .run .run
  | returning : MoR ρ .returning .returning
  | panicking (a b : List PanicEntry) (h : LsR (PR' ρ) a b) : MoR ρ (.panicking a) (.panicking b)

theorem MoR.mono {ρ ρ' : Map} (hl : le ρ ρ') {a b : FrameMode} (h : MoR ρ a b) : MoR ρ' a b := by
  cases h with
  | run => exact .run
  | returning => exact .returning
  | panicking a b h => exact .panicking a b (h.mono fun _ _ k => by cases k with | mk v v' r g h => exact .mk v v' r g (h.mono hl))

inductive BodyR (P : Program) (ρ : Map) (h : H) (dep : Nat) : AF → Frame → Prop
  | plain (fa : AF) (fr : Frame) (hm : fa.mode = .run) (todo : LsR (IR ρ) fa.todo fr.todo) (tr : TR ρ (fun _ => False) fa.tmps fr.tmps) : BodyR P ρ h dep fa fr
  | drawn (fa : AF) (fr : Frame) (hm : fa.mode = .run) (ops : Array Oper) (rest : List Nat) (fp : List (Nat × Nat)) (cur : Option Nat) (ka : List AI) (rr : List Nat) (kr : List Item)
      (ha : fa.todo = .drawn ops rest fp cur :: ka) (hr : fr.todo = .inRegion ops rr :: kr) (todo : LsR (IR ρ) ka kr) (dr : Drawn P ρ h dep ops rest fp fa.tmps fr.tmps rr)
      (hc : ∀ i, cur = some i → i ∈ rest ∧ ∃ l, rr = i :: l) : BodyR P ρ h dep fa fr
  | out (fa : AF) (fr : Frame) (hm : fa.mode ≠ .run) (tr : TR ρ (fun _ => False) fa.tmps fr.tmps) : BodyR P ρ h dep fa fr

structure FR (P : Program) (ρ : Map) (h : H) (dep : Nat) (fa : AF) (fr : Frame) : Prop where
  fn : fr.fn = fa.fn
  kind : fr.kind = fa.kind
  mode : MoR ρ fa.mode fr.mode
  round : OptR (fun l r => ρ[l]? = some (some (r, 0))) fa.roundOf fr.roundOf
  defers : LsR (DR ρ) fa.defers fr.defers
  func : ∃ f, P.funcs[fr.fn]? = some f
  body : BodyR P ρ h dep fa fr

inductive FRs (P : Program) (ρ : Map) (h : H) : List AF → List Frame → Prop
  | nil : FRs P ρ h [] []
  | cons (fa fr l l') (hf : FR P ρ h l.length fa fr) (hl : FRs P ρ h l l') : FRs P ρ h (fa :: l) (fr :: l')

theorem valA_frame {h h' : H} {E : Operand → Value} {o : Oper} {v : Value} {r : List Nat} (e : valA P h E o = some (v, r)) (hk : ∀ b x, b ∈ r → h.get b = some x → h'.get b = some x) : valA P h' E o = some (v, r) := by
  obtain ⟨dst, op, type, pos, after, guard⟩ := o
  cases op <;> simp only [valA] at e ⊢ <;> first | exact e | skip
  case load t a =>
    unfold loadA at e ⊢
    split at e
    · rename_i b off hE
      cases g : h.get b with
      | none => simp [g] at e
      | some ob =>
        have hb : b ∈ r := by
          rw [g] at e
          revert e
          cases hro : rowOf ob <;> simp only [Option.bind_some, hro] <;> first | (intro e; cases e; done) | skip
          repeat' split
          all_goals (first | (intro e; cases e; simp; done) | (intro e; cases e; done) | (cases cellB _ <;> intro e <;> cases e; simp))
        rw [hk b ob hb g]
        rw [g] at e
        exact e
    · cases e
  case convert src dst' x =>
    cases hs : (P.underlying src).isSome <;> rw [hs] at e <;> simp only [cond_true, cond_false] at e ⊢
    case false => cases e
    generalize E x = q at e ⊢
    unfold convA at e ⊢
    cases q <;> simp only at e ⊢ <;> first | exact e | skip
    case chan r0 => cases r0 <;> exact e
    rename_i a n c
    split at e <;> first | exact e | (cases e; done) | skip
    rename_i el h1 h2
    split at e <;> first | exact e | (cases e; done) | skip
    split at e <;> first | exact e | (cases e; done) | skip
    rename_i b off
    cases g : h.get b with
    | none => simp [g] at e
    | some ob =>
      have hb : b ∈ r := by
        rw [g] at e
        revert e
        cases hro : rowOf ob <;> simp only [Option.bind_some, hro] <;> first | (intro e; cases e; done) | skip
        repeat' split
        all_goals (first | (intro e; cases e; simp; done) | (intro e; cases e; done))
      rw [hk b ob hb g]
      rw [g] at e
      exact e
  case lookup t x ix ok =>
    unfold lookA at e ⊢
    cases hm : mapT P t with
    | none => simp [hm] at e
    | some p =>
      simp only [hm] at e ⊢
      split at e <;> first | (cases e; done) | skip
      · first | exact e | (rename_i hq; simp only [hq]; exact e)
      · rename_i b hq
        cases g : (h.get b).bind entries with
        | none => simp [g] at e
        | some q =>
          have hb : b ∈ r := by
            rw [g] at e
            simp only at e
            split at e <;> cases e
            simp
          have g' : (h'.get b).bind entries = some q := by
            cases g2 : h.get b with
            | none => simp [g2] at g
            | some ob => rw [hk b ob hb g2, ← g2]; exact g
          rw [g] at e
          try simp only [hq]
          simp only [g']
          exact e
  case call c =>
    cases hc : c.callee <;> simp only [hc] at e ⊢ <;> first | exact e | skip
    rename_i bb
    split at e
    · first | exact e | (rename_i hb; simp only [hb]; exact e)
    · rename_i hb
      try simp only [hb]
      unfold mlenA at e ⊢
      split at e <;> first | (cases e; done) | skip
      rename_i t x h1 h2
      cases hm : mapT P t with
      | none => simp [hm] at e
      | some p =>
        simp only [hm] at e ⊢
        split at e <;> first | (cases e; done) | skip
        · exact e
        · rename_i b
          cases g : (h.get b).bind entries with
          | none => simp [g] at e
          | some q =>
            have hb : b ∈ r := by
              rw [g] at e
              cases e
              simp
            have g' : (h'.get b).bind entries = some q := by
              cases g2 : h.get b with
              | none => simp [g2] at g
              | some ob => rw [hk b ob hb g2, ← g2]; exact g
            rw [g] at e
            simp only [g']
            exact e

theorem FR.mono {ρ ρ' : Map} {h h' : H} {dep : Nat} {fa : AF} {fr : Frame} (F : FR P ρ h dep fa fr) (hl : le ρ ρ')
    (keep : ∀ b o, fpIn [fa] b → h.get b = some o → h'.get b = some o) (none : ∀ b cs e i, h.get b = some (.cells cs e (dep, i)) → ρ[b]? = some none → ρ'[b]? = some none) :
    FR P ρ' h' dep fa fr := by
  refine ⟨F.fn, F.kind, F.mode.mono hl, F.round.mono fun _ _ k => hl _ _ k, F.defers.mono fun _ _ k => k.mono hl, F.func, ?_⟩
  cases F.body with
  | plain hm todo tr => exact .plain _ _ hm (todo.mono fun _ _ k => k.mono hl) (tr.mono hl fun _ h => h)
  | out hm tr => exact .out _ _ hm (tr.mono hl fun _ h => h)
  | drawn hm ops rest fp cur ka rr kr ha hr todo dr hc =>
    refine .drawn _ _ hm ops rest fp cur ka rr kr ha hr (todo.mono fun _ _ k => k.mono hl) ?_ hc
    have kp : ∀ i b o, (i, b) ∈ fp → h.get b = some o → h'.get b = some o := fun i b o hb hg => keep b o ⟨fa, by simp, ops, rest, fp, cur, ka, ha, i, hb⟩ hg
    obtain ⟨fuel, t, listed, h1, h2, h3, h4, h45, h5, h6, h7, h8⟩ := dr.list
    refine ⟨dr.spec, fuel, t, listed, h1, h2, h3, h4, h45, fun i hi => ?_, h6.mono hl fun _ h => h, h7, h8⟩
    cases h5 i hi with
    | skip o ho hw hd => exact .skip o ho hw hd
    | val o ho hw v r hv hr hd => exact .val o ho hw v r (valA_frame hv fun b x hb hg => kp i b x (hr b hb) hg) hr hd
    | sym o ho hw K hK v hv hd => exact .sym o ho hw K hK v hv hd
    | new o ho hw cs e mk b hv hb hf hn hd => exact .new o ho hw cs e mk b hv (kp i b _ hf hb) hf (none b cs e i hb hn) hd

theorem FR.withK {dep : Nat} {fa : AF} {fr : Frame} (F : FR P ρ h dep fa fr) (K : Facts) : FR P ρ (h.withK K) dep fa fr := F.mono (.refl _) (fun _ _ _ h => h) (fun _ _ _ _ _ h => h)

theorem FRs.mono {ρ ρ' : Map} {h h' : H} {l : List AF} {l' : List Frame} (F : FRs P ρ h l l') (hl : le ρ ρ')
    (keep : ∀ b o, fpIn l b → h.get b = some o → h'.get b = some o) (none : ∀ b cs e d i, d < l.length → h.get b = some (.cells cs e (d, i)) → ρ[b]? = some none → ρ'[b]? = some none) :
    FRs P ρ' h' l l' := by
  induction F with
  | nil => exact .nil
  | cons fa fr l l' hf hll ih =>
    refine .cons _ _ _ _ (hf.mono hl (fun b o hb hg => keep b o ?_ hg) (fun b cs e i hg hn => none b cs e _ i (by simp) hg hn)) (ih (fun b o hb hg => keep b o ?_ hg) (fun b cs e d i hd hg hn => none b cs e d i (by simp; omega) hg hn))
    · obtain ⟨f, hf', rest⟩ := hb
      simp at hf'
      subst hf'
      exact ⟨f, by simp, rest⟩
    · obtain ⟨f, hf', rest⟩ := hb
      exact ⟨f, by simp [hf'], rest⟩

theorem FRs.withK {l : List AF} {l' : List Frame} (F : FRs P ρ h l l') (K : Facts) : FRs P ρ (h.withK K) l l' := F.mono (.refl _) (fun _ _ _ h => h) (fun _ _ _ _ _ _ _ h => h)

end Go.Sim

/- The abstract machine: steps of an operation. -/
namespace Go.Sim
open Go.RowKit
set_option linter.unusedVariables false
set_option linter.unusedSimpArgs false
set_option linter.unusedSectionVars false
variable [Ev]

variable {P : Program} {B : Nat} {ρ : Map} {h : H} {w : World}

/-! the machine's own steps at an operation -/
section
variable {b : Frame} {a : Act} {k : List Item} {cs : List Frame} {w w' : World} {ops : Array Oper} {i : Nat} {rest : List Nat} {o : Oper}

theorem opStep (ho : ops[i]? = some o) (hw : Region.wanted o (yielded ops a.tmps) = true) (hd : b.roundOf = none ∨ ∀ c, o.op ≠ .defer c) :
    stepG P true { frame := b.atR a (.inRegion ops (i :: rest) :: k), callers := cs, status := .running, dying := none } w =
      stepG.apply P true (b.atR a (.inRegion ops (i :: rest) :: k)) cs none (execOp a.eval o) w := by
  rw [stepGR_op ho hw]
  rcases hd with hd | hd
  · rw [hd]; rfl
  · rw [Oper.semAt_eq _ _ _ hd]

theorem op_value (ho : ops[i]? = some o) (hw : Region.wanted o (yielded ops a.tmps) = true) (hd : b.roundOf = none ∨ ∀ c, o.op ≠ .defer c) {v : Value}
    (hr : (execOp a.eval o).run P w = .ok (.value v) w') :
    step P (lone (b.atR a (.inRegion ops (i :: rest) :: k)) cs w) = .next (lone ((b.atR a (.inRegion ops (i :: rest) :: k)).finish v) cs w') :=
  step_lone_go (by rw [opStep ho hw hd]; simp [stepG.apply, hr])

theorem op_skip (ho : ops[i]? = some o) (hw : Region.wanted o (yielded ops a.tmps) = true) (hd : b.roundOf = none ∨ ∀ c, o.op ≠ .defer c)
    (hr : (execOp a.eval o).run P w = .ok .skip w') :
    step P (lone (b.atR a (.inRegion ops (i :: rest) :: k)) cs w) = .next (lone ((b.atR a (.inRegion ops (i :: rest) :: k)).finish undef) cs w') :=
  step_lone_go (by rw [opStep ho hw hd]; simp [stepG.apply, hr])

theorem op_enter (ho : ops[i]? = some o) (hw : Region.wanted o (yielded ops a.tmps) = true) (hd : b.roundOf = none ∨ ∀ c, o.op ≠ .defer c) {f : FuncId} {args : Array Value}
    (hr : (execOp a.eval o).run P w = .ok (.enter f args) w') :
    step P (lone (b.atR a (.inRegion ops (i :: rest) :: k)) cs w) = .next (lone (Frame.enter P f args .normal) (b.atR a (.inRegion ops (i :: rest) :: k) :: cs) w') :=
  step_lone_go (by rw [opStep ho hw hd]; simp [stepG.apply, hr, Frame.atR])

theorem op_round (ho : ops[i]? = some o) (hw : Region.wanted o (yielded ops a.tmps) = true) (hd : b.roundOf = none ∨ ∀ c, o.op ≠ .defer c) {l : Nat} {f : FuncId} {tmps : Array Value} {x y : Code}
    (hr : (execOp a.eval o).run P w = .ok (.round l f tmps x y) w') :
    step P (lone (b.atR a (.inRegion ops (i :: rest) :: k)) cs w) = .next (lone (Frame.round l f tmps x y .normal) (b.atR a (.inRegion ops (i :: rest) :: k) :: cs) w') :=
  step_lone_go (by rw [opStep ho hw hd]; simp [stepG.apply, hr, Frame.atR])

theorem op_defer (ho : ops[i]? = some o) (hw : Region.wanted o (yielded ops a.tmps) = true) (hd : b.roundOf = none) {d : Deferred}
    (hr : (execOp a.eval o).run P w = .ok (.defer d) w') :
    step P (lone (b.atR a (.inRegion ops (i :: rest) :: k)) cs w) = .next (lone (({ b.atR a (.inRegion ops (i :: rest) :: k) with defers := d :: a.defers } : Frame).finish undef) cs w') :=
  step_lone_go (by rw [opStep ho hw (.inl hd)]; simp [stepG.apply, hr]; rfl)

theorem op_panic (ho : ops[i]? = some o) (hw : Region.wanted o (yielded ops a.tmps) = true) (hd : b.roundOf = none ∨ ∀ c, o.op ≠ .defer c) {v : Value}
    (hr : (execOp a.eval o).run P w = .halt (.panic v) w') :
    step P (lone (b.atR a (.inRegion ops (i :: rest) :: k)) cs w) = .next (lone ((b.atR a (.inRegion ops (i :: rest) :: k)).raise [{ v, recovered := false }]) cs w') :=
  step_lone_go (by rw [opStep ho hw hd]; simp [stepG.apply, hr])

theorem op_recover (ho : ops[i]? = some o) (hw : Region.wanted o (yielded ops a.tmps) = true) (hd : b.roundOf = none)
    (hr : (execOp a.eval o).run P w = .ok .recover w') :
    step P (lone (b.atR a (.inRegion ops (i :: rest) :: k)) cs w) =
      .next (lone ((b.atR a (.inRegion ops (i :: rest) :: k)).finish ((tryRecover (b.atR a (.inRegion ops (i :: rest) :: k)) cs).map (·.1) |>.getD .nilIface))
        ((tryRecover (b.atR a (.inRegion ops (i :: rest) :: k)) cs).map (·.2) |>.getD cs) w') :=
  step_lone_go (by
    rw [opStep ho hw (.inl hd)]
    have hd' : (b.atR a (.inRegion ops (i :: rest) :: k)).roundOf = none := hd
    simp only [stepG.apply, Sem.runT_eq, hr, GStep.bare_after, hd', if_true]
    cases tryRecover (b.atR a (.inRegion ops (i :: rest) :: k)) cs with
    | none => rfl
    | some p => obtain ⟨v, cs'⟩ := p; rfl)
end

/-- a running frame, written out -/
theorem atR_self {fr : Frame} (hm : fr.mode = .run) {todo : List Item} (ht : fr.todo = todo) : fr = fr.atR ⟨fr.tmps, fr.defers⟩ todo := by
  subst ht
  cases fr; simp only at hm; subst hm; rfl

/-! congruence -/

theorem ev_put {la : List Value} {dst : Option Tmp} {v : Value} {x : Operand} (hx : ∀ d, dst = some d → x ≠ .tmp d) : ev P (putA la dst v) x = ev P la x := by
  cases dst with
  | none => rfl
  | some d =>
    cases x with
    | tmp t =>
      have : d ≠ t := fun e => hx d rfl (e ▸ rfl)
      simp only [ev, getR_eq, putA, setR_eq, setL_eq, List.getD_eq_getElem?_getD]
      rw [List.getElem?_set_ne this]
    | _ => rfl

theorem valA_congr {E E' : Operand → Value} {o : Oper} (hE : ∀ x ∈ o.op.operands, E x = E' x) : valA P h E o = valA P h E' o := by
  obtain ⟨dst, op, type, pos, after, guard⟩ := o
  have opt : ∀ (x : Option Operand), (∀ y, x = some y → E y = E' y) → x.map E = x.map E' := by
    intro x hx; cases x <;> simp; exact hx _ rfl
  cases op <;> simp only [valA] <;> simp only [Op.operands] at hE
  case move x => rw [hE x (by simp)]
  case assign x => rw [hE x (by simp)]
  case pick c a b => rw [hE c (by simp), hE a (by simp), hE b (by simp)]
  case build t parts =>
    have : (parts.toList.map fun p => (p.1, E p.2)) = (parts.toList.map fun p => (p.1, E' p.2)) :=
      List.map_congr_left fun p hp => by rw [hE p.2 (by simp only [List.mem_toArray, List.mem_map]; exact ⟨p, hp, rfl⟩)]
    rw [this]
  case load t a => rw [hE a (by simp)]
  case nilCheck x => rw [hE x (by simp)]
  case sliceToArrayPointer t x => rw [hE x (by simp)]
  case binOp op t x y yt => rw [hE x (by simp), hE y (by simp)]
  case unOp op t x => rw [hE x (by simp)]
  case convert s d x => rw [hE x (by simp)]
  case makeInterface t x => rw [hE x (by simp)]
  case makeFunc fn first cap =>
    rw [arr_map E, arr_map E, arr_map E', arr_map E']
    rw [List.map_congr_left (l := first.toList) fun x hx => hE x (by simp; exact .inl (by simpa using hx)), List.map_congr_left (l := cap.toList) fun x hx => hE x (by simp; exact .inr (by simpa using hx))]
  case slice t x lo hi mx => rw [hE x (by simp), opt lo fun y hy => hE y (by simp [hy]), opt hi fun y hy => hE y (by simp [hy]), opt mx fun y hy => hE y (by simp [hy])]
  case fieldAddr s x f => rw [hE x (by simp)]
  case field s x f => rw [hE x (by simp)]
  case indexAddr t x ix => rw [hE x (by simp), hE ix (by simp)]
  case index t x ix => rw [hE x (by simp), hE ix (by simp)]
  case lookup t x ix ok => rw [hE x (by simp), hE ix (by simp)]
  case typeAssert x xt t ok => rw [hE x (by simp)]
  case extract t ix => rw [hE t (by simp)]
  case call c =>
    obtain ⟨callee, args, ts⟩ := c
    simp only [Call.operands] at hE
    cases callee <;> simp only
    rw [List.map_congr_left (l := args.toList) fun x hx => hE x (by simp; simpa using hx)]

theorem symA_congr {K : Facts} {E E' : Operand → Value} {o : Oper} (hE : ∀ x ∈ o.op.operands, E x = E' x) : symA P K E o.op = symA P K E' o.op := by
  obtain ⟨dst, op, type, pos, after, guard⟩ := o
  cases op <;> simp only [symA] <;> simp only [Op.operands] at hE
  case binOp op t x y yt => rw [hE x (by simp), hE y (by simp)]
  case nilCheck x => simp only [opqA]; rw [hE x (by simp)]
  case load t x => simp only [opqA]; rw [hE x (by simp)]
  case fieldAddr s x f => simp only [opqA]; rw [hE x (by simp)]
  case indexAddr t x ix => simp only [opqA]; rw [hE x (by simp), hE ix (by simp)]
  case index t x ix => simp only [opqA]; rw [hE x (by simp), hE ix (by simp)]
  case unOp op t x => rw [hE x (by simp)]
  case pick c a b => rw [hE c (by simp), hE a (by simp), hE b (by simp)]
  case convert s d x => rw [hE x (by simp)]
  case call c =>
    obtain ⟨callee, args, ts⟩ := c
    simp only [Call.operands] at hE
    cases callee <;> simp only
    rw [List.map_congr_left (l := args.toList) fun x hx => hE x (by simp; simpa using hx)]
  all_goals rfl

theorem newA_congr {E E' : Operand → Value} {o : Oper} (hE : ∀ x ∈ o.op.operands, E x = E' x) : newA P E o = newA P E' o := by
  obtain ⟨dst, op, type, pos, after, guard⟩ := o
  cases op <;> simp only [newA] <;> simp only [Op.operands] at hE
  case box t x => rw [hE x (by simp)]
  case buildSlice t n parts =>
    have h1 : (parts.toList.map fun p => (p.1, E p.2)) = (parts.toList.map fun p => (p.1, E' p.2)) :=
      List.map_congr_left fun p hp => by rw [hE p.2 (by simp only [List.mem_toArray, List.mem_map]; exact ⟨p, hp, rfl⟩)]
    have h2 : (parts.toList.all fun p => notBad (E p.2)) = (parts.toList.all fun p => notBad (E' p.2)) := by
      rw [Bool.eq_iff_iff, List.all_eq_true, List.all_eq_true]
      constructor <;> intro hh p hp
      · rw [← hE p.2 (by simp only [List.mem_toArray, List.mem_map]; exact ⟨p, hp, rfl⟩)]; exact hh p hp
      · rw [hE p.2 (by simp only [List.mem_toArray, List.mem_map]; exact ⟨p, hp, rfl⟩)]; exact hh p hp
    rw [h1, h2]
  case makeSlice t l c => rw [hE l (by simp), hE c (by simp)]
  case convert s d x => rw [hE x (by simp)]

theorem looks_operand {ops : Array Oper} {o : Oper} {t : Tmp} (h : Operand.tmp t ∈ o.op.operands) : t ∈ o.looksAt ops := by
  unfold Oper.looksAt
  rw [List.mem_append]
  left
  rw [List.mem_filterMap]
  exact ⟨.tmp t, by simpa using h, rfl⟩

theorem looks_guard {ops : Array Oper} {o : Oper} {j : Nat} {want : Bool} {d : Tmp} (hg : o.guard = some (j, want)) (hd : (ops[j]?).bind (·.dst) = some d) : d ∈ o.looksAt ops := by
  unfold Oper.looksAt
  rw [List.mem_append, hg]
  right
  simp [hd]

theorem wantedA_congr {ops : Array Oper} {la la' : List Value} {o : Oper} (hh : ∀ d, d ∈ o.looksAt ops → la[d]? = la'[d]?) : wantedA ops la o = wantedA ops la' o := by
  unfold wantedA
  cases hg : o.guard with
  | none => rfl
  | some p =>
    obtain ⟨j, want⟩ := p
    simp only
    cases hd : (ops[j]?).bind (·.dst) with
    | none => rfl
    | some d => simp only; rw [hh d (looks_guard hg hd)]

/-- whether the machine wants it -/
theorem wantedA_real {ops : Array Oper} {la : List Value} {ra : Array Value} {no : Nat → Prop} {o : Oper} {b : Bool} (e : wantedA ops la o = some b) (tr : TR ρ no la ra) (hn : ∀ d, d ∈ o.looksAt ops → ¬ no d) :
    Region.wanted o (yielded ops ra) = b := by
  unfold wantedA at e
  unfold Region.wanted
  cases hg : o.guard with
  | none => simp [hg] at e; simp [← e]
  | some p =>
    obtain ⟨j, want⟩ := p
    simp only [hg] at e
    simp only
    cases hd : (ops[j]?).bind (·.dst) with
    | none => simp only [hd] at e; cases e; simp [yielded, hd]
    | some d =>
      simp only [hd] at e
      have hnd := hn d (looks_guard hg hd)
      cases hv : la[d]? with
      | none =>
        simp only [hv] at e; cases e
        have h1 : la.length ≤ d := List.getElem?_eq_none_iff.1 hv
        have h2 : ra[d]? = none := Array.getElem?_eq_none (by rw [← tr.len]; exact h1)
        simp [yielded, hd, h2]
      | some v =>
        obtain ⟨v', h1, h2⟩ := tr.val d v hnd hv
        simp only [hv] at e
        split at e <;> cases e
        · rename_i hq; cases hq; cases h2; simp [yielded, hd, h1]
        · rename_i hq; cases hq; cases h2; simp [yielded, hd, h1]
        · rename_i hq; cases hq

theorem symWant_real {K : Facts} (hK : FactsOk K) {ops : Array Oper} {la : List Value} {ra : Array Value} {no : Nat → Prop} {o : Oper} {b : Bool} (e : symWant K ops la o = some b) (tr : TR ρ no la ra) (hn : ∀ d, d ∈ o.looksAt ops → ¬ no d) :
    Region.wanted o (yielded ops ra) = b := by
  unfold symWant at e
  unfold Region.wanted
  cases hg : o.guard with
  | none => simp [hg] at e
  | some p =>
    obtain ⟨j, want⟩ := p
    simp only [hg] at e
    simp only
    cases hd : (ops[j]?).bind (·.dst) with
    | none => simp only [hd] at e; cases e
    | some d =>
      simp only [hd] at e
      have hnd := hn d (looks_guard hg hd)
      cases hv : la[d]? with
      | none => simp only [hv] at e; cases e
      | some v =>
        obtain ⟨v', h1, h2⟩ := tr.val d v hnd hv
        simp only [hv] at e
        split at e <;> try (cases e; done)
        rename_i c f hb
        split at e <;> cases e
        rename_i b0 hdc
        obtain ⟨rfl, _⟩ := boolOf_rel hb h2
        have := decB_sound hK hdc
        subst this
        simp [yielded, hd, h1]

theorem wanted_real {ops : Array Oper} {la : List Value} {ra : Array Value} {no : Nat → Prop} {o : Oper} {b : Bool} (e : Wanted ops la o b) (tr : TR ρ no la ra) (hn : ∀ d, d ∈ o.looksAt ops → ¬ no d) :
    Region.wanted o (yielded ops ra) = b := by
  obtain ⟨K, hK, e⟩ := e
  unfold wantedK at e
  split at e
  · rename_i q hq
    cases e
    exact wantedA_real hq tr hn
  · exact symWant_real hK e tr hn

theorem wantedK_congr {K : Facts} {ops : Array Oper} {la la' : List Value} {o : Oper} (hh : ∀ d, d ∈ o.looksAt ops → la[d]? = la'[d]?) : wantedK K ops la o = wantedK K ops la' o := by
  unfold wantedK
  rw [wantedA_congr hh]
  have : symWant K ops la o = symWant K ops la' o := by
    unfold symWant
    cases hg : o.guard with
    | none => rfl
    | some p =>
      obtain ⟨j, want⟩ := p
      simp only
      cases hd : (ops[j]?).bind (·.dst) with
      | none => rfl
      | some d => simp only; rw [hh d (looks_guard hg hd)]
  rw [this]
theorem Wanted.congr {ops : Array Oper} {la la' : List Value} {o : Oper} {b : Bool} (h : Wanted ops la o b) (hh : ∀ d, d ∈ o.looksAt ops → la[d]? = la'[d]?) : Wanted ops la' o b :=
  let ⟨K, h1, h2⟩ := h
  ⟨K, h1, (wantedK_congr hh).symm.trans h2⟩

end Go.Sim

/- The abstract machine: regions that draw their order. -/
namespace Go.Sim
open Go.RowKit
set_option linter.unusedVariables false
set_option linter.unusedSimpArgs false
set_option linter.unusedSectionVars false
variable [Ev]

variable {P : Program} {B : Nat} {ρ : Map} {h : H} {w : World}

theorem ready_spec {ops : Array Oper} {listed : Array Bool} {i : Nat} (hi : i ∈ Region.ready .any ops listed) :
    i < ops.size ∧ listed.getD i true = false ∧ ∃ o, ops[i]? = some o ∧ ∀ e ∈ o.after, Region.binds .any e = true → listed.getD e.on false = true := by
  unfold Region.ready at hi
  rw [List.mem_filter] at hi
  obtain ⟨h1, h2⟩ := hi
  simp only [Bool.and_eq_true, Bool.not_eq_true'] at h2
  have hl : i < ops.size := by simpa using h1
  refine ⟨hl, h2.1, ops[i], by simp [hl], fun e he hb => ?_⟩
  have h3 := h2.2
  simp only [Array.getElem?_eq_getElem hl, Option.map_some, Option.getD_some] at h3
  rw [Array.all_eq_true_iff_forall_mem] at h3
  have := h3 e he
  rw [hb] at this
  simpa using this

theorem go_cons {ops : Array Oper} {fuel t : Nat} {listed : Array Bool} {i : Nat} {l : List Nat} (hg : Region.linearise.go .any ops fuel t listed [] = i :: l) :
    i ∈ Region.ready .any ops listed ∧ ∃ fuel' t', l = Region.linearise.go .any ops fuel' t' (listed.setIfInBounds i true) [] := by
  cases fuel with
  | zero => simp [Region.linearise.go] at hg
  | succ fuel =>
    simp only [Region.linearise.go] at hg
    change (match (Region.ready .any ops listed)[t % (Region.ready .any ops listed).length]? with
      | some i => Region.linearise.go .any ops fuel (t / (Region.ready .any ops listed).length) (listed.setIfInBounds i true) [i]
      | none => [].reverse) = i :: l at hg
    cases hx : (Region.ready .any ops listed)[t % (Region.ready .any ops listed).length]? with
    | none => rw [hx] at hg; simp at hg
    | some j =>
      rw [hx] at hg
      simp only at hg
      rw [linearise_go_acc] at hg
      simp at hg
      obtain ⟨rfl, rfl⟩ := hg
      exact ⟨List.mem_of_getElem? hx, fuel, _, rfl⟩

theorem listed_set {listed : Array Bool} {i j : Nat} (hi : listed[i]? = some false) : (listed.setIfInBounds i true)[j]? = some false ↔ listed[j]? = some false ∧ j ≠ i := by
  rw [Array.getElem?_setIfInBounds]
  by_cases h : i = j
  · subst h
    simp
  · rw [if_neg h]
    exact ⟨fun hh => ⟨hh, fun e => h e.symm⟩, fun hh => hh.1⟩

theorem closed_set {ops : Array Oper} {listed : Array Bool} {i : Nat} {o : Oper} (S : RegSpec ops) (hs : listed.size = ops.size) (hif : listed[i]? = some false)
    (h7 : ∀ (i : Nat) (o : Oper) (e : Edge), listed[i]? = some true → ops[i]? = some o → e ∈ o.after → Region.binds .any e = true → listed[e.on]? = some true) (ho : ops[i]? = some o)
    (hr : ∀ e ∈ o.after, Region.binds .any e = true → listed.getD e.on false = true) :
    ∀ (j : Nat) (p : Oper) (e : Edge), (listed.setIfInBounds i true)[j]? = some true → ops[j]? = some p → e ∈ p.after → Region.binds .any e = true → (listed.setIfInBounds i true)[e.on]? = some true := by
  have up : ∀ (k : Nat), listed[k]? = some true → (listed.setIfInBounds i true)[k]? = some true := by
    intro k hk
    have hne : i ≠ k := by rintro rfl; rw [hif] at hk; cases hk
    rw [Array.getElem?_setIfInBounds, if_neg hne]; exact hk
  intro j p e hj hp he hb
  by_cases hji : j = i
  · subst hji
    rw [ho] at hp
    cases hp
    have := hr e he hb
    rw [Array.getD_eq_getD_getElem?] at this
    refine up _ ?_
    cases hq : listed[e.on]? with
    | none => rw [hq] at this; cases this
    | some b => rw [hq] at this; cases b <;> simp_all
  · rw [Array.getElem?_setIfInBounds, if_neg (fun h => hji h.symm)] at hj
    exact up _ (h7 j p e hj hp he hb)

/-- what stands before the head has been listed -/
theorem anc_listed {ops : Array Oper} {listed : Array Bool} {i : Nat} {o : Oper} (hs : listed.size = ops.size)
    (h7 : ∀ (i : Nat) (o : Oper) (e : Edge), listed[i]? = some true → ops[i]? = some o → e ∈ o.after → Region.binds .any e = true → listed[e.on]? = some true) (ho : ops[i]? = some o)
    (hr : ∀ e ∈ o.after, Region.binds .any e = true → listed.getD e.on false = true) :
    ∀ (k : Nat) (S : List Nat), (∀ j ∈ S, j = i ∨ listed[j]? = some true) → ∀ j ∈ anc ops k S, j = i ∨ listed[j]? = some true
  | 0, S, hS, j, hj => hS j hj
  | k + 1, S, hS, j, hj => by
    simp only [anc] at hj
    refine anc_listed hs h7 ho hr k _ ?_ j hj
    intro x hx
    cases hb : S.any (asks ops k) <;> rw [hb] at hx <;> simp only [cond_true, cond_false] at hx
    · exact hS x hx
    · rcases List.mem_cons.1 hx with rfl | hx
      · rw [List.any_eq_true] at hb
        obtain ⟨m, hm, hb⟩ := hb
        unfold asks at hb
        split at hb
        · rename_i p hp
          rw [List.any_eq_true] at hb
          obtain ⟨e, he, hbb⟩ := hb
          rw [Bool.and_eq_true] at hbb
          have he' : e ∈ p.after := by simpa using he
          have heq := Nat.eq_of_beq_eq_true hbb.2
          right
          rcases hS m hm with rfl | hl
          · rw [ho] at hp; cases hp
            have := hr e he' hbb.1
            rw [heq, Array.getD_eq_getD_getElem?] at this
            cases hq : listed[x]? with
            | none => rw [hq] at this; cases this
            | some b => rw [hq] at this; cases b <;> simp_all
          · rw [← heq]; exact h7 m p e hl hp he' hbb.1
        · cases hb
      · exact hS x hx

theorem prune_mem {S : List Nat} {j b : Nat} : ∀ {fp : List (Nat × Nat)}, (j, b) ∈ fp → j ∉ S → (j, b) ∈ prune S fp
  | [], h, _ => by cases h
  | (i, c) :: l, h, hn => by
    simp only [prune]
    rcases List.mem_cons.1 h with h | h
    · cases h
      rw [notIn_spec.2 hn]; simp
    · cases notIn S i
      · exact prune_mem h hn
      · exact List.mem_cons_of_mem _ (prune_mem h hn)

theorem prune_sub {S : List Nat} {j b : Nat} : ∀ {fp : List (Nat × Nat)}, (j, b) ∈ prune S fp → (j, b) ∈ fp
  | [], h => by cases h
  | (i, c) :: l, h => by
    simp only [prune] at h
    cases hq : notIn S i <;> rw [hq] at h <;> simp only [cond_true, cond_false] at h
    · exact List.mem_cons_of_mem _ (prune_sub h)
    · rcases List.mem_cons.1 h with h | h
      · exact List.mem_cons.2 (.inl h)
      · exact List.mem_cons_of_mem _ (prune_sub h)

theorem TR.take {ρ ρ' : Map} {no no' : Nat → Prop} {la : List Value} {ra : Array Value} (hl : le ρ ρ') (h : TR ρ no la ra) (dst : Option Tmp) {v v' : Value} (hd : ∀ d, dst = some d → d < la.length → la[d]? = some v) (hv : VR ρ' v v')
    (hn : ∀ t, no t → no' t ∨ dst = some t) (ds : List Deferred) : TR ρ' no' la (Act.put ⟨ra, ds⟩ dst v').tmps := by
  cases dst with
  | none =>
    refine ⟨h.len, fun t u ht hu => ?_⟩
    obtain ⟨u', k1, k2⟩ := h.val t u (fun hh => by
      rcases hn t hh with h1 | h1
      · exact ht h1
      · cases h1) hu
    exact ⟨u', k1, k2.mono hl⟩
  | some d =>
    simp only [Act.put]
    refine ⟨by simp [h.len], ?_⟩
    intro t u ht hu
    rw [Array.getElem?_setIfInBounds]
    by_cases e : d = t
    · subst e
      have hlt : d < la.length := (List.getElem?_eq_some_iff.1 hu).1
      rw [if_pos rfl, if_pos (by rw [← h.len]; exact hlt)]
      rw [hd d rfl hlt] at hu
      cases hu
      exact ⟨v', rfl, hv⟩
    · rw [if_neg e]
      obtain ⟨u', k1, k2⟩ := h.val t u (fun hh => by
        rcases hn t hh with h1 | h1
        · exact ht h1
        · cases h1; exact e rfl) hu
      exact ⟨u', k1, k2.mono hl⟩

/-- one operation that was carried out ahead is carried out -/
theorem Drawn.shift {ρ ρ' : Map} {dep : Nat} {ops : Array Oper} {rest : List Nat} {fp : List (Nat × Nat)} {la : List Value} {ra : Array Value} {i : Nat} {l : List Nat} (D : Drawn P ρ h dep ops rest fp la ra (i :: l)) (hi : i ∉ rest)
    (hl : le ρ ρ') {o : Oper} (ho : ops[i]? = some o) {v v' : Value} (hd : dstIs la o v) (hv : VR ρ' v v') (ds : List Deferred)
    (hnone : ∀ (j : Nat) (b : Nat) (cs : List Value) (e : TypeId), j ≠ i → h.get b = some (.cells cs e (dep, j)) → ρ[b]? = some none → ρ'[b]? = some none) :
    Drawn P ρ' h dep ops rest fp la (Act.put ⟨ra, ds⟩ o.dst v').tmps l := by
  obtain ⟨fuel, t, listed, h1, h2, h3, h4, h45, h5, h6, h7, h8⟩ := D.list
  obtain ⟨hr, fuel', t', h1'⟩ := go_cons h1.symm
  obtain ⟨r1, r2, o3, ho3, r3⟩ := ready_spec hr
  have hif : listed[i]? = some false := by
    have : i < listed.size := by omega
    rw [Array.getD_eq_getD_getElem?, Array.getElem?_eq_getElem this] at r2
    rw [Array.getElem?_eq_getElem this]
    simpa using r2
  refine ⟨D.spec, fuel', t', listed.setIfInBounds i true, h1', by simp [h2], ?_, ?_, ?_, ?_, ?_, closed_set D.spec h2 hif h7 ho3 r3, fun j hj => h8 j ⟨((listed_set hif).1 hj.1).1, hj.2⟩⟩
  · intro j hj
    rw [listed_set hif] at hj
    have := h3 j hj.1
    simp only [List.mem_cons] at this
    rcases this with rfl | this
    · exact absurd rfl hj.2
    · exact this
  · intro j hj
    rw [listed_set hif]
    exact ⟨h4 j hj, fun e => hi (e ▸ hj)⟩
  · intro j p e hj hp he hb
    obtain ⟨k1, k2⟩ := hj
    rw [listed_set hif] at k1
    exact h45 j p e ⟨k1.1, k2⟩ hp he hb
  · intro j hj
    obtain ⟨k1, k2⟩ := hj
    rw [listed_set hif] at k1
    cases h5 j ⟨k1.1, k2⟩ with
    | skip p hp hw hd => exact .skip p hp hw hd
    | val p hp hw v r hv hr hd => exact .val p hp hw v r hv hr hd
    | sym p hp hw K hK v hv hd => exact .sym p hp hw K hK v hv hd
    | new p hp hw cs e mk b hv hb hf hn hd => exact .new p hp hw cs e mk b hv hb hf (hnone j b cs e k1.2 hb hn) hd
  · refine TR.take hl h6 o.dst hd hv ?_ ds
    rintro t ⟨j, p, hj, hp, hpd⟩
    by_cases e : j = i
    · subst e
      rw [ho] at hp
      cases hp
      exact .inr hpd
    · exact .inl ⟨j, p, ⟨(listed_set hif).2 ⟨hj.1, e⟩, hj.2⟩, hp, hpd⟩

/-- at the head of what the machine has still to do: it waits for nothing -/
theorem Drawn.head {dep : Nat} {ops : Array Oper} {rest : List Nat} {fp : List (Nat × Nat)} {la : List Value} {ra : Array Value} {i : Nat} {l : List Nat} (D : Drawn P ρ h dep ops rest fp la ra (i :: l)) :
    ∃ o, ops[i]? = some o ∧ (∀ e ∈ o.after, Region.binds .any e = true → e.on ∉ rest) ∧
      ∃ no : Nat → Prop, TR ρ no la ra ∧ (∀ d, d ∈ o.looksAt ops → ¬ no d) ∧ (i ∈ rest → ∀ d, o.dst = some d → ¬ no d) := by
  obtain ⟨fuel, t, listed, h1, h2, h3, h4, h45, h5, h6, h7, h8⟩ := D.list
  obtain ⟨hr, fuel', t', h1'⟩ := go_cons h1.symm
  obtain ⟨r1, r2, o, ho, r3⟩ := ready_spec hr
  have lst : ∀ e ∈ o.after, Region.binds .any e = true → listed[e.on]? ≠ some false := by
    intro e he hb hf
    have := r3 e he hb
    rw [Array.getD_eq_getD_getElem?, hf] at this
    cases this
  refine ⟨o, ho, fun e he hb hin => lst e he hb (h4 _ hin), _, h6, ?_, ?_⟩
  · rintro d hd ⟨j, p, hj, hp, hpd⟩
    rcases D.spec.reads i j o p d ho hp hpd hd with ⟨e, he, hb, rfl⟩ | ⟨hlate, _⟩
    · exact lst e he hb hj.1
    · rw [h8 j hj] at hlate; cases hlate
  · rintro hi d hd ⟨j, p, hj, hp, hpd⟩
    by_cases e : i = j
    · subst e; exact hj.2 hi
    · exact D.spec.once i j o p d ho hp hpd e hd

structure MR (P : Program) (B : Nat) (w0 : World) (cs0 : List Frame) (m : AM) (fr : Frame) (cs : List Frame) (w : World) : Prop where
  ex : ∃ (ρ : Map) (csr : List Frame), cs = csr ++ cs0 ∧ HR P B ρ m.h w.heap ∧ FR P ρ m.h m.cs.length m.fr fr ∧ FRs P ρ m.h m.cs csr ∧ Below B w0 w

theorem FR.drawn {dep : Nat} {fa : AF} {fr : Frame} (F : FR P ρ h dep fa fr) {ops : Array Oper} {rest : List Nat} {fp : List (Nat × Nat)} {cur : Option Nat} {ka : List AI} (hm : fa.mode = .run) (ha : fa.todo = .drawn ops rest fp cur :: ka) :
    ∃ rr kr, fr.todo = .inRegion ops rr :: kr ∧ LsR (IR ρ) ka kr ∧ Drawn P ρ h dep ops rest fp fa.tmps fr.tmps rr ∧ (∀ i, cur = some i → i ∈ rest ∧ ∃ l, rr = i :: l) := by
  cases F.body with
  | plain hm' todo tr =>
    rw [ha] at todo
    generalize fr.todo = q at todo
    cases todo with
    | cons a b l l' hh _ => cases hh
  | out hm' tr => exact absurd hm hm'
  | drawn hm' ops' rest' fp' cur' ka' rr kr ha' hr todo dr hc =>
    rw [ha] at ha'
    cases ha'
    exact ⟨rr, kr, hr, todo, dr, hc⟩

theorem FR.run {dep : Nat} {fa : AF} {fr : Frame} (F : FR P ρ h dep fa fr) (hm : fa.mode = .run) : fr.mode = .run := by
  have := F.mode
  rw [hm] at this
  cases hq : fr.mode <;> rw [hq] at this <;> cases this <;> rfl

theorem valA_not_defer {E : Operand → Value} {o : Oper} {v : Value} {r : List Nat} (e : valA P h E o = some (v, r)) : ∀ c, o.op ≠ .defer c := by
  intro c hc
  unfold valA at e
  rw [hc] at e
  cases e

theorem symA_not_defer {K : Facts} {E : Operand → Value} {o : Oper} {v : Value} (e : symA P K E o.op = some v) : ∀ c, o.op ≠ .defer c := by
  intro c hc
  unfold symA at e
  rw [hc] at e
  cases e

theorem newA_not_defer {E : Operand → Value} {o : Oper} {r : List Value × TypeId × (Nat → Value)} (e : newA P E o = some r) : ∀ c, o.op ≠ .defer c := by
  intro c hc
  unfold newA at e
  rw [hc] at e
  cases e

/-- what was carried out ahead is carried out, until an operation that was not -/
theorem drain {w0 : World} {cs0 : List Frame} {m : AM} {ops : Array Oper} {rest : List Nat} {fp : List (Nat × Nat)} {ka : List AI} (hm : m.fr.mode = .run) (ha : m.fr.todo = .drawn ops rest fp none :: ka) :
    ∀ (n : Nat) (fr : Frame) (cs : List Frame) (w : World) (rr : List Nat) (kr : List Item), rr.length = n → fr.todo = .inRegion ops rr :: kr → MR P B w0 cs0 m fr cs w →
      ∃ fr' w' rr' kr', Steps P (lone fr cs w) (lone fr' cs w') ∧ MR P B w0 cs0 m fr' cs w' ∧ fr'.todo = .inRegion ops rr' :: kr' ∧ (rr' = [] ∨ ∃ i l, rr' = i :: l ∧ i ∈ rest) := by
  intro n
  induction n with
  | zero =>
    intro fr cs w rr kr hl ht M
    have : rr = [] := List.eq_nil_of_length_eq_zero hl
    exact ⟨fr, w, rr, kr, .refl _ _, M, ht, .inl this⟩
  | succ n ih =>
    intro fr cs w rr kr hl ht M
    cases rr with
    | nil => simp at hl
    | cons i l =>
      by_cases hi : i ∈ rest
      · exact ⟨fr, w, _, kr, .refl _ _, M, ht, .inr ⟨i, l, rfl, hi⟩⟩
      · obtain ⟨ρ, csr, e1, R, F, Fs, hb⟩ := M.ex
        obtain ⟨rr2, kr2, q1, q2, D, q4⟩ := F.drawn hm ha
        rw [ht] at q1
        cases q1
        obtain ⟨o, ho, hafter, no, htr, hlook, _⟩ := D.head
        have hself := atR_self (F.run hm) ht
        have hearly : Pend P ρ m.h m.cs.length ops fp m.fr.tmps i := by
          obtain ⟨fuel, t, listed, h1, h2, h3, h4, h45, h5, h6, h7, h8⟩ := D.list
          obtain ⟨hr, _⟩ := go_cons h1.symm
          obtain ⟨r1, r2, _⟩ := ready_spec hr
          refine h5 i ⟨?_, hi⟩
          have : i < listed.size := by omega
          rw [Array.getD_eq_getD_getElem?, Array.getElem?_eq_getElem this] at r2
          rw [Array.getElem?_eq_getElem this]
          simpa using r2
        have hE : ∀ x ∈ o.op.operands, VR ρ (ev P m.fr.tmps x) (Act.eval ⟨fr.tmps, fr.defers⟩ x) := fun x hx => htr.ev _ R.glob x fun t ht => hlook t (looks_operand (ht ▸ hx))
        -- how the state goes on
        have go : ∀ (ρ' : Map) (w' : World) (v v' : Value), le ρ ρ' → HR P B ρ' m.h w'.heap → Below B w w' → dstIs m.fr.tmps o v → VR ρ' v v' →
            (∀ (b : Nat) (cs : List Value) (e : TypeId) (d j : Nat), (d, j) ≠ (m.cs.length, i) → m.h.get b = some (.cells cs e (d, j)) → ρ[b]? = some none → ρ'[b]? = some none) →
            step P (lone fr cs w) = .next (lone (fr.atR (Act.put ⟨fr.tmps, fr.defers⟩ o.dst v') (.inRegion ops l :: kr)) cs w') →
            ∃ fr' w' rr' kr', Steps P (lone fr cs w) (lone fr' cs w') ∧ MR P B w0 cs0 m fr' cs w' ∧ fr'.todo = .inRegion ops rr' :: kr' ∧ (rr' = [] ∨ ∃ i l, rr' = i :: l ∧ i ∈ rest) := by
          intro ρ' w' v v' hle R' hbw hdst hvv hnone hstep
          have D' := D.shift hi hle ho hdst hvv fr.defers (fun j b cs e hj hg hn => hnone b cs e _ j (by intro hh; cases hh; exact hj rfl) hg hn)
          have hdef : (Act.put ⟨fr.tmps, fr.defers⟩ o.dst v').defers = fr.defers := by cases o.dst <;> rfl
          have M' : MR P B w0 cs0 m (fr.atR (Act.put ⟨fr.tmps, fr.defers⟩ o.dst v') (.inRegion ops l :: kr)) cs w' := by
            refine ⟨ρ', csr, e1, R', ?_, Fs.mono hle (fun b o _ hg => hg) (fun b cs e d j hd hg hn => hnone b cs e d j (by intro hh; cases hh; omega) hg hn), hb.trans hbw⟩
            refine ⟨F.fn, F.kind, ?_, F.round.mono fun _ _ k => hle _ _ k, ?_, F.func, ?_⟩
            · rw [hm]; exact .run
            · show LsR (DR ρ') m.fr.defers (Act.put ⟨fr.tmps, fr.defers⟩ o.dst v').defers
              rw [hdef]; exact F.defers.mono fun _ _ k => k.mono hle
            · exact .drawn _ _ hm ops rest fp none ka l kr ha rfl (q2.mono fun _ _ k => k.mono hle) D' (by simp)
          obtain ⟨fr2, w2, rr', kr', s1, s2, s3, s4⟩ := ih _ cs w' l kr (by simpa using hl) rfl M'
          exact ⟨fr2, w2, rr', kr', .head hstep s1, s2, s3, s4⟩
        cases hearly with
        | skip p hp hw hd =>
          rw [ho] at hp; cases hp
          have hwr := wanted_real hw htr hlook
          refine go ρ w undef undef (.refl _) R (.refl _ _) hd (undef_rel ρ) (fun _ _ _ _ _ _ _ hn => hn) ?_
          have := stepR_op_skip (P := P) (b := fr) (a := ⟨fr.tmps, fr.defers⟩) (k := kr) (cs := cs) (w := w) (ops := ops) (i := i) (rest := l) (by simp only [ho, Option.map_some, Option.getD_some]; exact hwr)
          rw [← hself] at this
          rw [this]
          simp [ho]
        | val p hp hw v r hv hr hd =>
          rw [ho] at hp; cases hp
          have hwr := wanted_real hw htr hlook
          obtain ⟨v', k1, k2⟩ := valA_sound R hv hE
          refine go ρ w v v' (.refl _) R (.refl _ _) hd k2 (fun _ _ _ _ _ _ _ hn => hn) ?_
          have := op_value (b := fr) (a := ⟨fr.tmps, fr.defers⟩) (k := kr) (cs := cs) (rest := l) ho hwr (.inr (valA_not_defer hv)) k1
          have hf := Frame.finish_atR fr ⟨fr.tmps, fr.defers⟩ ops i l kr v'
          rw [← hself] at this hf
          rw [this, hf]; simp [ho]
        | sym p hp hw K hK v hv hd =>
          rw [ho] at hp; cases hp
          have hwr := wanted_real hw htr hlook
          obtain ⟨v', k1, k2⟩ := symA_sound hK hv hE w fun r o h => (R.old r o h).2
          refine go ρ w v v' (.refl _) R (.refl _ _) hd k2 (fun _ _ _ _ _ _ _ hn => hn) ?_
          have := op_value (b := fr) (a := ⟨fr.tmps, fr.defers⟩) (k := kr) (cs := cs) (rest := l) ho hwr (.inr (symA_not_defer hv)) k1
          have hf := Frame.finish_atR fr ⟨fr.tmps, fr.defers⟩ ops i l kr v'
          rw [← hself] at this hf
          rw [this, hf]; simp [ho]
        | new p hp hw cs' e mk b hv hbk hf hn hd =>
          rw [ho] at hp; cases hp
          have hwr := wanted_real hw htr hlook
          obtain ⟨c, f, v', w', k1, k2, k3⟩ := newA_sound (ρ := ρ) hv hE w
          have hle := le.set hn (w.heap.size, 0)
          have hlt : b < ρ.length := by
            rcases Nat.lt_or_ge b ρ.length with hl | hl
            · exact hl
            · rw [List.getElem?_eq_none hl] at hn; cases hn
          refine go (ρ.set b (some (w.heap.size, 0))) w' (mk b) v' hle ?_ ?_ hd (k3 _ b (List.getElem?_set_self hlt)) ?_ ?_
          · rw [k2.heap]
            refine R.make b hn _ (fun o' hg => ?_)
            rw [hbk] at hg; cases hg
            exact .cells _ _ _ _ _ _ k2.frozen (fun _ => rfl) (fun o v hv => let ⟨v', a, b⟩ := k2.cells o v hv; ⟨v', a, b.mono hle⟩)
          · refine ⟨k2.os, k2.tape, k2.output, by rw [k2.heap]; simp, fun j hj => ?_⟩
            rw [k2.heap, Array.getElem?_push, if_neg (by have := R.base; omega)]
          · intro b' cs2 e2 d j hne hg hnb
            have : b ≠ b' := by rintro rfl; rw [hbk] at hg; cases hg; exact hne rfl
            rw [List.getElem?_set_ne this]; exact hnb
          · have := op_value (b := fr) (a := ⟨fr.tmps, fr.defers⟩) (k := kr) (cs := cs) (rest := l) ho hwr (.inr (newA_not_defer hv)) k1
            have hf := Frame.finish_atR fr ⟨fr.tmps, fr.defers⟩ ops i l kr v'
            rw [← hself] at this hf
            rw [this, hf]; simp [ho]

end Go.Sim

/- The abstract machine: operations carried out ahead; operations with an effect. -/
namespace Go.Sim
open Go.RowKit
set_option linter.unusedVariables false
set_option linter.unusedSimpArgs false
set_option linter.unusedSectionVars false
variable [Ev]

variable {P : Program} {B : Nat} {ρ : Map} {h : H} {w : World}

theorem putA_length (la : List Value) (dst : Option Tmp) (v : Value) : (putA la dst v).length = la.length := by
  cases dst <;> simp [putA, setR_eq, setL_eq]

theorem putA_ne {la : List Value} {dst : Option Tmp} {v : Value} {t : Nat} (hd : dst ≠ some t) : (putA la dst v)[t]? = la[t]? := by
  cases dst with
  | none => rfl
  | some d =>
    simp only [putA, setR_eq, setL_eq]
    rw [List.getElem?_set_ne (show d ≠ t from fun e => hd (by rw [e]))]

theorem dstIs_put (la : List Value) (o : Oper) (v : Value) : dstIs (putA la o.dst v) o v := by
  intro d hd hl
  rw [putA_length] at hl
  simp only [hd, putA, setR_eq, setL_eq]
  simp [hl]

theorem ev_put_looks {ops : Array Oper} {la : List Value} {p : Oper} {dst : Option Tmp} {v : Value} (hn : ∀ d, dst = some d → d ∉ p.looksAt ops) : ∀ x ∈ p.op.operands, ev P la x = ev P (putA la dst v) x := by
  intro x hx
  refine (ev_put fun d hd e => ?_).symm
  subst e
  exact hn d hd (looks_operand hx)

theorem Wanted.put {ops : Array Oper} {la : List Value} {p : Oper} {b : Bool} (h : Wanted ops la p b) {dst : Option Tmp} {v : Value} (hn : ∀ d, dst = some d → d ∉ p.looksAt ops) : Wanted ops (putA la dst v) p b :=
  h.congr fun d hd => (putA_ne fun e => hn d e hd).symm

theorem Pend.put {dep : Nat} {ops : Array Oper} {fp fp' : List (Nat × Nat)} {la : List Value} {j : Nat} {ρ' : Map} {h' : H} (K : Pend P ρ h dep ops fp la j) (dst : Option Tmp) (v : Value)
    (hn : ∀ p d, ops[j]? = some p → dst = some d → d ∉ p.looksAt ops ∧ p.dst ≠ some d) (hfp : ∀ b, (j, b) ∈ fp → (j, b) ∈ fp') (hh : ∀ b x, h.get b = some x → h'.get b = some x) (hρ : ∀ b : Nat, ρ[b]? = some none → ρ'[b]? = some none) :
    Pend P ρ' h' dep ops fp' (putA la dst v) j := by
  have tr : ∀ (p : Oper) (u : Value), ops[j]? = some p → dstIs la p u → dstIs (putA la dst v) p u := by
    intro p u hp hd d hpd hl
    rw [putA_length] at hl
    rw [putA_ne fun e => (hn p d hp e).2 hpd]
    exact hd d hpd hl
  cases K with
  | skip p hp hw hd => exact .skip p hp (hw.put fun d hd => (hn p d hp hd).1) (tr p _ hp hd)
  | val p hp hw u r hv hr hd =>
    refine .val p hp (hw.put fun d hd => (hn p d hp hd).1) u r ?_ (fun b hb => hfp b (hr b hb)) (tr p _ hp hd)
    rw [← valA_congr (ev_put_looks fun d hd => (hn p d hp hd).1)]
    exact valA_frame hv fun b x _ hg => hh b x hg
  | sym p hp hw K hK u hv hd =>
    refine .sym p hp (hw.put fun d hd => (hn p d hp hd).1) K hK u ?_ (tr p _ hp hd)
    rw [← symA_congr (ev_put_looks fun d hd => (hn p d hp hd).1)]
    exact hv
  | new p hp hw cs e mk b hv hb hf hn' hd =>
    refine .new p hp (hw.put fun d hd => (hn p d hp hd).1) cs e mk b ?_ (hh b _ hb) (hfp b hf) (hρ b hn') (tr p _ hp hd)
    rw [← newA_congr (ev_put_looks fun d hd => (hn p d hp hd).1)]
    exact hv

theorem readyA_spec {ops : Array Oper} {rest : List Nat} {o : Oper} (hr : readyA ops rest o = true) : ∀ e ∈ o.after, Region.binds .any e = true → e.on ∉ rest := by
  intro e he hb
  unfold readyA at hr
  rw [List.all_eq_true] at hr
  have := hr e (by simpa using he)
  rw [hb] at this
  simpa [notIn_spec] using this

theorem readyA_of {ops : Array Oper} {rest : List Nat} {o : Oper} (hr : ∀ e ∈ o.after, Region.binds .any e = true → e.on ∉ rest) : readyA ops rest o = true := by
  unfold readyA
  rw [List.all_eq_true]
  intro e he
  cases hb : Region.binds .any e
  · rfl
  · simpa [notIn_spec] using hr e (by simpa using he) hb

inductive Ahead (P : Program) (d : Nat) (ops : Array Oper) (fp : List (Nat × Nat)) (la : List Value) (h : H) (i : Nat) (o : Oper) : List Value → List (Nat × Nat) → H → Prop
  | skip (hw : wantedK h.k ops la o = some false) : Ahead P d ops fp la h i o (putA la o.dst undef) fp h
  | val (hw : wantedK h.k ops la o = some true) (v : Value) (r : List Nat) (hv : valA P h (ev P la) o = some (v, r)) : Ahead P d ops fp la h i o (putA la o.dst v) (tagFp i r fp) h
  | new (hw : wantedK h.k ops la o = some true) (cs : List Value) (e : TypeId) (mk : Nat → Value) (hv : newA P (ev P la) o = some (cs, e, mk)) (hn : h.n < 1000000) :
      Ahead P d ops fp la h i o (putA la o.dst (mk h.n)) ((i, h.n) :: fp) (h.push (.cells cs e (d, i)))

theorem aheadA_spec {d : Nat} {ops : Array Oper} {rest : List Nat} {fp : List (Nat × Nat)} {la : List Value} : ∀ (l : List Nat) {i : Nat} {la' : List Value} {fp' : List (Nat × Nat)} {h' : H}, aheadA P d ops rest fp la h l = some (i, la', fp', h') →
    i ∈ l ∧ ∃ o, ops[i]? = some o ∧ (readyA ops rest o && !lateA ops i) = true ∧ Ahead P d ops fp la h i o la' fp' h'
  | [], _, _, _, _, e => by simp [aheadA] at e
  | x :: l, i, la', fp', h', e => by
    simp only [aheadA] at e
    cases ho : ops[x]? with
    | none => simp [ho] at e
    | some o =>
      simp only [ho] at e
      cases hr : (readyA ops rest o && !lateA ops x) <;> rw [hr] at e <;> simp only [cond_true, cond_false] at e
      · obtain ⟨h1, h2⟩ := aheadA_spec l e
        exact ⟨by simp [h1], h2⟩
      · cases hw : wantedK h.k ops la o with
        | none => simp [hw] at e
        | some b =>
          cases b
          · simp only [hw] at e
            cases e
            exact ⟨by simp, o, ho, hr, .skip hw⟩
          · simp only [hw] at e
            cases hv : valA P h (ev P la) o with
            | some p =>
              obtain ⟨v, r⟩ := p
              simp only [hv] at e
              cases e
              exact ⟨by simp, o, ho, hr, .val hw v r hv⟩
            | none =>
              simp only [hv] at e
              cases hn : newA P (ev P la) o with
              | some p =>
                obtain ⟨cs, el, mk⟩ := p
                simp only [hn] at e
                cases hb : Nat.blt h.n 1000000 <;> rw [hb] at e <;> simp only [cond_true, cond_false] at e <;> cases e
                exact ⟨by simp, o, ho, hr, .new hw cs el mk hn (by simpa [Nat.blt_eq] using hb)⟩
              | none =>
                simp only [hn] at e
                obtain ⟨h1, h2⟩ := aheadA_spec l e
                exact ⟨by simp [h1], h2⟩

theorem tagFp_old {i : Nat} {x : Nat × Nat} : ∀ (r : List Nat) {fp : List (Nat × Nat)}, x ∈ fp → x ∈ tagFp i r fp
  | [], _, h => h
  | b :: r, fp, h => List.mem_cons_of_mem _ (tagFp_old r h)

theorem tagFp_new {i b : Nat} : ∀ {r : List Nat} (fp : List (Nat × Nat)), b ∈ r → (i, b) ∈ tagFp i r fp
  | [], _, h => by cases h
  | c :: r, fp, h => by
    rcases List.mem_cons.1 h with rfl | h
    · exact List.mem_cons_self
    · exact List.mem_cons_of_mem _ (tagFp_new fp h)

theorem Drawn.ahead {ρ' : Map} {h' : H} {dep : Nat} {ops : Array Oper} {rest : List Nat} {fp fp' : List (Nat × Nat)} {la : List Value} {ra : Array Value} {rr : List Nat} (D : Drawn P ρ h dep ops rest fp la ra rr) {i : Nat} (hi : i ∈ rest) {o : Oper}
    (ho : ops[i]? = some o) (hr : readyA ops rest o = true) (hnl : lateA ops i = false) (v : Value) (hfp : ∀ x, x ∈ fp → x ∈ fp') (hh : ∀ b x, h.get b = some x → h'.get b = some x) (hρ : ∀ b : Nat, ρ[b]? = some none → ρ'[b]? = some none) (hle : le ρ ρ')
    (hp : (∀ d, o.dst = some d → d ∉ o.looksAt ops) → Pend P ρ' h' dep ops fp' (putA la o.dst v) i) : Drawn P ρ' h' dep ops (eraseN rest i) fp' (putA la o.dst v) ra rr := by
  obtain ⟨fuel, t, listed, h1, h2, h3, h4, h45, h5, h6, h7, h8⟩ := D.list
  have hil := h4 i hi
  have own : ∀ d, o.dst = some d → d ∉ o.looksAt ops := by
    intro d hd hin
    rcases D.spec.reads i i o o d ho ho hd hin with ⟨e, he, hb, heq⟩ | ⟨hl, _⟩
    · have := D.spec.down i o e ho he hb
      omega
    · rw [hnl] at hl; cases hl
  have er : ∀ j, early (eraseN rest i) listed j → j = i ∨ (j ≠ i ∧ early rest listed j) := by
    rintro j ⟨k1, k2⟩
    rw [eraseN_spec] at k2
    by_cases e : j = i
    · exact .inl e
    · exact .inr ⟨e, k1, fun hin => k2 ⟨hin, e⟩⟩
  refine ⟨D.spec, fuel, t, listed, h1, h2, h3, fun j hj => h4 j (eraseN_spec.1 hj).1, ?_, ?_, ?_, h7, fun j hj => by
    rcases er j hj with rfl | ⟨_, hj⟩
    · exact hnl
    · exact h8 j hj⟩
  · intro j p e hj hp' he hb hin
    rw [eraseN_spec] at hin
    rcases er j hj with rfl | ⟨_, hj⟩
    · rw [ho] at hp'; cases hp'
      exact readyA_spec hr e he hb hin.1
    · exact h45 j p e hj hp' he hb hin.1
  · intro j hj
    rcases er j hj with rfl | ⟨hne, hj⟩
    · exact hp own
    · refine (h5 j hj).put o.dst v ?_ (fun b hb => hfp _ hb) hh hρ
      intro p d hp' hd
      refine ⟨fun hin => ?_, D.spec.once j i p o d hp' ho hd hne⟩
      rcases D.spec.reads j i p o d hp' ho hd hin with ⟨e, he, hb, heq⟩ | ⟨hl, _⟩
      · exact h45 j p e hj hp' he hb (heq ▸ hi)
      · rw [hnl] at hl; cases hl
  · refine ⟨by rw [putA_length]; exact h6.len, fun t u ht hu => ?_⟩
    have hne : o.dst ≠ some t := fun e => ht ⟨i, o, ⟨hil, fun hin => (eraseN_spec.1 hin).2 rfl⟩, ho, e⟩
    rw [putA_ne hne] at hu
    obtain ⟨u', k1, k2⟩ := h6.val t u (fun ⟨j, p, hj, hp', hpd⟩ => ht ⟨j, p, ⟨hj.1, fun hin => hj.2 (eraseN_spec.1 hin).1⟩, hp', hpd⟩) hu
    exact ⟨u', k1, k2.mono hle⟩

/-- a step that the machine doesn't make yet -/
theorem ahead_sound {w0 : World} {cs0 : List Frame} {m : AM} {ops : Array Oper} {rest : List Nat} {fp : List (Nat × Nat)} {ka : List AI} (hm : m.fr.mode = .run) (ha : m.fr.todo = .drawn ops rest fp none :: ka)
    {i : Nat} {la' : List Value} {fp' : List (Nat × Nat)} {h' : H} (e : aheadA P m.cs.length ops rest fp m.fr.tmps m.h rest = some (i, la', fp', h')) {fr : Frame} {cs : List Frame} {w : World} (M : MR P B w0 cs0 m fr cs w) :
    MR P B w0 cs0 { m with fr := { m.fr with tmps := la', todo := .drawn ops (eraseN rest i) fp' none :: ka }, h := h' } fr cs w := by
  obtain ⟨hi, o, ho, hr0, A⟩ := aheadA_spec rest e
  rw [Bool.and_eq_true] at hr0
  have hr := hr0.1
  have hnl : lateA ops i = false := by simpa using hr0.2
  obtain ⟨ρ, csr, e1, R, F, Fs, hb⟩ := M.ex
  obtain ⟨rr, kr, q1, q2, D, q4⟩ := F.drawn hm ha
  -- how it goes on
  have go : ∀ (ρ' : Map), le ρ ρ' → (∀ b : Nat, ρ[b]? = some none → ρ'[b]? = some none) → HR P B ρ' h' w.heap → (∀ b x, m.h.get b = some x → h'.get b = some x) → Drawn P ρ' h' m.cs.length ops (eraseN rest i) fp' la' fr.tmps rr →
      MR P B w0 cs0 { m with fr := { m.fr with tmps := la', todo := .drawn ops (eraseN rest i) fp' none :: ka }, h := h' } fr cs w := by
    intro ρ' hle hn R' hh D'
    refine ⟨ρ', csr, e1, R', ?_, Fs.mono hle (fun b o _ hg => hh b o hg) (fun b cs e d j hd hg hnb => hn b hnb), hb⟩
    refine ⟨F.fn, F.kind, F.mode.mono hle, F.round.mono fun _ _ k => hle _ _ k, F.defers.mono fun _ _ k => k.mono hle, F.func, ?_⟩
    exact .drawn _ _ hm ops _ fp' none ka rr kr rfl q1 (q2.mono fun _ _ k => k.mono hle) D' (by simp)
  cases A with
  | skip hw =>
    refine go ρ (.refl _) (fun _ h => h) R (fun _ _ h => h) (D.ahead hi ho hr hnl undef (fun _ h => h) (fun _ _ h => h) (fun _ h => h) (.refl _) fun own => ?_)
    exact .skip o ho (Wanted.put ⟨_, R.k, hw⟩ own) (dstIs_put _ _ _)
  | val hw v r hv =>
    refine go ρ (.refl _) (fun _ h => h) R (fun _ _ h => h) (D.ahead hi ho hr hnl v (fun _ h => tagFp_old r h) (fun _ _ h => h) (fun _ h => h) (.refl _) fun own => ?_)
    exact .val o ho (Wanted.put ⟨_, R.k, hw⟩ own) v r (by rw [← valA_congr (ev_put_looks own)]; exact hv) (fun b hb => tagFp_new fp hb) (dstIs_put _ _ _)
  | new hw cs' el mk hv hn =>
    have hnone : ∀ b : Nat, ρ[b]? = some none → (ρ ++ [none])[b]? = some none := by
      intro b hb
      have hlt : b < ρ.length := by
        rcases Nat.lt_or_ge b ρ.length with hl | hl
        · exact hl
        · rw [List.getElem?_eq_none hl] at hb; cases hb
      rw [app_lt hlt]; exact hb
    have hpush : ∀ b x, m.h.get b = some x → (m.h.push (.cells cs' el (m.cs.length, i))).get b = some x := fun b x hg => by rw [H.get_push_lt (H.get_lt hg)]; exact hg
    refine go (ρ ++ [none]) (le.app _ _) hnone (R.lay _ rfl) hpush (D.ahead hi ho hr hnl (mk m.h.n) (fun _ h => List.mem_cons_of_mem _ h) hpush hnone (le.app _ _) fun own => ?_)
    refine .new o ho (Wanted.put ⟨_, R.k, hw⟩ own) cs' el mk m.h.n (by rw [← newA_congr (ev_put_looks own)]; exact hv) (H.get_push_new hn) (by simp) ?_ (dstIs_put _ _ _)
    have := R.n
    rw [List.getElem?_append_right (by omega)]
    simp [this]

theorem symAhead_spec {K : Facts} {ops : Array Oper} {rest : List Nat} {la : List Value} : ∀ (l : List Nat) {i : Nat} {q : Sum Value (List Int)}, symAhead P K ops rest la l = some (i, q) →
    i ∈ l ∧ ∃ o, ops[i]? = some o ∧ (readyA ops rest o && !lateA ops i) = true ∧ ∀ v, q = .inl v → wantedK K ops la o = some true ∧ symA P K (ev P la) o.op = some v
  | [], _, _, e => by simp [symAhead] at e
  | x :: l, i, q, e => by
    simp only [symAhead] at e
    have go : symAhead P K ops rest la l = some (i, q) → i ∈ x :: l ∧ ∃ o, ops[i]? = some o ∧ (readyA ops rest o && !lateA ops i) = true ∧ ∀ v, q = .inl v → wantedK K ops la o = some true ∧ symA P K (ev P la) o.op = some v :=
      fun e => let ⟨h1, h2⟩ := symAhead_spec l e; ⟨by simp [h1], h2⟩
    cases ho : ops[x]? with
    | none => simp [ho] at e
    | some o =>
      simp only [ho] at e
      cases hr : (readyA ops rest o && !lateA ops x) <;> rw [hr] at e <;> simp only [cond_true, cond_false] at e
      · exact go e
      · split at e
        · rename_i hw
          cases hv : symA P K (ev P la) o.op with
          | some v =>
            simp only [hv] at e
            cases e
            exact ⟨by simp, o, ho, hr, fun u hu => by cases hu; exact ⟨hw, hv⟩⟩
          | none =>
            simp only [hv] at e
            cases hn : needA K (ev P la) o.op with
            | some f =>
              simp only [hn] at e
              cases e
              exact ⟨by simp, o, ho, hr, fun u hu => by cases hu⟩
            | none => simp only [hn] at e; exact go e
        · exact go e
        · split at e
          · cases e
            exact ⟨by simp, o, ho, hr, fun u hu => by cases hu⟩
          · exact go e

/-- an operation on forms is carried out ahead -/
theorem symAhead_sound {w0 : World} {cs0 : List Frame} {m : AM} {ops : Array Oper} {rest : List Nat} {fp : List (Nat × Nat)} {ka : List AI} (hm : m.fr.mode = .run) (ha : m.fr.todo = .drawn ops rest fp none :: ka)
    {i : Nat} {v : Value} (e : symAhead P m.h.k ops rest m.fr.tmps rest = some (i, .inl v)) {fr : Frame} {cs : List Frame} {w : World} (M : MR P B w0 cs0 m fr cs w) :
    MR P B w0 cs0 { m with fr := { m.fr with tmps := putA m.fr.tmps ((ops[i]?).bind (·.dst)) v, todo := .drawn ops (eraseN rest i) fp none :: ka } } fr cs w := by
  obtain ⟨hi, o, ho, hr0, hv⟩ := symAhead_spec rest e
  obtain ⟨hw, hv⟩ := hv v rfl
  rw [Bool.and_eq_true] at hr0
  have hr := hr0.1
  have hnl : lateA ops i = false := by simpa using hr0.2
  obtain ⟨ρ, csr, e1, R, F, Fs, hb⟩ := M.ex
  obtain ⟨rr, kr, q1, q2, D, q4⟩ := F.drawn hm ha
  simp only [ho, Option.bind_some]
  have D' := D.ahead (fp' := fp) hi ho hr hnl v (fun _ h => h) (fun _ _ h => h) (fun _ h => h) (.refl _) fun own =>
    .sym o ho (Wanted.put ⟨_, R.k, hw⟩ own) m.h.k R.k v (by rw [← symA_congr (ev_put_looks own)]; exact hv) (dstIs_put _ _ _)
  refine ⟨ρ, csr, e1, R, ?_, Fs, hb⟩
  refine ⟨F.fn, F.kind, F.mode, F.round, F.defers, F.func, ?_⟩
  exact .drawn _ _ hm ops _ fp none ka rr kr rfl q1 q2 D' (by simp)

/-- either way -/
theorem MR.forks {w0 : World} {cs0 : List Frame} {m : AM} {fr : Frame} {cs : List Frame} {w : World} (M : MR P B w0 cs0 m fr cs w) (f : List Int) : ∃ m' ∈ forkA m f, MR P B w0 cs0 m' fr cs w := by
  obtain ⟨ρ, csr, e1, R, F, Fs, hb⟩ := M.ex
  rcases R.forks f with h | h
  · exact ⟨_, List.mem_cons_self .., ρ, csr, e1, h, F.withK _, Fs.withK _, hb⟩
  · exact ⟨_, List.mem_cons_of_mem _ (List.mem_cons_self ..), ρ, csr, e1, h, F.withK _, Fs.withK _, hb⟩

/-- the operation that stands next has come to its end -/
theorem finish_sound {dep : Nat} {fa fa' : AF} {fr : Frame} {v v' : Value} (F : FR P ρ h dep fa fr) (e : finishA fa v = some fa') (hv : VR ρ v v') : FR P ρ h dep fa' (fr.finish v') := by
  unfold finishA at e
  split at e <;> try (cases e; done)
  rename_i hm
  unfold finishT at e
  have base : ∀ {tmps todo} {ra : Array Value} {rt : List Item}, BodyR P ρ h dep { fa with tmps := tmps, todo := todo } { fr with tmps := ra, todo := rt } → FR P ρ h dep { fa with tmps := tmps, todo := todo } { fr with tmps := ra, todo := rt } :=
    fun hb => ⟨F.fn, F.kind, F.mode, F.round, F.defers, F.func, hb⟩
  split at e <;> try (cases e; done)
  · rename_i ops i rest k hk
    cases e
    cases F.body with
    | out hm' tr => exact absurd hm hm'
    | drawn hm' ops' rest' fp' cur' ka' rr kr ha' hr todo dr hc => rw [hk] at ha'; cases ha'
    | plain hm' todo tr =>
      rw [hk] at todo
      generalize hq : fr.todo = q at todo
      cases todo with
      | cons a b l l' hh hl =>
        cases hh
        have hf : fr.finish v' = { fr with tmps := (Act.put ⟨fr.tmps, []⟩ ((ops[i]?).bind (·.dst)) v').tmps, todo := .inRegion ops rest :: l' } := by
          simp only [Frame.finish, hq]
          cases (ops[i]?).bind (·.dst) <;> rfl
        rw [hf]
        exact base (.plain _ _ hm (.cons _ _ _ _ (.reg _ _) hl) (tr.put _ hv fun t ht => ht.elim))
  · rename_i ops rest fp i k hk
    cases e
    obtain ⟨rr, kr, q1, q2, D, q4⟩ := F.drawn hm hk
    obtain ⟨hi, l, rfl⟩ := q4 i rfl
    obtain ⟨o, ho, hafter, no, htr, hlook, hdst⟩ := D.head
    have hf : fr.finish v' = { fr with tmps := (Act.put ⟨fr.tmps, []⟩ o.dst v').tmps, todo := .inRegion ops l :: kr } := by
      simp only [Frame.finish, q1, ho, Option.bind_some]
      cases o.dst <;> rfl
    rw [hf]
    refine base (.drawn _ _ hm ops (eraseN rest i) fp none k l kr rfl rfl q2 ?_ (by simp))
    simp only [ho, Option.bind_some]
    obtain ⟨fuel, t, listed, h1, h2, h3, h4, h45, h5, h6, h7, h8⟩ := D.list
    obtain ⟨hr, fuel', t', h1'⟩ := go_cons h1.symm
    obtain ⟨_, _, o3, ho3, r3⟩ := ready_spec hr
    have hil := h4 i hi
    have er : ∀ j, early (eraseN rest i) (listed.setIfInBounds i true) j → j ≠ i ∧ early rest listed j := by
      rintro j ⟨k1, k2⟩
      rw [listed_set hil] at k1
      rw [eraseN_spec] at k2
      exact ⟨k1.2, k1.1, fun hin => k2 ⟨hin, k1.2⟩⟩
    refine ⟨D.spec, fuel', t', listed.setIfInBounds i true, h1', by simp [h2], ?_, ?_, ?_, ?_, ?_, closed_set D.spec h2 hil h7 ho3 r3, fun j hj => h8 j (er j hj).2⟩
    · intro j hj
      rw [listed_set hil] at hj
      have := h3 j hj.1
      simp only [List.mem_cons] at this
      rcases this with rfl | this
      · exact absurd rfl hj.2
      · exact this
    · intro j hj
      rw [eraseN_spec] at hj
      rw [listed_set hil]
      exact ⟨h4 j hj.1, hj.2⟩
    · intro j p e hj hp he hb hin
      exact h45 j p e (er j hj).2 hp he hb (eraseN_spec.1 hin).1
    · intro j hj
      obtain ⟨hne, hj⟩ := er j hj
      refine (h5 j hj).put o.dst v ?_ (fun _ h => h) (fun _ _ h => h) (fun _ h => h)
      intro p d hp hd
      refine ⟨fun hin => ?_, D.spec.once j i p o d hp ho hd hne⟩
      rcases D.spec.reads j i p o d hp ho hd hin with ⟨e, he, hb, heq⟩ | ⟨_, hin2⟩
      · exact h45 j p e hj hp he hb (heq ▸ hi)
      · rcases anc_listed h2 h7 ho3 r3 i [i] (by simp) j hin2 with h | h
        · exact hne h
        · rw [hj.1] at h; cases h
    · refine h6.put _ hv ?_
      rintro t ⟨j, p, hj, hp, hpd⟩
      refine .inl ⟨j, p, ⟨?_, fun hin => hj.2 (eraseN_spec.1 hin).1⟩, hp, hpd⟩
      rw [listed_set hil]
      exact ⟨hj.1, fun e => hj.2 (e ▸ hi)⟩
  · rename_i l k hk
    cases e
    cases F.body with
    | out hm' tr => exact absurd hm hm'
    | drawn hm' ops' rest' fp' cur' ka' rr kr ha' hr todo dr hc => rw [hk] at ha'; cases ha'
    | plain hm' todo tr =>
      rw [hk] at todo
      generalize hq : fr.todo = q at todo
      cases todo with
      | cons a b l l' hh hl =>
        cases hh with
        | inRangeFunc _ r hr =>
          have hf : fr.finish v' = { fr with todo := .endRangeFunc r :: l' } := by simp only [Frame.finish, hq]
          rw [hf]
          exact base (.plain _ _ hm (.cons _ _ _ _ (.endRangeFunc _ _ hr) hl) tr)
  · rename_i k hk
    cases e
    cases F.body with
    | out hm' tr => exact absurd hm hm'
    | drawn hm' ops' rest' fp' cur' ka' rr kr ha' hr todo dr hc => rw [hk] at ha'; cases ha'
    | plain hm' todo tr =>
      rw [hk] at todo
      generalize hq : fr.todo = q at todo
      cases todo with
      | cons a b l l' hh hl =>
        cases hh
        have hf : fr.finish v' = { fr with todo := l' } := by simp only [Frame.finish, hq]
        rw [hf]
        exact base (.plain _ _ hm hl tr)

end Go.Sim

/- The abstract machine: maps are written. -/
namespace Go.Sim
open Go.RowKit
set_option linter.unusedVariables false
set_option linter.unusedSimpArgs false
set_option linter.unusedSectionVars false
variable [Ev]

variable {P : Program} {B : Nat} {ρ : Map} {h : H} {w : World}

theorem free_fp {l : Nat} {fs : List AF} (e : freeOf l fs = true) {b : Nat} (hb : fpIn fs b) : b ≠ l := by
  rintro rfl; exact freeOf_spec e hb

/-- a loop's record is written -/
theorem setLoop_sound (R : HR P B ρ h w.heap) {l l' : Nat} {o o' : AO} (hg : h.get l = some o) (ho : o.live = true) (hown : o.own = true) (hl : ρ[l]? = some (some (l', 0))) (x : Obj) (hx : OR ρ o' 0 (some x)) (hnc : ∀ cs e own, o' ≠ .cells cs e own) (hnr : o' ≠ .room)
    {fs : List AF} (hfree : freeOf l fs = true) : Eff P B ρ h w fs ρ (h.set l o') { w with heap := w.heap.setIfInBounds l' x } := by
  have hlt := R.lt l l' 0 hl
  refine ⟨.refl _, ?_, ⟨rfl, rfl, rfl, by simp, fun i hi => ?_⟩, fun _ h => h, ?_, Nat.le_refl _⟩
  · refine R.set l l' 0 hl o o' hg ho hown _ (by simp) ?_ ?_ hnr ?_
    · intro i hi
      rw [Array.getElem?_setIfInBounds, if_neg (fun e => hi e.symm)]
    · rw [Array.getElem?_setIfInBounds, if_pos rfl, if_pos hlt]; exact hx
    · intro cs e own hq; exact absurd hq (hnc _ _ _)
  · show (w.heap.setIfInBounds l' x)[i]? = w.heap[i]?
    rw [Array.getElem?_setIfInBounds, if_neg (by have := R.low l o l' 0 hg hown hl; omega)]
  · intro b o2 hfp hg2
    rw [H.get_set_ne (free_fp hfree hfp)]; exact hg2


theorem setE_rel : ∀ {es : List (Value × Value × Nat)} {es' : List MapEntry}, LsR (ER ρ) es es' → ∀ (i : Nat) {k v v' : Value}, okK k = true → VR ρ v v' →
    LsR (ER ρ) (setE es i k v) (es'.modify i fun e => { e with key := k, val := v' })
  | _, _, .nil, i, k, v, v', hk, hv => by simp [setE]; exact .nil
  | _, _, .cons _ _ es es' (.mk k0 u u' b hk0 hu) hl, 0, k, v, v', hk, hv => .cons _ _ _ _ (.mk _ _ _ _ hk hv) hl
  | _, _, .cons _ _ es es' (.mk k0 u u' b hk0 hu) hl, i + 1, k, v, v', hk, hv => .cons _ _ _ _ (.mk _ _ _ _ hk0 hu) (setE_rel hl i hk hv)
theorem delE_rel : ∀ {es : List (Value × Value × Nat)} {es' : List MapEntry}, LsR (ER ρ) es es' → ∀ (i : Nat), LsR (ER ρ) (delE es i) (es'.eraseIdx i)
  | _, _, .nil, i => .nil
  | _, _, .cons _ _ es es' h hl, 0 => hl
  | _, _, .cons _ _ es es' h hl, i + 1 => .cons _ _ _ _ h (delE_rel hl i)

theorem keyEq_bits {x y : Value} (h : keyEq x y = some true) (n : Nat) : Instr.sameBits n x y = true := by
  unfold keyEq at h
  split at h
  · rename_i k a k' b
    cases hb : k == k' <;> rw [hb] at h <;> simp at h
    cases n <;> simp [Instr.sameBits, hb, h]
  · rename_i a b
    rw [strEq_beq] at h
    have : (a == b) = true := by simpa using h
    cases n <;> simp [Instr.sameBits, this]
  · rename_i a b
    simp at h
    cases n <;> simp [Instr.sameBits, h]
  · cases h
theorem sameL_bits {n : Nat} : ∀ {a b : List Value}, sameL a b = true → a.length = b.length ∧ ((a.zip b).all fun p => Instr.sameBits n p.1 p.2) = true
  | [], [], _ => ⟨rfl, rfl⟩
  | [], _ :: _, h => by simp [sameL] at h
  | _ :: _, [], h => by simp [sameL] at h
  | x :: a, y :: b, h => by
    simp only [sameL] at h
    split at h
    · rename_i hq
      obtain ⟨h1, h2⟩ := sameL_bits (n := n) h
      exact ⟨by simp [h1], by simp [keyEq_bits hq n]; simpa using h2⟩
    · cases h
theorem sameK_bits {x y : Value} (h : sameK x y = true) (n : Nat) : Instr.sameBits (n + 1) x y = true := by
  unfold sameK at h
  split at h
  · rename_i a b
    obtain ⟨h1, h2⟩ := sameL_bits (n := n) h
    simp only [Instr.sameBits]
    rw [Bool.and_eq_true]
    refine ⟨by simpa using h1, ?_⟩
    rw [List.all_eq_true] at h2 ⊢
    rintro ⟨u, v⟩ hx
    exact h2 (u, v) hx
  · split at h
    · rename_i hq; exact keyEq_bits hq _
    · cases h

theorem push_obj (R : HR P B ρ h w.heap) (fs : List AF) {o : AO} (hlive : o.live = true) {x : Obj} (hx : OR (ρ ++ [some (w.heap.size, 0)]) o 0 (some x)) :
    Eff P B ρ h w fs (ρ ++ [some (w.heap.size, 0)]) (h.push o) { w with heap := w.heap.push x } := by
  have hn := R.n
  refine ⟨le.app _ _, R.push o hlive x hx, ⟨rfl, rfl, rfl, by simp, fun i hi => ?_⟩, ?_, ?_, by simp [H.push]⟩
  · show (w.heap.push x)[i]? = w.heap[i]?
    rw [Array.getElem?_push, if_neg (by have := R.base; omega)]
  · intro b hb
    have hlt : b < ρ.length := by
      rcases Nat.lt_or_ge b ρ.length with hl | hl
      · exact hl
      · rw [List.getElem?_eq_none hl] at hb; cases hb
    rw [app_lt hlt]; exact hb
  · intro b o' _ hb
    have := H.get_lt hb
    rw [H.get_push_lt this]; exact hb

theorem makeMapA_sound (R : HR P B ρ h w.heap) {fs : List AF} {t : TypeId} {r r' : Option Value} {v : Value} {h' : H} (e : makeMapA P h t r = some (v, h')) (hr : VO ρ r r') :
    ∃ v' w' ρ', (Instr.makeMap t r').run P w = .ok v' w' ∧ Eff P B ρ h w fs ρ' h' w' ∧ VR ρ' v v' := by
  unfold makeMapA at e
  cases hm : mapT P t with
  | none => simp [hm] at e
  | some p =>
    obtain ⟨kt, et⟩ := p
    have hu := mapT_some hm
    simp only [hm] at e
    have hn := R.n
    have fin : (Instr.makeMap t r').run P w = .ok (.map (some w.heap.size)) { w with heap := w.heap.push (.map #[] 0) } → (some (Value.map (some h.n), h.push (.map [] 0)) = some (v, h')) →
        ∃ v' w' ρ', (Instr.makeMap t r').run P w = .ok v' w' ∧ Eff P B ρ h w fs ρ' h' w' ∧ VR ρ' v v' := by
      intro h1 h2
      cases h2
      refine ⟨_, _, _, h1, push_obj R fs rfl (.map [] [] 0 .nil), .map _ _ ?_⟩
      rw [List.getElem?_append_right (by omega)]; simp [hn]
    cases hr with
    | none =>
      exact fin (by simp [Instr.makeMap, newObj, Sem.run]) e
    | some u u' hu' =>
      simp only at e
      cases hi : isIntV u with
      | false => rw [hi] at e; cases e
      | true =>
        rw [hi] at e
        have : ∃ k n, u' = .int k n := by
          unfold isIntV at hi
          split at hi
          · cases hu'; exact ⟨_, _, rfl⟩
          · rename_i a
            rw [Option.isSome_iff_exists] at hi
            obtain ⟨k, hk⟩ := hi
            obtain ⟨n, rfl⟩ := kindOf_rel (x := .chan (some a)) hk hu'
            exact ⟨_, _, rfl⟩
          · cases hi
        obtain ⟨k, n, rfl⟩ := this
        have hai : ∀ w : World, (asInt (.int k n)).run P w = .ok n w := fun _ => rfl
        exact fin (by simp [Instr.makeMap, newObj, Sem.run, run_underlying hu, hai]) e

theorem rangeA_sound (R : HR P B ρ h w.heap) {fs : List AF} {t : TypeId} {x x' : Value} {v : Value} {h' : H} (e : rangeA P h t x = some (v, h')) (hx : VR ρ x x') :
    ∃ v' w' ρ', (Instr.range t x').run P w = .ok v' w' ∧ Eff P B ρ h w fs ρ' h' w' ∧ VR ρ' v v' := by
  unfold rangeA at e
  have hn := R.n
  split at e <;> try (cases e; done)
  · rename_i p hm
    cases e
    cases hx
    obtain ⟨kt, et⟩ := p
    have hu := mapT_some hm
    refine ⟨.pointer (some ⟨w.heap.size, 0, none⟩), { w with heap := w.heap.push (.mapIter none 0 #[] 0) }, _, by simp [Instr.range, newObj, Sem.run, run_underlying hu], push_obj R fs rfl (.iter0 0 [] 0), ?_⟩
    have := VR.ptr (ρ := ρ ++ [some (w.heap.size, 0)]) h.n 0 w.heap.size 0 (by rw [List.getElem?_append_right (by omega)]; simp [hn])
    simpa using this
  · rename_i p b hm
    obtain ⟨kt, et⟩ := p
    have hu := mapT_some hm
    split at e <;> cases e
    rename_i es c hg
    cases hx with
    | map _ r hb =>
      obtain ⟨hg', es', h3, h4⟩ := R.entries hg hb
      refine ⟨.pointer (some ⟨w.heap.size, 0, none⟩), { w with heap := w.heap.push (.mapIter (some r) c #[] c) }, _, by simp [Instr.range, newObj, getObj, Sem.run, run_underlying hu, h3], push_obj R fs rfl (.iter b r c [] c (by rw [app_lt (by exact (List.getElem?_eq_some_iff.1 hb).1)]; exact hb)), ?_⟩
      have := VR.ptr (ρ := ρ ++ [some (w.heap.size, 0)]) h.n 0 w.heap.size 0 (by rw [List.getElem?_append_right (by omega)]; simp [hn])
      simpa using this

theorem seenB_eq : ∀ (l : List Nat) (n : Nat), seenB l n = l.contains n
  | [], n => rfl
  | a :: l, n => by
    show Bool.rec (motive := fun _ => Bool) (seenB l n) true (Nat.beq a n) = _
    rw [seenB_eq l n, List.contains_cons]
    have : (n == a) = Nat.beq a n := by
      cases hb : Nat.beq a n
      · cases hq : (n == a)
        · rfl
        · rw [beq_iff_eq] at hq; subst hq; rw [Nat.beq_refl] at hb; cases hb
      · have := Nat.eq_of_beq_eq_true hb
        subst this; simp
    rw [this]
    cases Nat.beq a n <;> simp
theorem noL_eq {α : Type} (l : List α) : noL l = l.isEmpty := by cases l <;> rfl
theorem keepE_rel (p : Nat → Bool) : ∀ {es : List Ent} {es' : List MapEntry}, LsR (ER ρ) es es' → LsR (ER ρ) (keepE p es) (es'.filter fun e => p e.born)
  | _, _, .nil => .nil
  | _, _, .cons a b l l' h hl => by
    have ih := keepE_rel p hl
    have hb : b.born = a.2.2 := by cases h; rfl
    show LsR (ER ρ) (Bool.rec (motive := fun _ => List Ent) (keepE p l) (a :: keepE p l) (p a.2.2)) _
    rw [List.filter_cons, hb]
    cases p a.2.2
    · simpa using ih
    · simpa using LsR.cons _ _ _ _ h ih
theorem allE_rel (p : Nat → Bool) : ∀ {es : List Ent} {es' : List MapEntry}, LsR (ER ρ) es es' → allE p es = es'.all fun e => p e.born
  | _, _, .nil => rfl
  | _, _, .cons a b l l' h hl => by
    have ih := allE_rel p hl
    have hb : b.born = a.2.2 := by cases h; rfl
    show Bool.rec (motive := fun _ => Bool) false (allE p l) (p a.2.2) = _
    rw [List.all_cons, hb, ih]
    cases p a.2.2 <;> rfl
theorem LsR.empty {α β : Type} {R : α → β → Prop} {l : List α} {l' : List β} (h : LsR R l l') : noL l = l'.isEmpty := by cases h <;> rfl
theorem LsR.nth {α β : Type} {R : α → β → Prop} : ∀ {l : List α} {l' : List β}, LsR R l l' → ∀ {i : Nat} {y : β}, l'[i]? = some y → ∃ x ∈ l, R x y
  | _, _, .nil, i, y, e => by simp at e
  | _, _, .cons a b l l' h hl, 0, y, e => by simp at e; subst e; exact ⟨a, by simp, h⟩
  | _, _, .cons a b l l' h hl, i + 1, y, e => by
    obtain ⟨x, h1, h2⟩ := LsR.nth hl (i := i) (by simpa using e)
    exact ⟨x, by simp [h1], h2⟩
theorem run_choose_map {n : Nat} (hn : 0 < n) (w : World) : ∃ k w', (choose (.mapNext n)).run P w = .ok k w' ∧ k < n ∧ w'.heap = w.heap ∧ Below B w w' := by
  unfold choose
  by_cases h1 : n ≤ 1
  · refine ⟨0, w, ?_, hn, rfl, .refl _ _⟩
    simp [Sem.run, Question.forced, h1]
  · refine ⟨w.tape w.drawn (.mapNext n) % n, { w with drawn := w.drawn + 1 }, ?_, Nat.mod_lt _ hn, rfl, ⟨rfl, rfl, rfl, Nat.le_refl _, fun _ _ => rfl⟩⟩
    simp [Sem.run, Question.forced, h1, Question.cut]

theorem iterOf_some {o : AO} {q : Option Nat × Nat × List Nat × Nat} (h : iterOf o = some q) : o = .iter q.1 q.2.1 q.2.2.1 q.2.2.2 := by
  cases o <;> simp [iterOf] at h
  subst h; rfl
theorem roundV_rel {e : Ent} {e' : MapEntry} (h : ER ρ e e') : VR ρ (roundV e) (.tuple #[.bool true, e'.key, e'.val]) := by
  cases h with
  | mk k v v' b hk hv => exact .tuple _ _ (.cons _ _ _ _ (.bool true) (.cons _ _ _ _ (okK_self hk) (.cons _ _ _ _ hv .nil)))
theorem nextA_sound (R : HR P B ρ h w.heap) {fs : List AF} {x x' : Value} {l : List AN} (e : nextA h fs x = some l) (hx : VR ρ x x') (ty : TypeId) :
    ∃ v hh v' w', AN.val v hh ∈ l ∧ (Instr.next x' false ty).run P w = .ok v' w' ∧ Eff P B ρ h w fs ρ hh w' ∧ VR ρ v v' := by
  unfold nextA at e
  split at e <;> try (cases e; done)
  rename_i b
  cases hx with
  | ptr _ _ r d hb =>
    have over : VR ρ overV (.tuple #[.bool false]) := .tuple _ _ (.cons _ _ _ _ (.bool false) .nil)
    split at e <;> try (cases e; done)
    · rename_i s sn la hi
      cases e
      obtain ⟨o, ho, hi⟩ := Option.bind_eq_some_iff.1 hi
      have := iterOf_some hi
      subst this
      have hob := R.obj b _ r d ho hb
      generalize hq : w.heap[r]? = q at hob
      cases hob with
      | iter0 =>
        refine ⟨overV, h, _, w, by simp, ?_, Eff.refl R fs, over⟩
        simp [Instr.next, getObj, Sem.run, hq]
    · rename_i m since seen last hi
      obtain ⟨o, ho, hi⟩ := Option.bind_eq_some_iff.1 hi
      have := iterOf_some hi
      subst this
      have ho : h.get b = some (.iter (some m) since seen last) := ho
      have hob := R.obj b _ r d ho hb
      generalize hq : w.heap[r]? = q at hob
      cases hob with
      | iter _ rm _ _ _ hm =>
        split at e <;> try (cases e; done)
        rename_i es clock hg
        obtain ⟨hg', es', h3, h4⟩ := R.entries hg hm
        cases hc : (freeOf b fs && !(staleB es seen last)) <;> rw [hc] at e <;> simp only [cond_true, cond_false] at e
        · cases e
        cases e
        rw [Bool.and_eq_true] at hc
        obtain ⟨hfree, hst⟩ := hc
        have hold := keepE_rel (ρ := ρ) (fun n => !(seenB seen n) && Nat.blt n since) h4
        have hnew := keepE_rel (ρ := ρ) (fun n => !(seenB seen n) && Nat.ble since n) h4
        have hstale : (!(⟨seen⟩ : Array Nat).isEmpty && !(⟨es'⟩ : Array MapEntry).isEmpty && (⟨es'⟩ : Array MapEntry).all fun e => decide (e.born ≥ last)) = false := by
          have e1 : staleB es seen last = false := by simpa using hst
          unfold staleB at e1
          rw [noL_eq, h4.empty, allE_rel _ h4] at e1
          have e2 : (fun e : MapEntry => decide (e.born ≥ last)) = fun e => Nat.ble last e.born := by
            funext e
            cases hb2 : Nat.ble last e.born
            · exact decide_eq_false fun q => by rw [Nat.ble_eq_true_of_le q] at hb2; cases hb2
            · exact decide_eq_true (Nat.le_of_ble_eq_true hb2)
          rw [e2]
          simpa [Bool.and_assoc] using e1
        have hpo : (fun e : MapEntry => (!(seenB seen e.born) && Nat.blt e.born since)) = fun e => decide (e.born < since) && !((⟨seen⟩ : Array Nat).contains e.born) := by
          funext e
          rw [seenB_eq]
          have : Nat.blt e.born since = decide (e.born < since) := by
            cases hb2 : Nat.blt e.born since
            · exact (decide_eq_false fun q => by rw [show Nat.blt e.born since = Nat.ble (e.born + 1) since from rfl, Nat.ble_eq_true_of_le q] at hb2; cases hb2).symm
            · exact (decide_eq_true (Nat.le_of_ble_eq_true hb2)).symm
          rw [this, Bool.and_comm]; simp
        have hpn : (fun e : MapEntry => (!(seenB seen e.born) && Nat.ble since e.born)) = fun e => decide (e.born ≥ since) && !((⟨seen⟩ : Array Nat).contains e.born) := by
          funext e
          rw [seenB_eq]
          have : Nat.ble since e.born = decide (e.born ≥ since) := by
            cases hb2 : Nat.ble since e.born
            · exact (decide_eq_false fun q => by rw [Nat.ble_eq_true_of_le q] at hb2; cases hb2).symm
            · exact (decide_eq_true (Nat.le_of_ble_eq_true hb2)).symm
          rw [this, Bool.and_comm]; simp
        rw [hpo] at hold
        rw [hpn] at hnew
        let old' := es'.filter fun e => decide (e.born < since) && !((⟨seen⟩ : Array Nat).contains e.born)
        let new' := es'.filter fun e => decide (e.born ≥ since) && !((⟨seen⟩ : Array Nat).contains e.born)
        let cand : List (Option MapEntry) := (if old'.isEmpty then [none] else []) ++ (old' ++ new').map some
        have hcand : 0 < cand.length := by
          show 0 < ((if old'.isEmpty then [none] else []) ++ (old' ++ new').map some).length
          cases ho2 : old' with
          | nil => simp
          | cons a t => simp
        obtain ⟨k, w2, hch, hk, hheap, hbel⟩ := run_choose_map (P := P) (B := B) hcand w
        have hrun : ∀ res, (match cand[k]? with
            | some (some en) => (do setObj r (.mapIter (some rm) since ((⟨seen⟩ : Array Nat).push en.born) clock); pure (.tuple #[.bool true, en.key, en.val]) : Sem Value)
            | some none => pure (.tuple #[.bool false])
            | none => stuck "Next: no such candidate").run P w2 = res → (Instr.next (.pointer (some ⟨r, 0 + 0, none⟩)) false ty).run P w = res := by
          intro res hres
          rw [← hres]
          have e1 : ((⟨es'⟩ : Array MapEntry).filter fun e => !(⟨seen⟩ : Array Nat).contains e.born) = ⟨es'.filter fun e => !(⟨seen⟩ : Array Nat).contains e.born⟩ := by simp
          have e2 : ((if ((⟨es'⟩ : Array MapEntry).filter (fun e => !(⟨seen⟩ : Array Nat).contains e.born) |>.filter fun e => decide (e.born < since)).isEmpty then #[none] else #[]) ++
              (((⟨es'⟩ : Array MapEntry).filter (fun e => !(⟨seen⟩ : Array Nat).contains e.born) |>.filter fun e => decide (e.born < since)) ++ ((⟨es'⟩ : Array MapEntry).filter (fun e => !(⟨seen⟩ : Array Nat).contains e.born) |>.filter fun e => decide (e.born ≥ since))).map some : Array (Option MapEntry)) = ⟨cand⟩ := by
            apply Array.ext'
            simp only [Array.toList_append, Array.toList_map, Array.toList_filter, List.filter_filter, cand, old', new']
            congr 1
            have : (Array.filter (fun e => decide (e.born < since)) (Array.filter (fun e => !(⟨seen⟩ : Array Nat).contains e.born) (⟨es'⟩ : Array MapEntry))).isEmpty = (es'.filter fun e => decide (e.born < since) && !((⟨seen⟩ : Array Nat).contains e.born)).isEmpty := by
              rw [← Array.isEmpty_toList]
              simp only [Array.toList_filter, List.filter_filter]
            rw [this]
            split <;> rfl
          have hst2 : ¬ ((!(⟨seen⟩ : Array Nat).isEmpty && !(⟨es'⟩ : Array MapEntry).isEmpty && (⟨es'⟩ : Array MapEntry).all fun e => decide (e.born ≥ last)) = true) := by rw [hstale]; simp
          unfold Instr.next
          simp only [Nat.add_zero, getObj, Sem.run_bind, Sem.run, hq, h3, Result.andThen_ok, Sem.run_pure]
          rw [if_neg hst2]
          simp only [Sem.run_bind, Sem.run_pure, Result.andThen_ok]
          simp only [e2]
          rw [show (⟨cand⟩ : Array (Option MapEntry)).size = cand.length from rfl, hch]
          simp only [Result.andThen_ok]
          rw [show (⟨cand⟩ : Array (Option MapEntry))[k]? = cand[k]? from by simp]
          generalize cand[k]? = y
          cases y with
          | none => rfl
          | some y => cases y <;> rfl
        have hmem : ∀ y, cand[k]? = some y → ∃ v hh v' w', AN.val v hh ∈ ((bif noL (oldE es seen since) then [AN.val overV h] else []) ++ (oldE es seen since ++ newE es seen since).map fun e => AN.val (roundV e) (h.set b (.iter (some m) since (seen ++ [e.2.2]) clock))) ∧ (Instr.next (.pointer (some ⟨r, 0 + 0, none⟩)) false ty).run P w = .ok v' w' ∧ Eff P B ρ h w fs ρ hh w' ∧ VR ρ v v' := by
          intro y hy
          cases y with
          | none =>
            have hin : (none : Option MapEntry) ∈ cand := List.mem_of_getElem? hy
            have hemp : old'.isEmpty = true := by
              cases ho2 : old'.isEmpty
              · exfalso
                simp only [cand, ho2] at hin
                simp at hin
              · rfl
            refine ⟨overV, h, .tuple #[.bool false], w2, ?_, hrun _ (by rw [hy]; rfl), ⟨.refl _, by rw [hheap]; exact R, hbel, fun _ q => q, fun _ _ _ q => q, Nat.le_refl _⟩, over⟩
            have hno : noL (oldE es seen since) = true := (show noL (keepE _ es) = _ from hold.empty).trans hemp
            rw [hno]
            simp
          | some en =>
            have hin : some en ∈ cand := List.mem_of_getElem? hy
            have hin2 : en ∈ old' ++ new' := by
              simp only [cand] at hin
              rcases List.mem_append.1 hin with hin | hin
              · split at hin <;> simp at hin
              · obtain ⟨z, h1, h2⟩ := List.mem_map.1 hin
                cases h2
                exact h1
            have hrel := hold.append hnew
            obtain ⟨i, hi2, hie⟩ := List.getElem_of_mem hin2
            obtain ⟨e0, hm0, he0⟩ := LsR.nth hrel (i := i) (y := en) (by rw [List.getElem?_eq_getElem hi2, hie])
            have hborn : en.born = e0.2.2 := by cases he0; rfl
            have hw2 : w2.heap[r]? = some (.mapIter (some rm) since ⟨seen⟩ last) := by rw [hheap]; exact hq
            have hset : (setObj r (.mapIter (some rm) since ((⟨seen⟩ : Array Nat).push en.born) clock)).run P w2 = .ok () { w2 with heap := w2.heap.setIfInBounds r (.mapIter (some rm) since ((⟨seen⟩ : Array Nat).push en.born) clock) } := by
              simp [setObj, Sem.run, hw2]
            have E1 := setLoop_sound (w := w2) (by rw [hheap]; exact R) ho rfl rfl hb (.mapIter (some rm) since ((⟨seen⟩ : Array Nat).push en.born) clock) (o' := .iter (some m) since (seen ++ [e0.2.2]) clock)
              (by rw [hborn]; have := OR.iter (ρ := ρ) m rm since (seen ++ [e0.2.2]) clock hm; simpa using this) (by simp) (by simp) hfree
            refine ⟨roundV e0, _, .tuple #[.bool true, en.key, en.val], _, ?_, hrun _ (by rw [hy]; simp only [Sem.run_bind, hset, Result.andThen_ok, Sem.run_pure]), ⟨E1.le, E1.hr, hbel.trans E1.below, E1.none, E1.keep, E1.n⟩, roundV_rel he0⟩
            refine List.mem_append_right _ (List.mem_map.2 ⟨e0, hm0, rfl⟩)
        obtain ⟨y, hy⟩ : ∃ y, cand[k]? = some y := ⟨_, List.getElem?_eq_getElem hk⟩
        exact hmem y hy

theorem lastN_eq : ∀ (l : List Nat), lastN l = l.getLast?
  | [] => rfl
  | a :: l => by
    show Option.rec (motive := fun _ => Option Nat) (some a) (fun x => some x) (lastN l) = _
    rw [lastN_eq l]
    cases l with
    | nil => rfl
    | cons b l =>
      rw [List.getLast?_cons_cons]
      cases h : (b :: l).getLast? with
      | none => simp at h
      | some x => rfl
theorem bornE_rel (n : Nat) : ∀ {es : List Ent} {es' : List MapEntry} {e : Ent}, LsR (ER ρ) es es' → bornE n es = some e → ∃ e', es'.find? (fun x => x.born == n) = some e' ∧ ER ρ e e'
  | _, _, _, .nil, h => by cases h
  | _, _, e, .cons a b l l' hab hl, h => by
    have hb : b.born = a.2.2 := by cases hab; rfl
    have h' : Bool.rec (motive := fun _ => Option Ent) (bornE n l) (some a) (Nat.beq a.2.2 n) = some e := h
    rw [List.find?_cons, hb]
    cases hq : Nat.beq a.2.2 n
    · rw [hq] at h'
      have : (a.2.2 == n) = false := by
        cases h2 : (a.2.2 == n)
        · rfl
        · rw [beq_iff_eq] at h2; rw [h2, Nat.beq_refl] at hq; cases hq
      rw [this]
      exact bornE_rel n hl h'
    · rw [hq] at h'
      cases h'
      have := Nat.eq_of_beq_eq_true hq
      rw [this]
      simp only [BEq.rfl]
      exact ⟨b, rfl, hab⟩
theorem entryA_sound (R : HR P B ρ h w.heap) {x x' : Value} {v : Value} (e : entryA h x = some v) (hx : VR ρ x x') : ∃ v', (Instr.entry x').run P w = .ok v' w ∧ VR ρ v v' := by
  unfold entryA at e
  split at e <;> try (cases e; done)
  rename_i b
  cases hx with
  | ptr _ _ r d hb =>
    split at e <;> try (cases e; done)
    rename_i m since seen stepped hi
    obtain ⟨o, ho, hi⟩ := Option.bind_eq_some_iff.1 hi
    have := iterOf_some hi
    subst this
    have ho : h.get b = some (.iter (some m) since seen stepped) := ho
    have hob := R.obj b _ r d ho hb
    generalize hq : w.heap[r]? = q at hob
    cases hob with
    | iter _ rm _ _ _ hm =>
      split at e <;> try (cases e; done)
      rename_i stamp es clock hl hg
      obtain ⟨hg', es', h3, h4⟩ := R.entries hg hm
      cases hc : Nat.beq clock stepped <;> rw [hc] at e <;> simp only [cond_true, cond_false] at e
      · cases e
      have := Nat.eq_of_beq_eq_true hc
      subst this
      split at e <;> cases e
      rename_i en hen
      obtain ⟨e', k1, k2⟩ := bornE_rel stamp h4 hen
      have hback : (⟨seen⟩ : Array Nat).back? = some stamp := by
        rw [lastN_eq] at hl
        simpa [Array.back?_eq_getElem?, List.getLast?_eq_getElem?] using hl
      have hfind : (⟨es'⟩ : Array MapEntry).find? (fun x => x.born == stamp) = some e' := by simpa using k1
      refine ⟨.tuple #[e'.key, e'.val], ?_, ?_⟩
      · simp only [Instr.entry, Nat.add_zero, getObj, Sem.run_bind, Sem.run, hq, h3, Result.andThen_ok, hback, Sem.run_pure]
        simp [hfind]
      · cases k2 with
        | mk k v v' bn hk hv => exact .tuple _ _ (.cons _ _ _ _ (okK_self hk) (.cons _ _ _ _ hv .nil))
theorem updA_sound (R : HR P B ρ h w.heap) {fs : List AF} {t : TypeId} {m m' k k' v v' : Value} {h' : H} (e : updA P h fs t m k v = some h') (hm : VR ρ m m') (hk : VR ρ k k') (hv : VR ρ v v') :
    ∃ w', (Instr.mapUpdate t m' k' v').run P w = .ok () w' ∧ Eff P B ρ h w fs ρ h' w' := by
  unfold updA at e
  split at e <;> try (cases e; done)
  rename_i kt et b hmt
  have hu := mapT_some hmt
  cases hm with
  | map _ r hb =>
    split at e <;> try (cases e; done)
    rename_i es c hg
    obtain ⟨hg', es', h3, h4⟩ := R.entries hg hb
    cases hf : freeOf b fs with
    | false => rw [hf] at e; cases e
    | true =>
      rw [hf] at e
      simp only [cond_true] at e
      split at e <;> cases e
      rename_i es1 c1 hup
      unfold updE at hup
      cases hkt : keyK P kt k with
      | none => simp [hkt] at hup
      | some eq =>
        simp only [hkt] at hup
        cases hfe : findE eq k es 0 with
        | none => simp [hfe] at hup
        | some q =>
          obtain ⟨rfl, hok, hc, q', hrun, h2⟩ := find_sound hkt hk h4 hfe w
          simp only [hfe] at hup
          cases h2 with
          | none =>
            simp only [Option.some.injEq, Prod.mk.injEq] at hup
            obtain ⟨rfl, rfl⟩ := hup
            refine ⟨_, ?_, setLoop_sound R hg' rfl rfl hb (.map ⟨es' ++ [⟨k', v', c⟩]⟩ (c + 1)) (.map _ _ _ (h4.append (.cons _ _ _ _ (.mk _ _ _ _ hok hv) .nil))) (by simp) (by simp) hf⟩
            simp [Instr.mapUpdate, run_underlying hu, getObj, setObj, Sem.run, h3, hc, hrun]
          | some i u u' hvu hi =>
            simp only at hup
            cases hsk : sameK (keyAt es i) k' with
            | false => rw [hsk] at hup; cases hup
            | true =>
              rw [hsk] at hup
              simp only [cond_true, Option.some.injEq, Prod.mk.injEq] at hup
              obtain ⟨rfl, rfl⟩ := hup
              obtain ⟨en, hen', henk⟩ := hi
              refine ⟨_, ?_, setLoop_sound R hg' rfl rfl hb (.map ⟨es'.modify i fun e => { e with key := k', val := v' }⟩ c) (.map _ _ _ (setE_rel h4 i hok hv)) (by simp) (by simp) hf⟩
              have hsb := sameK_bits hsk 9999
              simp [Instr.mapUpdate, run_underlying hu, getObj, setObj, Sem.run, h3, hc, hrun, hen', henk, Instr.keyThatStays, hsb]

theorem clearA_sound (R : HR P B ρ h w.heap) {fs : List AF} {ts : Array TypeId} {ty : TypeId} {x x' : Value} {h' : H} (e : clearA P h fs ts.toList x = some h') (hx : VR ρ x x') :
    ∃ w', (Builtin.clear_ ts ty #[x']).run P w = .ok undef w' ∧ Eff P B ρ h w fs ρ h' w' := by
  unfold clearA at e
  obtain ⟨ts⟩ := ts
  dsimp only at e
  split at e <;> try (cases e; done)
  rename_i t ts
  split at e <;> try (cases e; done)
  rename_i el hu
  split at e <;> try (cases e; done)
  rename_i i hi
  split at e <;> try (cases e; done)
  rename_i z hz
  have hzv : (zeroValue el).run P w = .ok z w := zero_some (by rw [hi]; exact hz) w
  split at e <;> try (cases e; done)
  · cases e
    cases hx
    exact ⟨w, by simp [Builtin.clear_, run_underlying hu, undef], Eff.refl R fs⟩
  · rename_i b o n c
    obtain ⟨r, d, c', p, hb, hp, rfl⟩ := hx.rslice
    cases hn : Nat.beq n 0 with
    | true =>
      rw [hn] at e
      cases e
      have hn0 : n = 0 := Nat.eq_of_beq_eq_true hn
      subst hn0
      exact ⟨w, by simp [Builtin.clear_, run_underlying hu, undef], Eff.refl R fs⟩
    | false =>
      rw [hn] at e
      simp only [cond_false] at e
      have hn0 : n ≠ 0 := by intro h; rw [h] at hn; simp at hn
      have hpd : p = d + o := by
        rcases hp with hp | ⟨h0, _⟩
        · exact hp
        · exact absurd h0 hn0
      subst hpd
      split at e <;> try (cases e; done)
      rename_i cs e' own hg
      cases hc : (Nat.ble n 1000000 && allCell (constOf z).cells.toList && notBad (constOf z) && Nat.ble (o + n * (constOf z).cells.toList.length) cs.length && freeOf b fs) with
      | false => rw [hc] at e; cases e
      | true =>
        rw [hc] at e
        cases e
        simp only [Bool.and_eq_true, Nat.ble_eq] at hc
        obtain ⟨⟨⟨⟨c1, c2⟩, c3⟩, c4⟩, c5⟩ := hc
        have hrel := zeros_rel (ρ := ρ) (z := z) (n := n) c3
        have hall : allCell (repl n (constOf z).cells.toList) = true := by
          unfold allCell at c2 ⊢
          rw [List.all_eq_true] at c2 ⊢
          intro v hv
          obtain ⟨j, hj⟩ := List.getElem?_of_mem hv
          obtain ⟨_, k2⟩ := repl_get _ _ _ _ hj
          exact c2 v (List.mem_of_getElem? k2)
        obtain ⟨w', k1, k2⟩ := write_sound R hg hb hrel hall o (by rw [repl_length]; exact c4) fs c5
        refine ⟨w', ?_, k2⟩
        obtain ⟨m, rfl⟩ : ∃ m, n = m + 1 := ⟨n - 1, by omega⟩
        simp [Builtin.clear_, run_underlying hu, undef, hzv]
        have hzc : Builtin.zeroCells z.cells (m + 1) = (Array.range ((m + 1) * z.cells.size)).map (z.cells[· % z.cells.size]!) := rfl
        rw [hzc, k1]
        rfl

theorem delA_sound (R : HR P B ρ h w.heap) {fs : List AF} {ts : Array TypeId} {ty : TypeId} {m m' k k' : Value} {h' : H} (e : delA P h fs ts.toList m k = some h') (hm : VR ρ m m') (hk : VR ρ k k') :
    ∃ w', (Builtin.delete_ ts ty #[m', k']).run P w = .ok undef w' ∧ Eff P B ρ h w fs ρ h' w' := by
  unfold delA at e
  obtain ⟨ts⟩ := ts
  dsimp only at e
  cases ts with
  | nil => cases e
  | cons t ts =>
    simp only at e
    split at e <;> try (cases e; done)
    · rename_i kt et hmt
      have hu := mapT_some hmt
      cases hm
      split at e <;> cases e
      rename_i hout
      unfold outE at hout
      cases hkt : keyK P kt k with
      | none => simp [hkt] at hout
      | some eq =>
        obtain ⟨rfl, hok, hc, q', hrun, h2⟩ := find_sound (P := P) hkt hk (.nil : LsR (ER ρ) [] []) (r := none) (by simp [findE]) w
        exact ⟨w, by simp [Builtin.delete_, run_underlying hu, hc, undef], Eff.refl R fs⟩
    · rename_i kt et b hmt
      have hu := mapT_some hmt
      cases hm with
      | map _ r hb =>
        split at e <;> try (cases e; done)
        rename_i es c hg
        obtain ⟨hg', es', h3, h4⟩ := R.entries hg hb
        cases hf : freeOf b fs with
        | false => rw [hf] at e; cases e
        | true =>
          rw [hf] at e
          simp only [cond_true] at e
          split at e <;> cases e
          rename_i es1 hout
          unfold outE at hout
          cases hkt : keyK P kt k with
          | none => simp [hkt] at hout
          | some eq =>
            simp only [hkt] at hout
            cases hfe : findE eq k es 0 with
            | none => simp [hfe] at hout
            | some q =>
              obtain ⟨rfl, hok, hc, q', hrun, h2⟩ := find_sound hkt hk h4 hfe w
              simp only [hfe] at hout
              cases h2 with
              | none =>
                simp only [Option.some.injEq] at hout
                subst hout
                refine ⟨_, ?_, setLoop_sound R hg' rfl rfl hb (.map ⟨es'⟩ c) (.map _ _ _ h4) (by simp) (by simp) hf⟩
                simp [Builtin.delete_, run_underlying hu, getObj, setObj, Sem.run, h3, hc, hrun, undef]
              | some i u u' hvu hi =>
                simp only [Option.some.injEq] at hout
                subst hout
                refine ⟨_, ?_, setLoop_sound R hg' rfl rfl hb (.map ⟨es'.eraseIdx i⟩ c) (.map _ _ _ (delE_rel h4 i)) (by simp) (by simp) hf⟩
                obtain ⟨en, hen, _⟩ := hi
                have hlt : i < es'.length := (List.getElem?_eq_some_iff.1 hen).1
                simp [Builtin.delete_, run_underlying hu, getObj, setObj, Sem.run, h3, hc, hrun, undef]
end Go.Sim

/- The abstract machine: operations with an effect, whole. -/
namespace Go.Sim
open Go.RowKit
set_option linter.unusedVariables false
set_option linter.unusedSimpArgs false
set_option linter.unusedSectionVars false
variable [Ev]

variable {P : Program} {B : Nat} {ρ : Map} {h : H} {w : World}

inductive NR (P : Program) (B : Nat) (ρ : Map) (h : H) (w : World) (fs : List AF) : AN → Result Next → Prop
  | val (v h' v' w' ρ') (E : Eff P B ρ h w fs ρ' h' w') (hv : VR ρ' v v') : NR P B ρ h w fs (.val v h') (.ok (.value v') w')
  | skip (h' w' ρ') (E : Eff P B ρ h w fs ρ' h' w') : NR P B ρ h w fs (.val undef h') (.ok .skip w')
  | enter (f) (as bs : List Value) (hb : hasBody P f = true) (hv : VRs ρ as bs) : NR P B ρ h w fs (.enter f ⟨as⟩) (.ok (.enter f ⟨bs⟩) w)
  | round (l l') (as bs : List Value) (hl : ρ[l]? = some (some (l', 0))) (hv : VRs ρ as bs) : NR P B ρ h w fs (.round l ⟨as⟩) ((Instr.yield l' ⟨bs⟩).run P w)
  | panic (v v') (hv : VR ρ v v') : NR P B ρ h w fs (.panic v) (.halt (.panic v') w)
  | defer (d d') (hd : DR ρ d d') : NR P B ρ h w fs (.defer d) (.ok (.defer d') w)
  | recover : NR P B ρ h w fs .recover (.ok .recover w)

theorem cmp_int {op : BinOp} (hop : (match op with | .eql | .neq | .lss | .leq | .gtr | .geq => true | _ => false) = true) (t : TypeId) (X Y : Operand) (k : IntKind) (a b : Int) (w : World) :
    ∃ c, (do eqGuard op t X Y (.int k a) (.int k b); binOp op t (.int k a) (.int k b) : Sem Value).run P w = .ok (.bool c) w := by
  simp only [Sem.run_bind, eqGuard_at_int, Sem.run_pure, Result.andThen_ok]
  cases op <;> simp only at hop <;> first | (cases hop; done) | skip
  all_goals (simp only [binOp_eql, binOp_neq, binOp_lss, binOp_leq, binOp_gtr, binOp_geq, Sem.run_pure]; exact ⟨_, rfl⟩)

theorem cmp_str {op : BinOp} (hop : (match op with | .eql | .neq | .lss | .leq | .gtr | .geq => true | _ => false) = true) (t : TypeId) (X Y : Operand) (a b : ByteArray) (w : World) :
    ∃ c, (do eqGuard op t X Y (.string a) (.string b); binOp op t (.string a) (.string b) : Sem Value).run P w = .ok (.bool c) w := by
  simp only [Sem.run_bind, eqGuard_at_string, Sem.run_pure, Result.andThen_ok]
  rw [show binOp op t (.string a) (.string b) = Op.stringOp op a b from by cases op <;> rfl]
  cases op <;> simp only at hop <;> first | (cases hop; done) | skip
  all_goals exact ⟨_, rfl⟩

theorem cmp_sound {op : BinOp} {x y x' y' : Value} (e : cmpA op x y = true) (hx : VR ρ x x') (hy : VR ρ y y') (t : TypeId) (X Y : Operand) (w : World) :
    ∃ c, (do eqGuard op t X Y x' y'; binOp op t x' y' : Sem Value).run P w = .ok (.bool c) w := by
  unfold cmpA at e
  rw [Bool.and_eq_true] at e
  obtain ⟨hop, e⟩ := e
  split at e
  · rename_i a k n
    cases hk : kOf a with
    | none => simp [hk] at e
    | some j =>
      simp [hk] at e
      subst e
      obtain ⟨m, rfl⟩ := kindOf_rel (x := .chan (some a)) hk hx
      cases hy
      exact cmp_int hop t X Y _ _ _ w
  · rename_i k n a
    cases hk : kOf a with
    | none => simp [hk] at e
    | some j =>
      simp [hk] at e
      subst e
      obtain ⟨m, rfl⟩ := kindOf_rel (x := .chan (some a)) hk hy
      cases hx
      exact cmp_int hop t X Y _ _ _ w
  · rename_i a b
    cases hk : kOf a with
    | some j =>
      simp only [hk] at e
      have := Nat.eq_of_beq_eq_true e
      subst this
      obtain ⟨m, rfl⟩ := kindOf_rel (x := .chan (some a)) hk hx
      obtain ⟨m', rfl⟩ := kindOf_rel (x := .chan (some a)) hk hy
      exact cmp_int hop t X Y _ _ _ w
    | none =>
      simp only [hk, Bool.and_eq_true] at e
      have e1 := Nat.eq_of_beq_eq_true e.1
      have e2 := Nat.eq_of_beq_eq_true e.2
      subst e1; subst e2
      rcases hx.chan with ⟨k, n, hk, _⟩ | ⟨_, s, rfl⟩ | ⟨hk, _⟩ | ⟨hk, _⟩
      · cases k <;> cases hk
      · rcases hy.chan with ⟨k, n, hk, _⟩ | ⟨_, s', rfl⟩ | ⟨hk, _⟩ | ⟨hk, _⟩
        · cases k <;> cases hk
        · exact cmp_str hop t X Y _ _ w
        · cases hk
        · cases hk
      · cases hk
      · cases hk
  · rename_i a s
    have e1 := Nat.eq_of_beq_eq_true e
    subst e1
    cases hy
    rcases hx.chan with ⟨k, n, hk, _⟩ | ⟨_, s', rfl⟩ | ⟨hk, _⟩ | ⟨hk, _⟩
    · cases k <;> cases hk
    · exact cmp_str hop t X Y _ _ w
    · cases hk
    · cases hk
  · rename_i s a
    have e1 := Nat.eq_of_beq_eq_true e
    subst e1
    cases hx
    rcases hy.chan with ⟨k, n, hk, _⟩ | ⟨_, s', rfl⟩ | ⟨hk, _⟩ | ⟨hk, _⟩
    · cases k <;> cases hk
    · exact cmp_str hop t X Y _ _ w
    · cases hk
    · cases hk
  · cases e

theorem callFunc_run {f : FuncId} (hb : hasBody P f = true) (args : Array Value) (w : World) : (callFunc f args).run P w = .ok (.enter f args) w := by
  unfold hasBody at hb
  cases hf : P.funcs[f]? with
  | none => simp [hf] at hb
  | some fn =>
    simp only [hf, Bool.and_eq_true, bne_iff_ne, ne_eq] at hb
    obtain ⟨h1, h2⟩ := hb
    have h3 : fn.body.isNone = false := by cases hq : fn.body <;> simp_all
    obtain ⟨c, hc⟩ := Option.isSome_iff_exists.1 h1
    simp [callFunc, hf, h2, hc]

theorem extV_sound {g : FuncId} {as bs : List Value} {v : Value} (e : extV P g as = some v) (h : VRs ρ as bs) (w : World) : (callFunc g ⟨bs⟩).run P w = .ok (.value v) w ∧ VR ρ v v := by
  unfold extV at e
  cases hf : P.funcs[g]? with
  | none => simp [hf] at e
  | some fn =>
    simp only [hf] at e
    cases hc : (fn.body.isNone && fn.name != "runtime.NumGoroutine" && (Extern.findNext fn).isNone && as.all Sim.okC) with
    | false => rw [hc] at e; cases e
    | true =>
      rw [hc] at e
      simp only [cond_true] at e
      simp only [Bool.and_eq_true] at hc
      obtain ⟨⟨⟨h1, h2⟩, h3⟩, h4⟩ := hc
      have := h.okC h4
      subst this
      cases he : Extern.find fn with
      | none => simp [he] at e
      | some ex =>
        simp only [he] at e
        split at e <;> try (cases e; done)
        rename_i u hu
        cases hok : Sim.okC u with
        | false => rw [hok] at e; cases e
        | true =>
          rw [hok] at e
          cases e
          refine ⟨?_, .const ρ _ hok⟩
          have h3' : Extern.findNext fn = none := by simpa using h3
          rw [run_callFunc_extern hf (by simpa [bne] using h2) h1 h3' he, hu]
          rfl

theorem find_same {fn : Func} (hn : fn.name = "internal/abi.NoEscape") : Extern.find fn = some Extern.AbiNoEscape.same := by
  unfold Extern.find
  rw [hn]
  have h1 : Extern.allGenericRows.lookup "internal/abi.NoEscape" = none := by kernel_rfl
  have h2 : Extern.allTypedRows.lookup "internal/abi.NoEscape" = none := by kernel_rfl
  have h3 : Extern.allRows.lookup "internal/abi.NoEscape" = some Extern.AbiNoEscape.same := by kernel_rfl
  simp only [h1, h2, h3]
  rfl

theorem sameA_sound {g : FuncId} {as bs : List Value} {v : Value} (e : sameA P g as = some v) (h : VRs ρ as bs) (w : World) : ∃ v', (callFunc g ⟨bs⟩).run P w = .ok (.value v') w ∧ VR ρ v v' := by
  unfold sameA at e
  cases hf : P.funcs[g]? with
  | none => simp [hf] at e
  | some fn =>
    simp only [hf] at e
    cases hc : (fn.body.isNone && fn.name != "runtime.NumGoroutine" && (Extern.findNext fn).isNone && fn.name == "internal/abi.NoEscape") with
    | false => rw [hc] at e; cases e
    | true =>
      rw [hc] at e
      simp only [cond_true] at e
      simp only [Bool.and_eq_true] at hc
      obtain ⟨⟨⟨h1, h2⟩, h3⟩, h4⟩ := hc
      split at e <;> cases e
      cases h with
      | cons _ x' _ l' hx hl =>
        cases hl
        have h3' : Extern.findNext fn = none := by simpa using h3
        refine ⟨x', ?_, hx⟩
        rw [run_callFunc_extern hf (by simpa [bne] using h2) h1 h3' (find_same (by simpa using h4))]
        rfl

theorem extA_sound {g : FuncId} {as bs : List Value} {v : Value} (e : extA P g as = some v) (h : VRs ρ as bs) (w : World) : ∃ v', (callFunc g ⟨bs⟩).run P w = .ok (.value v') w ∧ VR ρ v v' := by
  unfold extA at e
  cases hq : extV P g as with
  | some u =>
    rw [hq] at e
    cases e
    obtain ⟨h1, h2⟩ := extV_sound hq h w
    exact ⟨_, h1, h2⟩
  | none =>
    rw [hq] at e
    exact sameA_sound e h w

theorem find_mnz {fn : Func} (hn : fn.name = "internal/bytealg.MakeNoZero") : Extern.find fn = some (Extern.BytealgMakeNoZero.makeNoZero fn.params fn.resultTypes) := by
  unfold Extern.find
  rw [hn]
  have h1 : Extern.allGenericRows.lookup "internal/bytealg.MakeNoZero" = none := by kernel_rfl
  have h2 : Extern.allTypedRows.lookup "internal/bytealg.MakeNoZero" = some Extern.BytealgMakeNoZero.makeNoZero := by kernel_rfl
  simp only [h1, h2]
  rfl

theorem digits_list : ∀ (n t : Nat) (acc : Array Value), ∃ L : List Value, (Extern.BytealgMakeNoZero.digits n t acc).toList = acc.toList ++ L ∧ L.length = n ∧ ∀ v ∈ L, ∃ z, v = .int .u8 z
  | 0, t, acc => ⟨[], by simp [Extern.BytealgMakeNoZero.digits], rfl, by simp⟩
  | n + 1, t, acc => by
    obtain ⟨L, h1, h2, h3⟩ := digits_list n (t / 256) (acc.push (.int .u8 (Int.ofNat (t % 256))))
    refine ⟨.int .u8 (Int.ofNat (t % 256)) :: L, ?_, by simp [h2], ?_⟩
    · unfold Extern.BytealgMakeNoZero.digits
      rw [h1]
      simp
    · intro v hv
      rcases List.mem_cons.1 hv with rfl | hv
      · exact ⟨_, rfl⟩
      · exact h3 v hv

theorem mnz_sound (R : HR P B ρ h w.heap) (fs : List AF) {g : FuncId} {as bs : List Value} {q : List Value × TypeId × Nat} (e : mnzT P g as = some q) (hv : VRs ρ as bs) :
    ∃ v' w' ρ', (callFunc g ⟨bs⟩).run P w = .ok (.value v') w' ∧ Eff P B ρ h w fs ρ' (rowA h q.1 q.2.1 q.2.2).2 w' ∧ VR ρ' (rowA h q.1 q.2.1 q.2.2).1 v' := by
  unfold mnzT at e
  split at e <;> try (cases e; done)
  rename_i fn n hf
  cases hc : (fn.body.isNone && fn.name != "runtime.NumGoroutine" && (Extern.findNext fn).isNone && fn.name == "internal/bytealg.MakeNoZero" && Nat.ble n 65536) <;> rw [hc] at e <;> simp only [cond_true, cond_false] at e
  case false => cases e
  simp only [Bool.and_eq_true] at hc
  obtain ⟨⟨⟨⟨c1, c2⟩, c3⟩, c4⟩, c5⟩ := hc
  have c5 := Nat.le_of_ble_eq_true c5
  split at e <;> try (cases e; done)
  rename_i t ht
  split at e <;> try (cases e; done)
  rename_i el hu
  split at e <;> try (cases e; done)
  rename_i hsz
  cases e
  cases hv with
  | cons _ x' _ l' hx hl =>
  cases hl
  cases hx
  have h3' : Extern.findNext fn = none := by simpa using c3
  have hn : fn.name = "internal/bytealg.MakeNoZero" := by simpa using c4
  let k : Nat := Question.cut (.appendCap n 0 el) (w.tape w.drawn (.appendCap n 0 el))
  have hk : n ≤ k := by show n ≤ n + _; omega
  have hch : (choose (.appendCap n 0 el)).run P w = .ok k { w with drawn := w.drawn + 1 } := by
    simp [choose, Sem.run, Question.forced, k]
  obtain ⟨u, hcu⟩ : ∃ u : Nat, (choose (.extern "internal/bytealg.MakeNoZero.bytes" 0)).run P { w with drawn := w.drawn + 1 } = .ok u { w with drawn := w.drawn + 1 + 1 } := ⟨_, rfl⟩
  have r0 : ∀ (q : Nat) (w' : World), (askRoom q).run P w' = .ok () w' := by intro q w'; unfold askRoom; split <;> rfl
  obtain ⟨L, d1, d2, d3⟩ := digits_list k u #[]
  have hdig : Extern.BytealgMakeNoZero.digits k u #[] = ⟨L.take n ++ [] ++ L.drop n⟩ := by
    apply Array.ext'
    rw [d1]
    simp
  have hrun : (callFunc g ⟨[.int .i64 (Int.ofNat n)]⟩).run P w = .ok (.value (.slice (some ⟨w.heap.size, 0, none⟩) n k)) { w with heap := w.heap.push (.cells ⟨L.take n ++ [] ++ L.drop n⟩ el), drawn := w.drawn + 1 + 1 } := by
    rw [run_callFunc_extern hf (by simpa [bne] using c2) c1 h3' (find_mnz hn)]
    have hneg : ¬ (Int.ofNat n < 0 ∨ Int.ofNat n > 2 ^ 48) := by
      have : (Int.ofNat n : Int) = (n : Int) := rfl
      rw [this]; omega
    have hlen0 : fn.resultTypes[0]? = some t := ht
    have key : (Extern.BytealgMakeNoZero.makeNoZero fn.params fn.resultTypes ⟨[.int .i64 (Int.ofNat n)]⟩).run P w = .ok (.slice (some ⟨w.heap.size, 0, none⟩) n k) { w with heap := w.heap.push (.cells ⟨L.take n ++ [] ++ L.drop n⟩ el), drawn := w.drawn + 1 + 1 } := by
      generalize fn.resultTypes = rt at hlen0 ⊢
      obtain ⟨rl⟩ := rt
      cases rl with
      | nil => cases hlen0
      | cons t0 rl =>
      have h0 : t0 = t := by simpa using hlen0
      subst h0
      refine (congrArg (fun s => Sem.run P s w) (show Extern.BytealgMakeNoZero.makeNoZero fn.params ⟨t0 :: rl⟩ ⟨[.int .i64 (Int.ofNat n)]⟩ = bind (underlying t0) _ from rfl)).trans ?_
      simp only [Sem.run_bind, run_underlying hu, Result.andThen_ok]
      have hb : (decide (Int.ofNat n < 0) || decide (Int.ofNat n > 2 ^ 48)) = false := by
        rw [Bool.or_eq_false_iff]
        simp only [decide_eq_false_iff_not]
        exact ⟨fun h => hneg (.inl h), fun h => hneg (.inr h)⟩
      simp only [hb, Bool.false_eq_true, if_false, Sem.run_bind, Sem.run_pure, Result.andThen_ok]
      simp only [Int.ofNat_eq_natCast, Int.toNat_natCast, hch, Result.andThen_ok, r0, hcu, newRow, newObj, Sem.run]
      rw [hdig]
      rfl
    rw [key]
    rfl
  have hrel : VRs ρ (List.replicate n (topI .u8)) (L.take n ++ []) := by
    rw [List.append_nil]
    refine .of_get _ _ (by simp [d2]; omega) (fun i v v' h1 h2 => ?_)
    have h2' := List.mem_of_getElem? h2
    obtain ⟨z, rfl⟩ := d3 v' (List.mem_of_mem_take h2')
    have h1' := List.mem_of_getElem? h1
    rw [List.mem_replicate] at h1'
    rw [h1'.2]
    exact .topI _ _
  obtain ⟨ρ', E, hvr⟩ := rowA_sound (rest := L.drop n) (m := n) (k := k) R (w' := { w with heap := w.heap.push (.cells ⟨L.take n ++ [] ++ L.drop n⟩ el), drawn := w.drawn + 1 + 1 }) ⟨rfl, rfl, rfl, rfl⟩ hrel hsz (by simp) (by simp [d2]) hk fs
  exact ⟨_, _, ρ', hrun, E, hvr⟩

theorem effA_sound (R : HR P B ρ h w.heap) {fs : List AF} {E E' : Operand → Value} {o : Oper} {l : List AN} (e : effA P h fs E o = some l) (hE : ∀ x ∈ o.op.operands, VR ρ (E x) (E' x)) :
    ∃ n ∈ l, NR P B ρ h w fs n ((execOp E' o).run P w) := by
  obtain ⟨dst, op, type, pos, after, guard⟩ := o
  cases op <;> simp only [effA] at e <;> simp only [Op.operands] at hE <;> first | (cases e; done) | skip
  case store t a x =>
    split at e <;> cases e
    rename_i h' hs
    obtain ⟨w', k1, k2⟩ := storeA_sound R hs (hE a (by simp)) (hE x (by simp))
    refine ⟨_, List.mem_singleton.2 rfl, ?_⟩
    have : (execOp E' { dst, op := .store t a x, type, pos, after, guard }).run P w = .ok .skip w' := by simp [execOp, k1]
    rw [this]
    exact .skip _ _ _ k2
  case binOp op t x y yt =>
    cases hc : cmpA op (weak (E x)) (weak (E y)) <;> rw [hc] at e <;> simp only [cond_true, cond_false] at e <;> cases e
    obtain ⟨c, hr⟩ := cmp_sound (P := P) hc (weak_rel (hE x (by simp))) (weak_rel (hE y (by simp))) t x y w
    have : (execOp E' { dst, op := .binOp op t x y yt, type, pos, after, guard }).run P w = .ok (.value (.bool c)) w := by
      simp only [execOp]; rw [Sem.run_bind, hr]; rfl
    rw [this]
    cases c
    · exact ⟨_, by simp, .val _ _ _ _ _ (Eff.refl R fs) (.bool false)⟩
    · exact ⟨_, by simp, .val _ _ _ _ _ (Eff.refl R fs) (.bool true)⟩
  case convert src dst' x =>
    split at e
    · cases e
      rename_i h' hs
      obtain ⟨w', k1, k2⟩ := markA_sound R hs (hE x (by simp))
      refine ⟨_, List.mem_singleton.2 rfl, ?_⟩
      have : (execOp E' { dst, op := .convert src dst' x, type, pos, after, guard }).run P w = .ok (.value (E' x)) w' := by simp [execOp, k1]
      rw [this]
      exact .val _ _ _ _ _ k2 ((hE x (by simp)).mono k2.le)
    · split at e <;> cases e
      rename_i v hs
      obtain ⟨k1, k2⟩ := uconvA_sound R hs (hE x (by simp))
      refine ⟨_, List.mem_singleton.2 rfl, ?_⟩
      have : (execOp E' { dst, op := .convert src dst' x, type, pos, after, guard }).run P w = .ok (.value (E' x)) w := by simp [execOp, k1]
      rw [this]
      exact .val _ _ _ _ _ (Eff.refl R fs) k2
  case call c =>
    obtain ⟨callee, args, ts⟩ := c
    simp only [Call.operands] at hE
    cases callee <;> simp only at e <;> simp only at hE <;> first | (cases e; done) | skip
    case value f =>
      have hf := hE f (by simp)
      have hargs : VRs ρ (args.toList.map E) (args.toList.map E') := map_rel _ fun x hx => hE x (by simp; exact .inr (by simpa using hx))
      generalize hq : E f = q at hf e
      generalize hq' : E' f = q' at hf
      split at e
      · rename_i g first cap
        cases hb : hasBody P g <;> rw [hb] at e <;> simp only [cond_true, cond_false] at e
        · cases hxa : extA P g (first ++ args.map E ++ cap).toList with
          | none =>
            rw [hxa] at e
            dsimp only at e
            split at e <;> cases e
            rename_i q hx
            cases hf with
            | func _ as bs cs ds k1 k2 =>
              refine ⟨_, List.mem_singleton.2 rfl, ?_⟩
              have hrel : VRs ρ ((⟨as⟩ : Array Value) ++ args.map E ++ ⟨cs⟩).toList (bs ++ args.toList.map E' ++ ds) := by
                have he : ((⟨as⟩ : Array Value) ++ args.map E ++ ⟨cs⟩).toList = as ++ args.toList.map E ++ cs := by simp
                rw [he]
                exact (k1.append hargs).append k2
              obtain ⟨v', w', ρ', q1, q2, q3⟩ := mnz_sound R fs hx hrel
              have : (execOp E' { dst, op := .call { callee := .value f, args := args, argTypes := ts }, type, pos, after, guard }).run P w = .ok (.value v') w' := by
                simp only [execOp, resolve, hq', Deferred.ofValue, Sem.run_bind, Sem.run_pure, Result.andThen_ok, invoke]
                rw [arr_map, ← q1]
                congr 2
                apply Array.ext'; simp
              rw [this]
              exact .val _ _ _ _ _ q2 q3
          | some v =>
          have hx := hxa
          rw [hxa] at e
          cases e
          cases hf with
          | func _ as bs cs ds k1 k2 =>
            refine ⟨_, List.mem_singleton.2 rfl, ?_⟩
            have hrel : VRs ρ ((⟨as⟩ : Array Value) ++ args.map E ++ ⟨cs⟩).toList (bs ++ args.toList.map E' ++ ds) := by
              have he : ((⟨as⟩ : Array Value) ++ args.map E ++ ⟨cs⟩).toList = as ++ args.toList.map E ++ cs := by simp
              rw [he]
              exact (k1.append hargs).append k2
            obtain ⟨v', q1, q2⟩ := extA_sound hx hrel w
            have : (execOp E' { dst, op := .call { callee := .value f, args := args, argTypes := ts }, type, pos, after, guard }).run P w = .ok (.value v') w := by
              simp only [execOp, resolve, hq', Deferred.ofValue, Sem.run_bind, Sem.run_pure, Result.andThen_ok, invoke]
              rw [arr_map, ← q1]
              congr 2
              apply Array.ext'; simp
            rw [this]
            exact .val _ _ _ _ _ (Eff.refl R fs) q2
        cases e
        cases hf with
        | func _ as bs cs ds k1 k2 =>
          refine ⟨_, List.mem_singleton.2 rfl, ?_⟩
          have : (execOp E' { dst, op := .call { callee := .value f, args := args, argTypes := ts }, type, pos, after, guard }).run P w = .ok (.enter g ⟨bs ++ args.toList.map E' ++ ds⟩) w := by
            simp only [execOp, resolve, hq', Deferred.ofValue, Sem.run_bind, Sem.run_pure, Result.andThen_ok, invoke]
            rw [callFunc_run hb, arr_map]
            congr 2
            apply Array.ext'; simp
          rw [this]
          have he : (⟨as⟩ : Array Value) ++ args.map E ++ ⟨cs⟩ = ⟨as ++ args.toList.map E ++ cs⟩ := by
            apply Array.ext'; simp
          rw [he]
          exact .enter _ _ _ hb ((k1.append hargs).append k2)
      · rename_i l' first cap
        cases e
        cases hf with
        | yield _ r hr =>
          refine ⟨_, List.mem_singleton.2 rfl, ?_⟩
          have : (execOp E' { dst, op := .call { callee := .value f, args := args, argTypes := ts }, type, pos, after, guard }).run P w = (Instr.yield r ⟨args.toList.map E'⟩).run P w := by
            simp only [execOp, resolve, hq', Deferred.ofValue, Sem.run_bind, Sem.run_pure, Result.andThen_ok, invoke]
            rw [arr_map]
            congr 2
            apply Array.ext'; simp
          rw [this]
          have he : (#[] : Array Value) ++ args.map E = ⟨args.toList.map E⟩ := by
            apply Array.ext'; simp
          rw [he]
          exact .round _ _ _ _ hr hargs
      · cases e
    case builtin b =>
      have hargs : ∀ x ∈ args.toList, VR ρ (E x) (E' x) := fun x hx => hE x (by simp; simpa using hx)
      split at e
      · rename_i hcal
        cases hcal
      · rename_i hcal
        cases hcal
        split at e <;> try (cases e; done)
        rename_i s x ha
        split at e <;> cases e
        rename_i v h' hap
        obtain ⟨args⟩ := args
        dsimp only at ha
        subst ha
        -- two argument types
        have hts : ∃ t t2, ts.toList = [t, t2] := by
          unfold appendA at hap
          split at hap
          · exact ⟨_, _, by assumption⟩
          · cases hap
        obtain ⟨t, t2, hts⟩ := hts
        obtain ⟨ts⟩ := ts
        dsimp only at hts
        subst hts
        obtain ⟨v', w', ρ', k1, k2, k3⟩ := appendA_sound (ty := type) R hap (hargs s (by simp)) (hargs x (by simp))
        refine ⟨_, List.mem_singleton.2 rfl, ?_⟩
        have : (execOp E' { dst, op := .call { callee := .builtin .append, args := ⟨[s, x]⟩, argTypes := ⟨[t, t2]⟩ }, type, pos, after, guard }).run P w = .ok (.value v') w' := by
          simp only [execOp, resolve, Sem.run_bind, Sem.run_pure, Result.andThen_ok, invoke, builtin]
          have he : Array.map E' ⟨[s, x]⟩ = #[E' s, E' x] := by apply Array.ext'; simp
          rw [he, k1]; rfl
        rw [this]
        exact .val _ _ _ _ _ k2 k3
      · rename_i hcal
        cases hcal
        split at e <;> try (cases e; done)
        rename_i s x ha
        split at e <;> cases e
        rename_i v h' hap
        obtain ⟨args⟩ := args
        dsimp only at ha
        subst ha
        obtain ⟨v', w', k1, k2, k3⟩ := copyA_sound (ty := type) R hap (hargs s (by simp)) (hargs x (by simp))
        refine ⟨_, List.mem_singleton.2 rfl, ?_⟩
        have : (execOp E' { dst, op := .call { callee := .builtin .copy, args := ⟨[s, x]⟩, argTypes := ts }, type, pos, after, guard }).run P w = .ok (.value v') w' := by
          simp only [execOp, resolve, Sem.run_bind, Sem.run_pure, Result.andThen_ok, invoke, builtin]
          have he : Array.map E' ⟨[s, x]⟩ = #[E' s, E' x] := by apply Array.ext'; simp
          rw [he, k1]; rfl
        rw [this]
        exact .val _ _ _ _ _ k2 k3
      · rename_i hcal
        cases hcal
        cases e
        refine ⟨_, List.mem_singleton.2 rfl, ?_⟩
        have : (execOp E' { dst, op := .call { callee := .builtin .recover, args := args, argTypes := ts }, type, pos, after, guard }).run P w = .ok .recover w := by
          simp [execOp, resolve, invoke, builtin]
        rw [this]
        exact .recover
      · rename_i hcal
        cases hcal
        split at e <;> try (cases e; done)
        rename_i p n ha
        split at e <;> cases e
        rename_i v h' hap
        obtain ⟨args⟩ := args
        dsimp only at ha
        subst ha
        obtain ⟨v', w', k1, k2, k3⟩ := ustrA_sound (ty := type) R hap (hargs p (by simp)) (hargs n (by simp))
        refine ⟨_, List.mem_singleton.2 rfl, ?_⟩
        have : (execOp E' { dst, op := .call { callee := .builtin .unsafeString, args := ⟨[p, n]⟩, argTypes := ts }, type, pos, after, guard }).run P w = .ok (.value v') w' := by
          simp only [execOp, resolve, Sem.run_bind, Sem.run_pure, Result.andThen_ok, invoke, builtin]
          have he : Array.map E' ⟨[p, n]⟩ = #[E' p, E' n] := by apply Array.ext'; simp
          rw [he, k1]; rfl
        rw [this]
        exact .val _ _ _ _ _ k2 (k3.mono k2.le)
      · rename_i hcal
        cases hcal
        split at e <;> try (cases e; done)
        rename_i m k ha
        split at e <;> cases e
        rename_i h' hap
        obtain ⟨args⟩ := args
        dsimp only at ha
        subst ha
        obtain ⟨w', k1, k2⟩ := delA_sound (ty := type) R hap (hargs m (by simp)) (hargs k (by simp))
        refine ⟨_, List.mem_singleton.2 rfl, ?_⟩
        have : (execOp E' { dst, op := .call { callee := .builtin .delete, args := ⟨[m, k]⟩, argTypes := ts }, type, pos, after, guard }).run P w = .ok (.value undef) w' := by
          simp only [execOp, resolve, Sem.run_bind, Sem.run_pure, Result.andThen_ok, invoke, builtin]
          have he : Array.map E' ⟨[m, k]⟩ = #[E' m, E' k] := by apply Array.ext'; simp
          rw [he, k1]; rfl
        rw [this]
        exact .val _ _ _ _ _ k2 (.tuple [] [] .nil)
      · rename_i hcal
        cases hcal
        split at e <;> try (cases e; done)
        rename_i m ha
        split at e <;> cases e
        rename_i h' hap
        obtain ⟨args⟩ := args
        dsimp only at ha
        subst ha
        obtain ⟨w', k1, k2⟩ := clearA_sound (ty := type) R hap (hargs m (by simp))
        refine ⟨_, List.mem_singleton.2 rfl, ?_⟩
        have : (execOp E' { dst, op := .call { callee := .builtin .clear, args := ⟨[m]⟩, argTypes := ts }, type, pos, after, guard }).run P w = .ok (.value undef) w' := by
          simp only [execOp, resolve, Sem.run_bind, Sem.run_pure, Result.andThen_ok, invoke, builtin]
          have he : Array.map E' ⟨[m]⟩ = #[E' m] := by apply Array.ext'; simp
          rw [he, k1]; rfl
        rw [this]
        exact .val _ _ _ _ _ k2 (.tuple [] [] .nil)
      · cases e
  case defer c =>
    obtain ⟨callee, args, ts⟩ := c
    simp only [Call.operands] at hE
    cases callee <;> simp only at e <;> simp only at hE <;> first | (cases e; done) | skip
    rename_i f
    have hf := hE f (by simp)
    have hargs : VRs ρ (args.toList.map E) (args.toList.map E') := map_rel _ fun x hx => hE x (by simp; exact .inr (by simpa using hx))
    generalize hq : E f = q at hf e
    generalize hq' : E' f = q' at hf
    split at e <;> cases e
    rename_i g first cap
    cases hf with
    | func _ as bs cs ds k1 k2 =>
      refine ⟨_, List.mem_singleton.2 rfl, ?_⟩
      have : (execOp E' { dst, op := .defer { callee := .value f, args := args, argTypes := ts }, type, pos, after, guard }).run P w = .ok (.defer ⟨.fn (.func g) ⟨ds⟩, ⟨bs ++ args.toList.map E'⟩⟩) w := by
        simp only [execOp, resolve, hq', Deferred.ofValue, Sem.run_bind, Sem.run_pure, Result.andThen_ok]
        rw [arr_map]
        congr 3
        apply Array.ext'; simp
      rw [this]
      have he : (⟨as⟩ : Array Value) ++ args.map E = ⟨as ++ args.toList.map E⟩ := by apply Array.ext'; simp
      rw [he]
      exact .defer _ _ (.fn _ _ _ _ _ k2 (k1.append hargs))
  case makeMap t r =>
    split at e <;> cases e
    rename_i v h' hap
    obtain ⟨v', w', ρ', k1, k2, k3⟩ := makeMapA_sound R hap (vo_map (E' := E') fun y hy => hE y (by simp [hy]))
    refine ⟨_, List.mem_singleton.2 rfl, ?_⟩
    have : (execOp E' { dst, op := .makeMap t r, type, pos, after, guard }).run P w = .ok (.value v') w' := by simp [execOp, k1]
    rw [this]
    exact .val _ _ _ _ _ k2 k3
  case range t x =>
    split at e <;> cases e
    rename_i v h' hap
    obtain ⟨v', w', ρ', k1, k2, k3⟩ := rangeA_sound R (fs := fs) hap (hE x (by simp))
    refine ⟨_, List.mem_singleton.2 rfl, ?_⟩
    have : (execOp E' { dst, op := .range t x, type, pos, after, guard }).run P w = .ok (.value v') w' := by simp [execOp, k1]
    rw [this]
    exact .val _ _ _ _ _ k2 k3
  case entry it =>
    split at e <;> cases e
    rename_i v hap
    obtain ⟨v', k1, k2⟩ := entryA_sound R hap (hE it (by simp))
    refine ⟨_, List.mem_singleton.2 rfl, ?_⟩
    have : (execOp E' { dst, op := .entry it, type, pos, after, guard }).run P w = .ok (.value v') w := by simp [execOp, k1]
    rw [this]
    exact .val _ _ _ _ _ (Eff.refl R fs) k2
  case next it s =>
    cases s <;> simp only [cond_true, cond_false] at e
    · obtain ⟨v, hh, v', w', hm, k1, k2, k3⟩ := nextA_sound R e (hE it (by simp)) type
      refine ⟨_, hm, ?_⟩
      have : (execOp E' { dst, op := .next it false, type, pos, after, guard }).run P w = .ok (.value v') w' := by simp [execOp, k1]
      rw [this]
      exact .val _ _ _ _ _ k2 k3
    · cases e
  case insert t m k x =>
    split at e <;> cases e
    rename_i h' hap
    obtain ⟨w', k1, k2⟩ := updA_sound R hap (hE m (by simp)) (hE k (by simp)) (hE x (by simp))
    refine ⟨_, List.mem_singleton.2 rfl, ?_⟩
    have : (execOp E' { dst, op := .insert t m k x, type, pos, after, guard }).run P w = .ok .skip w' := by simp [execOp, k1]
    rw [this]
    exact .skip _ _ _ k2
  case mapUpdate t m k x =>
    split at e <;> cases e
    rename_i h' hap
    obtain ⟨w', k1, k2⟩ := updA_sound R hap (hE m (by simp)) (hE k (by simp)) (hE x (by simp))
    refine ⟨_, List.mem_singleton.2 rfl, ?_⟩
    have : (execOp E' { dst, op := .mapUpdate t m k x, type, pos, after, guard }).run P w = .ok .skip w' := by simp [execOp, k1]
    rw [this]
    exact .skip _ _ _ k2
  case panic x =>
    have hx := hE x (by simp)
    generalize hq : E x = q at hx e
    generalize hq' : E' x = q' at hx
    split at e <;> cases e
    cases hx with
    | iface t0 v v' hv =>
      rename_i t1 v1
      refine ⟨_, List.mem_singleton.2 rfl, ?_⟩
      have : (execOp E' { dst, op := .panic x, type, pos, after, guard }).run P w = .halt (.panic (.iface t1 v')) w := by
        simp [execOp, hq', Instr.panic, goPanic, Sem.run]
      rw [this]
      exact .panic _ _ (.iface _ _ _ hv)

theorem effA_defer {fs : List AF} {E : Operand → Value} {o : Oper} {l : List AN} (e : effA P h fs E o = some l) : (∀ c, o.op ≠ .defer c) ∨ ∀ n ∈ l, ∃ d, n = .defer d := by
  by_cases hc : ∃ c, o.op = .defer c
  · obtain ⟨c, hc⟩ := hc
    right
    unfold effA at e
    rw [hc] at e
    simp only at e
    split at e <;> try (cases e; done)
    split at e <;> cases e
    intro n hn
    simp at hn
    exact ⟨_, hn⟩
  · exact .inl fun c h => hc ⟨c, h⟩

end Go.Sim

/- The abstract machine: what an operation comes to. -/
namespace Go.Sim
open Go.RowKit
set_option linter.unusedVariables false
set_option linter.unusedSimpArgs false
set_option linter.unusedSectionVars false
variable [Ev]

variable {P : Program} {B : Nat} {ρ : Map} {h : H} {w : World}

theorem poison_get : ∀ (l : List Oper) (la : List Value) (t : Nat) (v : Value), (poison l la)[t]? = some v → v = bad ∨ (la[t]? = some v ∧ ∀ o ∈ l, o.dst ≠ some t)
  | [], la, t, v, h => .inr ⟨h, by simp⟩
  | o :: l, la, t, v, h => by
    simp only [poison] at h
    cases hd : o.dst with
    | none =>
      simp only [hd] at h
      rcases poison_get l la t v h with h | ⟨h1, h2⟩
      · exact .inl h
      · exact .inr ⟨h1, by intro p hp; rcases List.mem_cons.1 hp with rfl | hp; (rw [hd]; simp); exact h2 p hp⟩
    | some d =>
      simp only [hd, setR_eq, setL_eq] at h
      rcases poison_get l _ t v h with h | ⟨h1, h2⟩
      · exact .inl h
      · rw [List.getElem?_set] at h1
        split at h1
        · split at h1
          · cases h1; exact .inl rfl
          · cases h1
        · rename_i hne
          exact .inr ⟨h1, by intro p hp; rcases List.mem_cons.1 hp with rfl | hp; (rw [hd]; simpa using hne); exact h2 p hp⟩

theorem poison_length : ∀ (l : List Oper) (la : List Value), (poison l la).length = la.length
  | [], _ => rfl
  | o :: l, la => by
    simp only [poison]
    cases o.dst <;> simp [poison_length l, setR_eq, setL_eq]

theorem raise_sound {dep : Nat} {fa : AF} {fr : Frame} (F : FR P ρ h dep fa fr) {vs vs' : List PanicEntry} (hv : LsR (PR' ρ) vs vs') : FR P ρ h dep (raiseA fa vs) (fr.raise vs') := by
  have hmo := F.mode
  unfold raiseA
  cases hm : fa.mode with
  | panicking chain =>
    rw [hm] at hmo
    generalize hq : fr.mode = q at hmo
    cases hmo with
    | panicking a b hab =>
      have hf : fr.raise vs' = { fr with mode := .panicking (vs' ++ b) } := by simp only [Frame.raise, hq]
      rw [hf]
      refine ⟨F.fn, F.kind, .panicking _ _ (hv.append hab), F.round, F.defers, F.func, .out _ _ (by simp) ?_⟩
      cases F.body with
      | plain hm' => rw [hm] at hm'; cases hm'
      | drawn hm' => rw [hm] at hm'; cases hm'
      | out hm' tr => exact tr
  | returning =>
    rw [hm] at hmo
    generalize hq : fr.mode = q at hmo
    cases hmo with
    | returning =>
      have hf : fr.raise vs' = { fr with mode := .panicking vs' } := by simp only [Frame.raise, hq]
      rw [hf]
      refine ⟨F.fn, F.kind, .panicking _ _ hv, F.round, F.defers, F.func, .out _ _ (by simp) ?_⟩
      cases F.body with
      | plain hm' => rw [hm] at hm'; cases hm'
      | drawn hm' => rw [hm] at hm'; cases hm'
      | out hm' tr => exact tr
  | run =>
    rw [hm] at hmo
    generalize hq : fr.mode = q at hmo
    cases hmo with
    | run =>
      have hf : fr.raise vs' = { fr with mode := .panicking vs' } := by simp only [Frame.raise, hq]
      rw [hf]
      refine ⟨F.fn, F.kind, .panicking _ _ hv, F.round, F.defers, F.func, .out _ _ (by simp) ?_⟩
      cases F.body with
      | out hm' => exact absurd hm hm'
      | plain hm' todo tr =>
        have : ∀ ops rest fp cur k, fa.todo ≠ .drawn ops rest fp cur :: k := by
          intro ops rest fp cur k he
          rw [he] at todo
          generalize fr.todo = q at todo
          cases todo with
          | cons a b l l' hh _ => cases hh
        have he : (match fa.todo with | .drawn ops _ _ _ :: _ => poison ops.toList fa.tmps | _ => fa.tmps) = fa.tmps := by
          split
          · rename_i ops rest fp cur k he; exact absurd he (this _ _ _ _ _)
          · rfl
        simp only [he]
        exact tr
      | drawn hm' ops rest fp cur ka rr kr ha hr todo dr hc =>
        simp only [ha]
        obtain ⟨fuel, t, listed, h1, h2, h3, h4, h45, h5, h6, h7, h8⟩ := dr.list
        refine ⟨by rw [poison_length]; exact h6.len, fun t v _ hv => ?_⟩
        rcases poison_get _ _ _ _ hv with rfl | ⟨k1, k2⟩
        · have hlt : t < fr.tmps.size := by
            have := (List.getElem?_eq_some_iff.1 hv).1
            rw [poison_length, h6.len] at this
            exact this
          exact ⟨fr.tmps[t], Array.getElem?_eq_getElem hlt, .bad _⟩
        · refine h6.val t v ?_ k1
          rintro ⟨j, p, hj, hp, hpd⟩
          exact k2 p (Array.mem_toList_iff.2 (Array.mem_of_getElem? hp)) hpd

theorem replV_eq : ∀ (n : Nat) (l : List Value), replV n l = List.replicate n undef ++ l
  | 0, l => rfl
  | n + 1, l => by rw [replV, replV_eq n, List.replicate_succ']; simp

theorem enter_sound {f : FuncId} {as bs : List Value} {kind : CallKind} {fa : AF} (e : enterA P f ⟨as⟩ kind = some fa) (hv : VRs ρ as bs) (dep : Nat) : FR P ρ h dep fa (Frame.enter P f ⟨bs⟩ kind) := by
  unfold enterA at e
  cases hf : P.funcs[f]? with
  | none => simp [hf] at e
  | some fn =>
    simp only [hf] at e
    cases hb : fn.body with
    | none => simp [hb] at e
    | some c =>
      simp only [hb] at e
      cases e
      have hlen := hv.length
      have he : Frame.enter P f ⟨bs⟩ kind = { fn := f, tmps := ⟨bs⟩ ++ Array.replicate (fn.ntmps - bs.length) undef, todo := [.code c], defers := [], mode := .run, kind } := by
        simp [Frame.enter, hf, hb]
      rw [he]
      refine ⟨rfl, rfl, .run, .none, .nil, ⟨fn, hf⟩, .plain _ _ rfl (.cons _ _ _ _ (.code c) .nil) ?_⟩
      simp only [replV_eq, List.append_nil]
      have hs : ((⟨as⟩ : Array Value)).size = as.length := rfl
      rw [hs, hlen]
      refine ⟨by simp [hlen], fun t v _ ht => ?_⟩
      have hvv : VRs ρ (as ++ List.replicate (fn.ntmps - bs.length) undef) (bs ++ List.replicate (fn.ntmps - bs.length) undef) := by
        refine hv.append ?_
        refine VRs.of_get _ _ (by simp) ?_
        intro i v v' h1 h2
        rw [h1] at h2
        cases h2
        rw [List.getElem?_replicate] at h1
        split at h1
        · cases h1; exact undef_rel ρ
        · cases h1
      obtain ⟨v', k1, k2⟩ := hvv.get t v ht
      refine ⟨v', ?_, k2⟩
      rw [← Array.getElem?_toList]
      simpa using k1

theorem setPs_rel : ∀ (ps : List Tmp) {as bs : List Value}, VRs ρ as bs → ∀ {la : List Value} {ra : Array Value}, TR ρ (fun _ => False) la ra →
    TR ρ (fun _ => False) (setPs la (ps.zip as)) ((ps.zip bs).foldl (fun tmps p => tmps.setIfInBounds p.1 p.2) ra)
  | [], _, _, _, la, ra, tr => by simpa [setPs] using tr
  | p :: ps, _, _, .nil, la, ra, tr => by simpa [setPs] using tr
  | p :: ps, _, _, .cons v v' l l' hv hl, la, ra, tr => by
    simp only [List.zip_cons_cons, setPs, List.foldl_cons]
    refine setPs_rel ps hl ?_
    have := tr.put (some p) hv (no' := fun _ => False) (fun t ht => ht.elim)
    simpa [putA, Act.put] using this

theorem Eff.frames {w' : World} {fs : List AF} {ρ' : Map} {h' : H} (E : Eff P B ρ h w fs ρ' h' w') {l : List AF} {csr : List Frame} (F : FRs P ρ h l csr) (hs : ∀ b, fpIn l b → fpIn fs b) : FRs P ρ' h' l csr :=
  F.mono E.le (fun b o hb hg => E.keep b o (hs b hb) hg) (fun b cs e d i _ _ hn => E.none b hn)

theorem Eff.frame {w' : World} {fs : List AF} {ρ' : Map} {h' : H} (E : Eff P B ρ h w fs ρ' h' w') {fa : AF} {fr : Frame} {dep : Nat} (F : FR P ρ h dep fa fr) (hs : ∀ b, fpIn [fa] b → fpIn fs b) : FR P ρ' h' dep fa fr :=
  F.mono E.le (fun b o hb hg => E.keep b o (hs b hb) hg) (fun b cs e i _ hn => E.none b hn)

/-- the calls that are not entered do what they are said to do -/
class KOk (P : Program) (B : Nat) (w0 : World) : Prop where
  ok : ∀ (g : FuncId) (bs : List Value) (v : Value), Ev.con g bs v → ∀ w, Below B w0 w → Calls P g ⟨bs⟩ w fun e w' => ∃ v', e = .returned v' ∧ VR [] v v' ∧ Below w.heap.size w w'

theorem HR.grow (R : HR P B ρ h w.heap) {w' : World} (hb : Below w.heap.size w w') : HR P B ρ h w'.heap := by
  have hs := hb.size
  refine ⟨R.n, by have := R.base; omega, fun b r d hbb => by have := R.lt b r d hbb; omega, R.low, R.glob, fun b o r d hg hbb => ?_, R.inj, fun b hg => ?_, R.k, fun r o hr => ⟨(R.old r o hr).1, by rw [hb.block r (Nat.lt_of_lt_of_le (R.old r o hr).1 R.base)]; exact (R.old r o hr).2⟩⟩
  · rw [hb.block r (R.lt b r d hbb)]; exact R.obj b o r d hg hbb
  · obtain ⟨r, d, k, h1, h2, h3⟩ := R.room b hg
    exact ⟨r, d, k, h1, h2, fun cs e own hgg => by rw [hb.block r (R.lt b r d h1)]; exact h3 cs e own hgg⟩
  

theorem apply_sound {w0 : World} [KOk P B w0] {cs0 : List Frame} {m m' : AM} {n : AN} (e : applyA P m n = some m') {fr : Frame} {csr : List Frame} (R : HR P B ρ m.h w.heap) (F : FR P ρ m.h m.cs.length m.fr fr)
    (Fs : FRs P ρ m.h m.cs csr) (hb : Below B w0 w) (hm : m.fr.mode = .run) {ops : Array Oper} {i : Nat} {l : List Nat} {kr : List Item} (ht : fr.todo = .inRegion ops (i :: l) :: kr) {o : Oper} (ho : ops[i]? = some o)
    (hw : Region.wanted o (yielded ops fr.tmps) = true) {fs : List AF} (hfs : ∀ b, fpIn (m.fr :: m.cs) b → fpIn fs b) (hdef : (∀ c, o.op ≠ .defer c) ∨ ∃ d, n = .defer d)
    (N : NR P B ρ m.h w fs n ((execOp (Act.eval ⟨fr.tmps, fr.defers⟩) o).run P w)) :
    ∃ fr' cs' w', Steps P (lone fr (csr ++ cs0) w) (lone fr' cs' w') ∧ MR P B w0 cs0 m' fr' cs' w' := by
  have hself := atR_self (F.run hm) ht
  have hs1 : ∀ b, fpIn [m.fr] b → fpIn fs b := fun b ⟨f, hf, r⟩ => hfs b ⟨f, by simp at hf; simp [hf], r⟩
  have hs2 : ∀ b, fpIn m.cs b → fpIn fs b := fun b ⟨f, hf, r⟩ => hfs b ⟨f, by simp [hf], r⟩
  have hround : m.fr.roundOf = none → fr.roundOf = none := by
    intro hr
    have := F.round
    rw [hr] at this
    generalize fr.roundOf = q at this
    cases this; rfl
  have hd : fr.roundOf = none ∨ ∀ c, o.op ≠ .defer c := by
    rcases hdef with hdef | ⟨d, rfl⟩
    · exact .inr hdef
    · left
      simp only [applyA] at e
      split at e
      · rename_i hr; exact hround hr
      · cases e
  have note : ∀ {fr2 : Frame} {cs2 : List Frame} {w2 : World}, step P (lone (fr.atR ⟨fr.tmps, fr.defers⟩ (.inRegion ops (i :: l) :: kr)) (csr ++ cs0) w) = .next (lone fr2 cs2 w2) → Steps P (lone fr (csr ++ cs0) w) (lone fr2 cs2 w2) := by
    intro fr2 cs2 w2 hst
    rw [← hself] at hst
    exact .one hst
  generalize hr : (execOp (Act.eval ⟨fr.tmps, fr.defers⟩) o).run P w = r at N
  cases N with
  | val v h' v' w' ρ' E hv =>
    simp only [applyA] at e
    split at e <;> cases e
    rename_i f hf
    refine ⟨_, _, _, note (op_value ho hw hd hr), ρ', csr, rfl, E.hr, ?_, E.frames Fs hs2, hb.trans E.below⟩
    rw [← hself]
    exact finish_sound (E.frame F hs1) hf hv
  | skip h' w' ρ' E =>
    simp only [applyA] at e
    split at e <;> cases e
    rename_i f hf
    refine ⟨_, _, _, note (op_skip ho hw hd hr), ρ', csr, rfl, E.hr, ?_, E.frames Fs hs2, hb.trans E.below⟩
    rw [← hself]
    exact finish_sound (E.frame F hs1) hf (undef_rel ρ')
  | enter f as bs hbd hv =>
    simp only [applyA] at e
    split at e
    · rename_i v hcon
      split at e <;> cases e
      rename_i fa hf
      have hC := conA_rel R.k hv hcon R.k.con
      obtain ⟨e', w', fr2, ⟨v', rfl, hvv, hbw⟩, hcome, hfn, hleave⟩ := KOk.ok (P := P) f bs v hC w hb (fr :: (csr ++ cs0))
      have s1 := note (op_enter ho hw hd hr)
      rw [← hself] at s1
      have s2 : Steps P _ _ := hcome
      have s3 := step_leave_returned (c := fr) (cs := csr ++ cs0) hleave
      have hB := R.base
      refine ⟨fr.finish v', csr ++ cs0, w', (s1.trans s2).trans (.one s3), ρ, csr, rfl, R.grow hbw, finish_sound F hf (hvv.mono fun b p hh => by simp at hh), Fs, hb.trans ⟨hbw.os, hbw.tape, hbw.output, hbw.size, fun k hk => hbw.block k (by omega)⟩⟩
    · split at e <;> cases e
      rename_i fa hf
      refine ⟨_, _, _, note (op_enter ho hw hd hr), ρ, fr :: csr, ?_, R, enter_sound hf hv _, .cons _ _ _ _ F Fs, hb⟩
      rw [← hself]; rfl
  | panic v v' hv =>
    simp only [applyA] at e
    cases e
    refine ⟨_, _, _, note (op_panic ho hw hd hr), ρ, csr, rfl, R, ?_, Fs, hb⟩
    rw [← hself]
    exact raise_sound F (.cons _ _ _ _ (.mk _ _ _ _ hv) .nil)
  | defer d d' hdd =>
    simp only [applyA] at e
    split at e
    · rename_i hro
      split at e <;> cases e
      rename_i f hf
      refine ⟨_, _, _, note (op_defer ho hw (hround hro) hr), ρ, csr, rfl, R, ?_, Fs, hb⟩
      rw [← hself]
      refine finish_sound (fa := { m.fr with defers := d :: m.fr.defers }) ?_ hf (undef_rel ρ)
      refine ⟨F.fn, F.kind, F.mode, F.round, .cons _ _ _ _ hdd F.defers, F.func, ?_⟩
      cases F.body with
      | plain hm' todo tr => exact .plain _ _ hm' todo tr
      | drawn hm' ops rest fp cur ka rr kr ha hr todo dr hc => exact .drawn _ _ hm' ops rest fp cur ka rr kr ha hr todo dr hc
      | out hm' tr => exact .out _ _ hm' tr
    · cases e
  | recover =>
    simp only [applyA] at e
    split at e
    · rename_i hro
      split at e
      · rename_i v acs hrec
        split at e <;> cases e
        rename_i f hf
        have hstep := op_recover (cs := csr ++ cs0) (rest := l) (k := kr) ho hw (hround hro) hr
        rw [← hself] at hstep
        -- what the machine finds
        have key : ∃ v' csr', ((tryRecover fr (csr ++ cs0)).map (·.1)).getD .nilIface = v' ∧ ((tryRecover fr (csr ++ cs0)).map (·.2)).getD (csr ++ cs0) = csr' ++ cs0 ∧ VR ρ v v' ∧ FRs P ρ m.h acs csr' ∧ acs.length = m.cs.length := by
          have hk := F.kind
          unfold recA at hrec
          split at hrec
          · rename_i hkind
            cases hrec
            rw [hkind] at hk
            have : tryRecover fr (csr ++ cs0) = none := by cases hq : csr ++ cs0 <;> simp [tryRecover, hk]
            rw [this]
            exact ⟨_, csr, rfl, rfl, .nilIface, Fs, rfl⟩
          · rename_i c rest hkind hcs
            rw [hkind] at hk
            rw [hcs] at Fs
            cases Fs with
            | cons _ fr1 _ csr1 hf1 hl1 =>
              have hmo := hf1.mode
              split at hrec
              · rename_i en older hmode
                rw [hmode] at hmo
                generalize hq : fr1.mode = q at hmo
                cases hmo with
                | panicking a b hab =>
                  cases hab with
                  | cons _ en' _ older' hen hol =>
                    cases hen with
                    | mk v0 v0' rr gg hvv =>
                      simp only at hrec
                      cases hb : rr || gg <;> rw [hb] at hrec <;> simp only [cond_true, cond_false] at hrec <;> cases hrec
                      · rw [Bool.or_eq_false_iff] at hb
                        obtain ⟨rfl, rfl⟩ := hb
                        have : tryRecover fr ((fr1 :: csr1) ++ cs0) = some (v0', { fr1 with mode := .panicking ({ v := v0', recovered := true } :: older') } :: (csr1 ++ cs0)) := by
                          simp [tryRecover, hk, hq]
                        rw [this]
                        refine ⟨_, { fr1 with mode := .panicking ({ v := v0', recovered := true } :: older') } :: csr1, rfl, rfl, hvv, ?_, by rw [hcs]; rfl⟩
                        refine .cons _ _ _ _ ⟨hf1.fn, hf1.kind, .panicking _ _ (.cons _ _ _ _ (.mk _ _ _ _ hvv) hol), hf1.round, hf1.defers, hf1.func, .out _ _ (by simp) ?_⟩ hl1
                        cases hf1.body with
                        | plain hm' => rw [hmode] at hm'; cases hm'
                        | drawn hm' => rw [hmode] at hm'; cases hm'
                        | out hm' tr => exact tr
                      · have : tryRecover fr ((fr1 :: csr1) ++ cs0) = none := by
                          rw [Bool.or_eq_true] at hb
                          rcases hb with rfl | rfl
                          · cases gg <;> simp [tryRecover, hk, hq]
                          · cases rr <;> simp [tryRecover, hk, hq]
                        rw [this]
                        exact ⟨_, fr1 :: csr1, rfl, rfl, .nilIface, by rw [hcs]; exact .cons _ _ _ _ hf1 hl1, rfl⟩
              · rename_i hno
                cases hrec
                have : tryRecover fr ((fr1 :: csr1) ++ cs0) = none := by
                  simp only [List.cons_append, tryRecover, hk]
                  cases hq : fr1.mode with
                  | run => rfl
                  | returning => rfl
                  | panicking b =>
                    rw [hq] at hmo
                    generalize hc : c.mode = q at hmo hno
                    cases hmo with
                    | panicking a _ hab =>
                      cases hab with
                      | nil => rfl
                      | cons x y xs ys => exact absurd rfl (hno _ _)
                rw [this]
                exact ⟨_, fr1 :: csr1, rfl, rfl, .nilIface, by rw [hcs]; exact .cons _ _ _ _ hf1 hl1, rfl⟩
          · cases hrec
        obtain ⟨v', csr', q1, q2, q3, q4, q5⟩ := key
        rw [q1, q2] at hstep
        exact ⟨_, _, _, .one hstep, ρ, csr', rfl, R, finish_sound (by rw [q5]; exact F) hf q3, q4, hb⟩
      · cases e
    · cases e
  | round ln l' as bs hl hv =>
    simp only [applyA] at e
    split at e
    · rename_i r0 hg
      cases hc : Nat.beq (⟨as⟩ : Array Value).size r0.params.size && (P.funcs[r0.fn]?).isSome <;> rw [hc] at e <;> simp only [cond_true, cond_false] at e <;> cases e
      rw [Bool.and_eq_true] at hc
      obtain ⟨hc1, hc2⟩ := hc
      have hc1 := Nat.eq_of_beq_eq_true hc1
      have hob := R.obj ln _ l' 0 hg hl
      generalize hx : w.heap[l']? = x at hob
      cases hob with
      | loop _ r1 L =>
        have hsz : (⟨bs⟩ : Array Value).size = r1.params.size := by
          rw [L.params, ← hc1]; exact hv.length.symm
        have hrun : (Instr.yield l' ⟨bs⟩).run P w = .ok (.round l' r1.fn ((r1.params.zip ⟨bs⟩).foldl (fun tmps (t, a) => tmps.setIfInBounds t a) r1.tmps) r1.assign r1.body) w := by
          simp only [Instr.yield, Instr.getLoop, getObj, Sem.run_bind, Sem.run, hx, Sem.run_pure, Result.andThen_ok, hsz]
          simp
        rw [hrun] at hr
        refine ⟨_, _, _, note (op_round ho hw hd hr), ρ, fr :: csr, ?_, R, ?_, .cons _ _ _ _ F Fs, hb⟩
        · rw [← hself]; rfl
        · obtain ⟨f0, hf0⟩ := Option.isSome_iff_exists.1 hc2
          refine ⟨L.fn, rfl, .run, .some _ _ hl, .nil, ⟨f0, by rw [show (Frame.round l' r1.fn ((r1.params.zip ⟨bs⟩).foldl (fun tmps (t, a) => tmps.setIfInBounds t a) r1.tmps) r1.assign r1.body .normal).fn = r1.fn from rfl, L.fn]; exact hf0⟩, .plain _ _ rfl ?_ ?_⟩
          · simp only [Frame.round, L.assign, L.body]
            exact .cons _ _ _ _ (.code _) (.cons _ _ _ _ .beginRound (.cons _ _ _ _ (.code _) .nil))
          · have t0 : TR ρ (fun _ => False) r0.tmps.toList r1.tmps := ⟨by simpa using L.tmps.length, fun t v _ ht => by
              obtain ⟨v', k1, k2⟩ := L.tmps.get t v ht
              exact ⟨v', by simpa using k1, k2⟩⟩
            have := setPs_rel r0.params.toList hv t0
            have e1 : (r0.params.zip ⟨as⟩).toList = r0.params.toList.zip as := by simp
            have e2 : (r1.params.zip ⟨bs⟩).foldl (fun tmps (t, a) => tmps.setIfInBounds t a) r1.tmps = (r0.params.toList.zip bs).foldl (fun tmps p => tmps.setIfInBounds p.1 p.2) r1.tmps := by
              rw [L.params, ← Array.foldl_toList]
              simp
            simp only [Frame.round]
            rw [e1, e2]
            exact this
    · cases e

end Go.Sim

/- A row out of its runs, where slices' elements are known by their types, and calls are not entered whose own runs end well. -/
import Derived.Test.YtbofnfbkjangiaaGreatDoorSymD
namespace Go.Sim
open Go.RowKit Go.ChangeShapes Go.WideShapes Go
set_option linter.unusedVariables false
set_option linter.unusedSimpArgs false
set_option linter.unusedSectionVars false

/-- nothing is unknown -/
@[reducible] def ev0 : Ev := ⟨fun _ => 0, fun _ => undef, fun _ _ _ => False, fun _ => none, fun _ _ _ _ h => by simp [undef] at h, fun _ _ h => by simp [undef] at h, fun _ _ _ _ => by simp⟩

/-- slices among the cells from off on: their place, the elements' type and cells -/
noncomputable def elsFs (el : TypeId → Nat → List (Nat × TypeId × List Value)) (off : Nat) : List Field → List (Nat × TypeId × List Value)
  | [] => []
  | f :: r => el f.type (Nat.add off f.offset) ++ elsFs el off r
noncomputable def elsA (P : Program) : Nat → TypeId → Nat → List (Nat × TypeId × List Value)
  | 0, _, _ => []
  | n + 1, t, off => match P.underlying t with
    | some (.slice e) => match shapeA P 64 e with
      | some (c :: l) => bif Nat.beq (c :: l).length (P.cellsOf e) then [(off, e, c :: l)] else []
      | _ => []
    | some (.struct fs) => elsFs (elsA P n) off fs.toList
    | _ => []
noncomputable def elsAs (P : Program) : List TypeId → List (Bool × List Value) → Nat → List (Nat × TypeId × List Value)
  | t :: ts, a :: as, off => elsA P 64 t off ++ elsAs P ts as (Nat.add off a.2.length)
  | _, _, _ => []

/-- a slice's elements are in the heap, each of its cells as its type says -/
def EO (W : World) (v : Value) (l : List Value) : Prop := ∀ (a : Option Addr) (n c : Nat), v = .slice a n c → 0 < n → ∃ r p cs ty fz, a = some ⟨r, p, none⟩ ∧ W.heap[r]? = some (.cells cs ty fz) ∧
  ∀ o, o < n * l.length → ∃ u, (cs : Array Value)[p + o]? = some u ∧ CO1 (l.getD (o % l.length) (.complex .f32 0 0)) u

theorem cell_add {W : World} {a : Addr} {x y : Nat} {v : Value} (h : W.cell? ((a.add x).add y) = some v) : ∃ cs ty fz, W.heap[a.block]? = some (.cells cs ty fz) ∧ (cs : Array Value)[a.off + (x + y)]? = some v ∧ (x + y = 0 → a.spot = none) := by
  unfold World.cell? at h
  have hb : ((a.add x).add y).block = a.block := by unfold Addr.add; split <;> split <;> rfl
  have ho : ((a.add x).add y).off = a.off + (x + y) := by
    unfold Addr.add; split <;> split <;> simp_all <;> omega
  rw [hb, ho] at h
  split at h
  · next cs ty fz hh =>
    split at h
    · cases h
    · next hs =>
      refine ⟨cs, ty, fz, hh, h, fun hz => ?_⟩
      obtain ⟨rfl, rfl⟩ : x = 0 ∧ y = 0 := by omega
      simpa [Addr.add] using hs
  · cases h

section
variable {H : Type} {enc : TypeId × Value → H} {P : Program} {w : World} {base : Nat} {spare : Nat → Bool} {held : Bool}

theorem cells_get {W : World} {a : Addr} {m : Nat} {cs : List Value} (h : W.cells? base a m = some cs) : cs.length = m ∧ ∀ j, j < m → W.cell? (a.add j) = cs[j]? := by
  unfold World.cells? at h
  split at h
  · exact ⟨by simpa using mapM_some_length h, fun j hj => mapM_some_get h j j (by simp [hj])⟩
  · cases h

theorem elsA_sound : ∀ (k : Nat) (t : TypeId) (off : Nat) (e : Nat × TypeId × List Value), e ∈ elsA P k t off → ∀ (n : Nat) (cs : List Value) (x : DataW H × List MemPlace),
    DataW.trod enc P w base spare held n t cs = some x → off ≤ e.1 ∧ e.1 - off < cs.length ∧ ∀ v, cs[e.1 - off]? = some v → EO w v e.2.2
  | 0, _, _, _, he => by simp [elsA] at he
  | k + 1, t, off, e, he => by
    intro n cs x h
    unfold elsA at he
    split at he
    · next el hu =>
      split at he
      · next c l hs =>
        cases hb : Nat.beq (c :: l).length (P.cellsOf el) with
        | false => rw [hb] at he; cases he
        | true =>
          rw [hb, cond_true] at he
          obtain rfl := List.mem_singleton.1 he
          have hm := beq_n hb
          rcases DataW.trod_slice hu h with ⟨rfl, _⟩ | ⟨a, ln, cp, elems, rest, n', _, rfl, _, _, _, _, hln, hel, _⟩
          · refine ⟨Nat.le_refl _, by simp, fun v hv => ?_⟩
            simp at hv
            subst hv
            intro a n c e0 h0
            cases e0
            exact absurd h0 (Nat.lt_irrefl 0)
          · refine ⟨Nat.le_refl _, by simp, fun v hv => ?_⟩
            simp at hv
            subst hv
            intro a' n0 c0 e0 h0
            cases e0
            have at_ : ∀ i, i < ln → ∀ j, j < (c :: l).length → ∃ u, w.cell? ((a.add (i * (c :: l).length)).add j) = some u ∧ CO1 ((c :: l).getD j (.complex .f32 0 0)) u := by
              intro i hi j hj
              have h1 := hel i hi
              rw [List.getElem?_eq_getElem (by omega)] at h1
              obtain ⟨cs, h2, h3⟩ := Option.bind_eq_some_iff.1 h1
              obtain ⟨h4, h5⟩ := cells_get h2
              have hco := shapeA_sound 64 el (c :: l) hs _ _ _ h3
              have h6 := h5 j (by omega)
              rw [hm]
              obtain ⟨u, h7, h8⟩ := @CO.get ev0 _ _ j ((c :: l)[j]) hco (List.getElem?_eq_getElem hj)
              refine ⟨u, by rw [h6, h7], ?_⟩
              rw [List.getD_eq_getElem?_getD, List.getElem?_eq_getElem hj]
              exact h8
            obtain ⟨u0, h1, _⟩ := at_ 0 h0 0 (by simp)
            obtain ⟨cells, ty, fz, h2, _, h3⟩ := cell_add h1
            have hsp := h3 (by simp)
            obtain ⟨ab, ao, asp⟩ := a
            simp only at hsp h2
            subst hsp
            refine ⟨ab, ao, cells, ty, fz, rfl, h2, fun o ho => ?_⟩
            have hmp : 0 < (c :: l).length := by simp
            obtain ⟨u, h4, h5⟩ := at_ (o / (c :: l).length) ((Nat.div_lt_iff_lt_mul hmp).2 ho) (o % (c :: l).length) (Nat.mod_lt _ hmp)
            obtain ⟨cells', ty', fz', h6, h7, _⟩ := cell_add h4
            rw [h2] at h6
            cases h6
            rw [Nat.mul_comm, Nat.div_add_mod] at h7
            exact ⟨u, h7, h5⟩
      · cases he
    · next fs hu =>
      obtain ⟨xs, m, _, _, hl, hlen, hf⟩ := DataW.trod_struct hu h
      have key : ∀ (l : List Field), (∀ f ∈ l, ∃ x, DataW.trod enc P w base spare held m f.type ((cs.drop f.offset).take (P.cellsOf f.type)) = some x) → e ∈ elsFs (elsA P k) off l →
          off ≤ e.1 ∧ e.1 - off < cs.length ∧ ∀ v, cs[e.1 - off]? = some v → EO w v e.2.2 := by
        intro l
        induction l with
        | nil => intro _ he; cases he
        | cons f r ih =>
          intro hr he
          rcases List.mem_append.1 he with he | he
          · obtain ⟨x, hx⟩ := hr f (List.mem_cons_self ..)
            obtain ⟨h1, h2, h3⟩ := elsA_sound k f.type _ e he _ _ _ hx
            have h1' : off + f.offset ≤ e.1 := h1
            rw [show off.add f.offset = off + f.offset from rfl, List.length_take, List.length_drop] at h2
            refine ⟨by omega, by omega, fun v hv => h3 v ?_⟩
            rw [show off.add f.offset = off + f.offset from rfl, List.getElem?_take_of_lt (by omega), List.getElem?_drop]
            rw [show f.offset + (e.1 - (off + f.offset)) = e.1 - off from by omega]
            exact hv
          · exact ih (fun g hg => hr g (List.mem_cons_of_mem _ hg)) he
      refine key fs.toList (fun f hm => ?_) he
      obtain ⟨i, hi, he'⟩ := List.getElem_of_mem hm
      have hi' : i < fs.size := by simpa using hi
      have : fs[i]? = some f := by rw [Array.getElem?_eq_getElem hi']; congr 1
      have := hf i f this
      rw [List.getElem?_eq_getElem (by omega)] at this
      exact ⟨_, this⟩
    · cases he

theorem AO1.cells {a : Bool × List Value} {v : Value} (h : AO1 a v) : (bif a.1 then v.cells.toList else [v]) = v.cells.toList := by
  cases h with
  | one c v h =>
    cases h with
    | int => rfl
    | str => rfl
    | sli => rfl
    | top v h => cases v <;> first | rfl | cases h
    | bool b => rfl
  | agg => rfl

theorem elsAs_sound {r : Reach} {b0 : Nat} : ∀ {ts : List TypeId} {vs : List Value} {ds : List (DataW H)} {ps : List MemPlace} {as : List (Bool × List Value)} {off : Nat} {e : Nat × TypeId × List Value},
    AOs as vs → DataW.TrodAll enc P w base spare held ts vs ds ps → e ∈ elsAs P ts as off → off ≤ e.1 ∧ e.1 - off < (cellsR as vs).length ∧ ∀ v, (cellsR as vs)[e.1 - off]? = some v → EO w v e.2.2
  | [], _, _, _, _, _, _, _, _, he => by simp [elsAs] at he
  | t :: ts, _, _, _, [], _, _, _, _, he => by simp [elsAs] at he
  | t :: ts, vs, ds, ps, a :: as, off, e, ha, h, he => by
    obtain ⟨v, vs', d, ds', p, q, rfl, rfl, rfl, h0, h1⟩ := trodAll_cons h
    cases ha with
    | cons _ _ _ _ ha ha' =>
      have hc := ha.cells
      have hl := (@cellsR_length ev0 _ _ ha).1
      obtain ⟨b, cs⟩ := a
      simp only [cellsR] at hc hl ⊢
      rcases List.mem_append.1 he with he | he
      · obtain ⟨n, h0⟩ := h0
        obtain ⟨k1, k2, k3⟩ := elsA_sound 64 t off e he _ _ _ h0
        rw [← hc] at k2 k3
        refine ⟨k1, by rw [List.length_append]; omega, fun u hu => k3 u ?_⟩
        rwa [List.getElem?_append_left k2] at hu
      · obtain ⟨k1, k2, k3⟩ := elsAs_sound (r := r) (b0 := b0) ha' h1 he
        have k1' : off + cs.length ≤ e.1 := k1
        rw [show off.add cs.length = off + cs.length from rfl] at k2
        refine ⟨by omega, by rw [List.length_append, hl]; omega, fun u hu => k3 u ?_⟩
        rw [List.getElem?_append_right (by omega), hl] at hu
        rw [show off.add cs.length = off + cs.length from rfl, show e.1 - (off + cs.length) = e.1 - off - cs.length from by omega]
        exact hu
end

theorem CO1.vr [Ev] {c v : Value} (h : CO1 c v) : VR [] c v := by
  cases h with
  | int k n a b => exact .topI k n
  | str s => exact .topS s
  | sli a n c => exact .topL a n c
  | top v h hn hi => exact .top v h
  | bool b => exact .topB b

section
variable {P : Program} {W : World} {as : List (Bool × List Value)} {vs : List Value} {els : List (Nat × TypeId × List Value)}

/-- calls that are not entered end well -/
def ConOk (P : Program) (W : World) (cells : List Value) (con : List (FuncId × List CP × Value)) : Prop :=
  ∀ e ∈ con, ∀ w', Below W.heap.size W w' → Calls P e.1 ⟨e.2.1.map (realOf fun i => cells.getD i undef)⟩ w' fun e' w'' => ∃ v', e' = .returned v' ∧ ResOK e.2.2 v' ∧ Below w'.heap.size w' w''

theorem factsOk (con : List (FuncId × List CP × Value)) {nb : Nat} (ha : AOs as vs) (h64 : (cellsR as vs).length ≤ 64) (hel : ∀ e ∈ els, e.1 < (cellsR as vs).length ∧ ∀ v, (cellsR as vs)[e.1]? = some v → EO W v e.2.2) :
    @FactsOk (evOf (cellsR as vs) h64 con (fun r => W.heap[r]?)) (factsW as con els nb) := by
  letI : Ev := evOf (cellsR as vs) h64 con (fun r => W.heap[r]?)
  refine factsW_ok ha h64 fun e he => ?_
  obtain ⟨h1, h2⟩ := hel e he
  intro a n c ho hn
  obtain ⟨r, p, cs, ty, fz, k1, k2, k3⟩ := h2 _ (by rw [List.getElem?_eq_getElem h1]) a n c (by
    rw [← ho, @evOf_op (cellsR as vs) h64 con _ e.1 _ (List.getElem?_eq_getElem h1)]) hn
  refine ⟨r, p, cs, ty, fz, k1, k2, fun o ho => ?_⟩
  obtain ⟨u, h3, h4⟩ := k3 o ho
  exact ⟨u, h3, h4.vr⟩

theorem kOk {con : List (FuncId × List CP × Value)} {cells : List Value} {h64 : cells.length ≤ 64} (hcon : ConOk P W cells con) {w : World} (hb : Below W.heap.size W w) :
    @KOk (evOf cells h64 con (fun r => W.heap[r]?)) P w.heap.size w := by
  letI : Ev := evOf cells h64 con (fun r => W.heap[r]?)
  refine ⟨fun g bs v hc w' hb' => ?_⟩
  obtain ⟨e, he, rfl, rfl, rfl⟩ : ∃ e ∈ con, e.1 = g ∧ e.2.1.map (realOf fun i => cells.getD i undef) = bs ∧ e.2.2 = v := hc
  refine (hcon e he w' (hb.trans (hb'.mono hb.size))).mono ?_
  rintro e' w'' ⟨v', h1, h2, h3⟩
  refine ⟨v', h1, ?_, h3⟩
  generalize e.2.2 = u at h2
  cases h2 with
  | bool b => exact .bool b
  | top v h => exact .top _ h
  | truth b => exact .topB b

/-- a truth, known or not -/
noncomputable def isB : Value → Bool
  | .bool _ => true
  | .chan (some 22) => true
  | .func (.methodOf c _) _ _ => Nat.ble 30 c
  | _ => false
theorem isB_bool [Ev] {ρ : Map} {v v' : Value} (h : VR ρ v v') (e : isB v = true) : ∃ b, v' = .bool b := by
  cases h <;> first | exact ⟨_, rfl⟩ | (simp [isB] at e; done) | (cases e; done) | (rename_i k f; cases k <;> cases e)

theorem holds_below {fx : Vars} {W w : World} (hw : Holds fx W) (hb : Below W.heap.size W w) : Holds fx w := fun p hp => by
  obtain ⟨c, e, f, h1, h2⟩ := hw p hp
  exact ⟨c, e, f, by rw [hb.block _ (Array.getElem?_eq_some_iff.1 h1).1]; exact h1, h2⟩

/-- an argument of a call that is not entered, as the machine has it -/
noncomputable def cpV (cells : List Value) : CP → Value
  | .one i => cellV i (cells.getD i bad)
  | .agg is => .agg ⟨is.map fun i => cellV i (cells.getD i bad)⟩
def inB (n : Nat) : CP → Bool
  | .one i => Nat.blt i n
  | .agg is => is.all fun i => Nat.blt i n

theorem cpV_rel [Ev] (ha : AOs as vs) (hop : ∀ j v, (cellsR as vs)[j]? = some v → Ev.op j = v) (hvl : ∀ j v, (cellsR as vs)[j]? = some v → Ev.val j = lenV v) :
    ∀ {ps : List CP}, ps.all (inB (flatA as).length) = true → VRs [] (ps.map (cpV (flatA as))) (ps.map (realOf fun i => (cellsR as vs).getD i undef)) := by
  have hco := cellsR_co ha
  have one : ∀ i, i < (flatA as).length → VR [] (cellV i ((flatA as).getD i bad)) ((cellsR as vs).getD i undef) := by
    intro i hi
    obtain ⟨v, h1, h2⟩ := CO.get hco (List.getElem?_eq_getElem hi)
    rw [List.getD_eq_getElem?_getD, List.getD_eq_getElem?_getD, h1, List.getElem?_eq_getElem hi]
    exact cellV_rel h2 (hop i v h1) (hvl i v h1)
  intro ps
  induction ps with
  | nil => intro _; exact .nil
  | cons p ps ih =>
    intro h
    rw [List.all_cons, Bool.and_eq_true] at h
    refine .cons _ _ _ _ ?_ (ih h.2)
    cases p with
    | one i => exact one i (by have := h.1; simp only [inB] at this; exact Nat.le_of_ble_eq_true this)
    | agg is =>
      refine .agg _ _ ?_
      have h1 : is.all (fun i => Nat.blt i (flatA as).length) = true := h.1
      clear h ih
      induction is with
      | nil => exact .nil
      | cons i is ih =>
        rw [List.all_cons, Bool.and_eq_true] at h1
        exact .cons _ _ _ _ (one i (Nat.le_of_ble_eq_true h1.1)) (ih h1.2)

/-- A CALL WHOSE OWN RUN ENDS IN A TRUTH NEED NOT BE ENTERED. -/
theorem con_step (hmix : P.follows .mixedOrders = true) {fx : Vars} {con : List (FuncId × List CP × Value)} {g : FuncId} {ps : List CP} {fuel nb : Nat} {inp : List Value} (ha : AOs as vs)
    (hel : ∀ e ∈ els, e.1 < (cellsR as vs).length ∧ ∀ v, (cellsR as vs)[e.1]? = some v → EO W v e.2.2) (hw : Holds fx W) (hG : P.globals.size ≤ W.heap.size) (hin : ps.all (inB (flatA as).length) = true) (hinp : ps.map (cpV (flatA as)) = inp)
    (h64 : (cellsR as vs).length ≤ 64) (hrun : runsG P fx (factsW as con els nb) g isB fuel inp = true) (hcon : ConOk P W (cellsR as vs) con) : ConOk P W (cellsR as vs) ((g, ps, .chan (some 22)) :: con) := by
  intro e he w' hb
  rcases List.mem_cons.1 he with rfl | he
  · letI : Ev := evOf (cellsR as vs) h64 con (fun r => W.heap[r]?)
    have hop : ∀ j v, (cellsR as vs)[j]? = some v → Ev.op j = v := fun j v hv => evOf_op hv
    have hvl : ∀ j v, (cellsR as vs)[j]? = some v → Ev.val j = lenV v := fun j v hv => evOf_val hv
    haveI : KOk P w'.heap.size w' := kOk hcon hb
    have hv := cpV_rel ha hop hvl hin
    rw [hinp] at hv
    refine (calls_of_G hmix hrun hv w' (factsOk con ha h64 hel) (fun r o h => ?_) (holds_below hw hb) (Nat.le_trans hG hb.size)).mono ?_
    · have h' : W.heap[r]? = some o := h
      have hlt := (Array.getElem?_eq_some_iff.1 h').1
      exact ⟨Nat.lt_of_lt_of_le hlt hb.size, by rw [hb.block r hlt]; exact h'⟩
    · rintro e' w'' ⟨⟨ρ, v, v', h1, h2, h3⟩, h4⟩
      obtain ⟨b, rfl⟩ := isB_bool h2 h1
      exact ⟨_, h3, .truth b, h4⟩
  · exact hcon e he w' hb
end

section
variable {H : Type} {enc : TypeId × Value → H} {P : Program}
/-- THE CONTRACT OF A LAW OUT OF ITS RUNS: it returns true, and its arguments read as they did. -/
theorem post_of_T {fn : Func} {s : ChangeSpec} {f : FuncId} {ts : List TypeId} {as : List (Bool × List Value)} {els : List (Nat × TypeId × List Value)} {fuel : Nat} {tb : TypeId} {fx : Vars} {con : List (FuncId × List CP × Value)} {sp : Sp} {nb : Nat}
    (hmix : P.follows .mixedOrders = true) (hl : laidOutB P = true)
    (hps : fn.params.toList = ts) (hres : fn.resultTypes = #[tb]) (hb : P.underlying tb = some .bool) (hread : ts.all (fun t => P.readableRec t && decide (t < P.types.size)) = true)
    (hvars : s.vars = []) (hs : ∀ (ds : List (DataW H)), ds.length = ts.length → s.fn H ds = { results := [.lit (.bool true)], args := ds, vars := [] })
    (hargs : argsA P ts = some as) (hels : elsAs P ts as 0 = els) (h64 : Nat.ble (flatA as).length 64 = true) (hrun : AllRun P fx f fuel (argsV 0 as) (factsW as con els nb) sp) {W : World} {b0 : Nat} {args : Array Value} {ds gs : List (DataW H)} {before : List MemPlace}
    (hw : Holds fx W) (hG : P.globals.size ≤ W.heap.size)
    (hcon : AOs as args.toList → (cellsR as args.toList).length ≤ 64 → (∀ e ∈ els, e.1 < (cellsR as args.toList).length ∧ ∀ v, (cellsR as args.toList)[e.1]? = some v → EO W v e.2.2) → ConOk P W (cellsR as args.toList) con)
    (hval : ∀ (j : Nat) t v, fn.params[j]? = some t → args[j]? = some v → Value.okWide P W .any b0 t v) (hW : DataW.Whole enc P fn.params.toList s.vars false W args.toList ds gs before) :
    Calls P f args W fun e W' => ∃ v, e = .returned v ∧ s.post enc P fn false true false false W args v W' := by
  have hlt := hW.lt
  have hW' := hW
  obtain ⟨p, q, hA, hV, rfl, hfz, hnd⟩ := hW
  rw [hvars] at hV
  obtain ⟨rfl, rfl⟩ := trodVars_none hV
  have hlen := trodAll_length hA
  rw [hps] at hA hlen
  have ha : AOs as args.toList := argsA_sound (fun j t v ht hv => hval j t v (by rw [← hps] at ht; simpa using ht) (by simpa using hv)) hA hargs
  have hel : ∀ e ∈ els, e.1 < (cellsR as args.toList).length ∧ ∀ v, (cellsR as args.toList)[e.1]? = some v → EO W v e.2.2 := fun e he => by
    rw [← hels] at he
    obtain ⟨_, h1, h2⟩ := elsAs_sound (r := .any) (b0 := b0) ha hA he
    exact ⟨h1, h2⟩
  have h64' : (cellsR as args.toList).length ≤ 64 := by rw [← (@cellsR_co ev0 _ _ ha).length]; exact Nat.le_of_ble_eq_true h64
  have hcon := hcon ha h64' hel
  letI : Ev := evOf (cellsR as args.toList) h64' con (fun r => W.heap[r]?)
  have hv : VRs [] (argsV 0 as) args.toList := argsV_rel ha (fun j v h => by rw [Nat.zero_add]; exact evOf_op h) (fun j v h => by rw [Nat.zero_add]; exact evOf_val h)
  have hK := factsOk (W := W) (nb := nb) con ha h64' hel
  haveI : KOk P W.heap.size W := kOk hcon (Below.refl _ _)
  obtain ⟨K', hK', hrunK⟩ := AllR.one hrun hK
  refine (true_of_G hmix hrunK hv W hK' (fun r o h => ⟨(Array.getElem?_eq_some_iff.1 h).1, h⟩) hw hG).mono fun e W' ⟨he, hg⟩ => ?_
  subst he
  obtain ⟨qs, hq⟩ := trodAll_stays hl hg hread hA (fun x hx => hlt x (List.mem_append_left _ hx))
  have hd : s.fn H (ds ++ []) = { results := [.lit (.bool true)], args := ds, vars := [] } := by rw [List.append_nil]; exact hs ds hlen.2
  refine ⟨_, rfl, ds, [], _, [], qs, [], hW', ?_, ?_, ?_, hg.frame _, fun h => by cases h⟩
  · rw [hd, hres]
    exact trodAll_cons_mk (shut_bool hb _) trodAll_mk0
  · rw [hd, hps]
    exact hq
  · rw [hd, hvars]
    rfl
end
end Go.Sim

/- The abstract machine's arguments out of the parameters' types; a row out of a run. -/
import Derived.Test.YtkoegeacjchhlaaSimD
import Derived.OpenShut
import Derived.ShutString
import Derived.WideShapes
import Derived.Carry
import Derived.ChangeOld
import Derived.ChangeCalls
namespace Go.Sim
open Go.RowKit Go.ChangeShapes Go.WideShapes Go
set_option linter.unusedVariables false
set_option linter.unusedSimpArgs false

/-- Fields that stand one behind the other: their cells in a row. -/
noncomputable def shapeFs (sh : TypeId → Option (List Value)) (size : TypeId → Nat) : List Field → Nat → Nat → Option (List Value)
  | [], off, tot => bif Nat.beq off tot then some [] else none
  | f :: r, off, tot => bif Nat.beq f.offset off then
      match sh f.type with
      | some l => bif Nat.beq l.length (size f.type) then
          match shapeFs sh size r (Nat.add off l.length) tot with
          | some q => some (l ++ q)
          | none => none
        else none
      | none => none
    else none

noncomputable def shapeA (P : Program) : Nat → TypeId → Option (List Value)
  | 0, _ => none
  | n + 1, t => match P.underlying t with
    | some (.int k) => some [topI k]
    | some .string => some [topS]
    | some .bool => some [top]
    | some (.slice _) => some [topL]
    | some (.pointer _) => some [top]
    | some (.struct fs) => shapeFs (shapeA P n) P.cellsOf fs.toList 0 (P.cellsOf t)
    | some (.array m e) => match shapeA P n e with
      | some l => bif Nat.beq l.length (P.cellsOf e) && Nat.beq (P.cellsOf t) (m * l.length) then some (List.replicate m l).flatten else none
      | none => none
    | _ => none

section
variable {H : Type} {enc : TypeId × Value → H} {P : Program} {w : World} {base : Nat} {spare : Nat → Bool} {held : Bool} {ρ : Map}

theorem beq_n {a b : Nat} (h : Nat.beq a b = true) : a = b := Nat.eq_of_beq_eq_true h

theorem shapeFs_sound {sh : TypeId → Option (List Value)} {size : TypeId → Nat} {cs : List Value}
    (ok : ∀ t l, sh t = some l → ∀ (n : Nat) (cs : List Value) (x : DataW H × List MemPlace), DataW.trod enc P w base spare held n t cs = some x → VRs ρ l cs) {m : Nat} :
    ∀ (fs : List Field) (off : Nat) (l : List Value), shapeFs sh size fs off cs.length = some l → off ≤ cs.length →
      (∀ f ∈ fs, ∃ x, DataW.trod enc P w base spare held m f.type ((cs.drop f.offset).take (size f.type)) = some x) → VRs ρ l (cs.drop off)
  | [], off, l, e, _, _ => by
    unfold shapeFs at e
    cases hb : Nat.beq off cs.length with
    | true =>
      rw [hb] at e
      cases e
      rw [beq_n hb, List.drop_length]
      exact .nil
    | false => rw [hb] at e; cases e
  | f :: r, off, l, e, hle, hf => by
    unfold shapeFs at e
    cases hb : Nat.beq f.offset off with
    | false => rw [hb] at e; cases e
    | true =>
      rw [hb, cond_true] at e
      have ho := beq_n hb
      cases hs : sh f.type with
      | none => rw [hs] at e; cases e
      | some l0 =>
        rw [hs] at e
        dsimp only at e
        cases hc : Nat.beq l0.length (size f.type) with
        | false => rw [hc] at e; cases e
        | true =>
          rw [hc, cond_true] at e
          have hn := beq_n hc
          cases hq : shapeFs sh size r (Nat.add off l0.length) cs.length with
          | none => rw [hq] at e; cases e
          | some q =>
            rw [hq] at e
            cases e
            obtain ⟨x, hx⟩ := hf f (List.mem_cons_self ..)
            have h0 := ok _ _ hs _ _ _ hx
            rw [ho] at h0
            have hlen := h0.length
            rw [List.length_take, List.length_drop, ← hn] at hlen
            have hle' : off + l0.length ≤ cs.length := by omega
            have ih := shapeFs_sound ok r (Nat.add off l0.length) q hq hle' (fun g hg => hf g (List.mem_cons_of_mem _ hg))
            have := h0.append ih
            rw [← hn] at this
            rw [show (List.drop off cs) = List.take l0.length (List.drop off cs) ++ List.drop (off.add l0.length) cs from by
              conv => lhs; rw [← List.take_append_drop l0.length (List.drop off cs)]
              rw [List.drop_drop]; rfl]
            exact this

theorem shapeA_sound : ∀ (k : Nat) (t : TypeId) (l : List Value), shapeA P k t = some l → ∀ (n : Nat) (cs : List Value) (x : DataW H × List MemPlace),
    DataW.trod enc P w base spare held n t cs = some x → VRs ρ l cs
  | 0, t, l, e => by cases e
  | k + 1, t, l, e => by
    intro n cs x h
    unfold shapeA at e
    split at e
    · next hk kk => cases e; obtain ⟨z, rfl, _, _⟩ := DataW.trod_int kk h; exact .cons _ _ _ _ (.topI _ _) .nil
    · next kk => cases e; obtain ⟨z, rfl, _, _⟩ := DataW.trod_string kk h; exact .cons _ _ _ _ (.topS _) .nil
    · next kk => cases e; obtain ⟨z, rfl, _⟩ := DataW.trod_bool kk h; exact .cons _ _ _ _ (.top _ rfl) .nil
    · next kk =>
      cases e
      rcases DataW.trod_slice kk h with ⟨rfl, _⟩ | ⟨a, ln, cp, _, _, _, _, rfl, _⟩
      · exact .cons _ _ _ _ (.topL _ _ _) .nil
      · exact .cons _ _ _ _ (.topL _ _ _) .nil
    · next kk =>
      cases e
      rcases DataW.trod_pointer kk h with ⟨rfl, _⟩ | ⟨a, _, _, _, _, rfl, _⟩
      · exact .cons _ _ _ _ (.top _ rfl) .nil
      · exact .cons _ _ _ _ (.top _ rfl) .nil
    · next fs kk =>
      obtain ⟨xs, m, _, _, hl, hlen, hf⟩ := DataW.trod_struct kk h
      rw [← hl] at e
      have := shapeFs_sound (ρ := ρ) (cs := cs) (fun t l e => shapeA_sound k t l e) (m := m) fs.toList 0 l e (Nat.zero_le _) (by
        intro f hm
        obtain ⟨i, hi, he⟩ := List.getElem_of_mem hm
        have hi' : i < fs.size := by simpa using hi
        have : fs[i]? = some f := by rw [Array.getElem?_eq_getElem hi']; congr 1
        have := hf i f this
        rw [List.getElem?_eq_getElem (by omega)] at this
        exact ⟨_, this⟩)
      simpa using this
    · next m el kk =>
      cases hs : shapeA P k el with
      | none => rw [hs] at e; cases e
      | some l0 =>
        rw [hs] at e
        dsimp only at e
        cases hc : (Nat.beq l0.length (P.cellsOf el) && Nat.beq (P.cellsOf t) (m * l0.length)) with
        | false => rw [hc] at e; cases e
        | true =>
          rw [hc, cond_true] at e
          obtain ⟨hc1, hc2⟩ := Bool.and_eq_true_iff.1 hc
          have hn := beq_n hc1
          cases e
          obtain ⟨xs, n', _, _, hl, hlen, hf⟩ := DataW.trod_array kk h
          have hC : P.cellsOf t = m * l0.length := beq_n hc2
          have key : ∀ j, j ≤ m → VRs ρ (List.replicate j l0).flatten (cs.take (j * l0.length)) := by
            intro j
            induction j with
            | zero => intro _; simp only [List.replicate_zero, List.flatten_nil, Nat.zero_mul, List.take_zero]; exact .nil
            | succ j ih =>
              intro hj
              have h1 := ih (by omega)
              have h2 := hf j (by omega)
              rw [List.getElem?_eq_getElem (by omega)] at h2
              have h3 := shapeA_sound k el l0 hs _ _ _ h2
              rw [← hn] at h3
              have h4 := h1.append h3
              rw [List.replicate_succ', List.flatten_append, List.flatten_singleton]
              rw [show (j + 1) * l0.length = j * l0.length + l0.length from by rw [Nat.add_mul, Nat.one_mul], List.take_add]
              exact h4
          have := key m (Nat.le_refl _)
          rw [← hC, ← hl, List.take_length] at this
          exact this
    · cases e

/-- A parameter's value. -/
noncomputable def argA (P : Program) (t : TypeId) : Option Value := match P.underlying t with
  | some (.int k) => some (topI k)
  | some .string => some topS
  | some .bool => some top
  | some (.slice _) => some topL
  | some (.pointer _) => some top
  | some (.struct _) | some (.array _ _) => match shapeA P 64 t with
    | some l => some (.agg ⟨l⟩)
    | none => none
  | _ => none

theorem argA_sound {r : Reach} {b0 : Nat} {t : TypeId} {v a : Value} {d : DataW H} {ps : List MemPlace} (hval : Value.okWide P w r b0 t v) (h : DataW.Trod enc P w base spare held t v d ps) (e : argA P t = some a) : VR ρ a v := by
  unfold argA at e
  split at e
  · next hu => cases e; obtain ⟨n, rfl⟩ := okWide_int hu hval; exact .topI _ _
  · next hu => cases e; obtain ⟨n, rfl⟩ := okWide_string hu hval; exact .topS _
  · next hu => cases e; obtain ⟨n, rfl⟩ := okWide_bool hu hval; exact .top _ rfl
  · next hu => cases e; obtain ⟨_, _, _, rfl⟩ := okWide_slice hu hval; exact .topL _ _ _
  · next hu => cases e; obtain ⟨n, rfl⟩ := okWide_pointer hu hval; exact .top _ rfl
  · next hu =>
    unfold Value.okWide at hval
    rw [hu] at hval
    obtain ⟨cs, rfl, _, _⟩ := hval
    obtain ⟨n, h⟩ := h
    cases hs : shapeA P 64 t with
    | none => rw [hs] at e; cases e
    | some l =>
      rw [hs] at e; cases e
      obtain ⟨cs⟩ := cs
      exact .agg _ _ (shapeA_sound _ _ _ hs _ _ _ h)
  · next hu =>
    unfold Value.okWide at hval
    rw [hu] at hval
    obtain ⟨cs, rfl, _, _⟩ := hval
    obtain ⟨n, h⟩ := h
    cases hs : shapeA P 64 t with
    | none => rw [hs] at e; cases e
    | some l =>
      rw [hs] at e; cases e
      obtain ⟨cs⟩ := cs
      exact .agg _ _ (shapeA_sound _ _ _ hs _ _ _ h)
  · cases e

/-- The parameters' values. -/
noncomputable def argsA (P : Program) : List TypeId → Option (List Value)
  | [] => some []
  | t :: ts => match argA P t, argsA P ts with
    | some a, some as => some (a :: as)
    | _, _ => none

theorem argsA_sound {r : Reach} {b0 : Nat} : ∀ {ts : List TypeId} {vs : List Value} {ds : List (DataW H)} {ps : List MemPlace} {as : List Value},
    (∀ (j : Nat) t v, ts[j]? = some t → vs[j]? = some v → Value.okWide P w r b0 t v) → DataW.TrodAll enc P w base spare held ts vs ds ps → argsA P ts = some as → VRs ρ as vs
  | [], vs, ds, ps, as, _, h, e => by
    obtain ⟨rfl, _, _⟩ := trodAll_nil h
    cases e
    exact .nil
  | t :: ts, vs, ds, ps, as, hval, h, e => by
    obtain ⟨v, vs', d, ds', p, q, rfl, rfl, rfl, h0, h1⟩ := trodAll_cons h
    unfold argsA at e
    split at e
    · next a l ha hl =>
      cases e
      exact .cons _ _ _ _ (argA_sound (hval 0 t v rfl rfl) h0 ha) (argsA_sound (fun j t v ht hv => hval (j + 1) t v ht hv) h1 hl)
    · cases e

/-- The arguments read as they did. -/
theorem trodAll_stays {W W' : World} (hl : laidOutB P = true) (hb : Below W.heap.size W W') : ∀ {ts : List TypeId} {vs : List Value} {ds : List (DataW H)} {ps : List MemPlace},
    ts.all (fun t => P.readableRec t && decide (t < P.types.size)) = true → DataW.TrodAll enc P W 0 (fun _ => true) true ts vs ds ps → (∀ x ∈ ps, x.block < W.heap.size) →
    ∃ qs, DataW.TrodAll enc P W' 0 (fun b => decide (b < W.heap.size)) true ts vs ds qs
  | [], vs, ds, ps, _, h, _ => by
    obtain ⟨rfl, rfl, rfl⟩ := trodAll_nil h
    exact ⟨[], trodAll_mk0⟩
  | t :: ts, vs, ds, ps, hr, h, hlt => by
    obtain ⟨v, vs', d, ds', p, q, rfl, rfl, rfl, h0, h1⟩ := trodAll_cons h
    rw [List.all_cons, Bool.and_eq_true, Bool.and_eq_true] at hr
    obtain ⟨qs, hq⟩ := trodAll_stays hl hb hr.2 h1 (fun x hx => hlt x (List.mem_append_right _ hx))
    exact ⟨_, trodAll_cons_mk (Below.trod hl hr.1.1 (of_decide_eq_true hr.1.2) h0 hb (fun x hx => hlt x (List.mem_append_left _ hx))) hq⟩

/-- THE CONTRACT OF A LAW OUT OF ITS RUN: it returns true, and its arguments read as they did. -/
theorem post_of_G {fn : Func} {s : ChangeSpec} {f : FuncId} {ts : List TypeId} {as : List Value} {fuel : Nat} {tb : TypeId} (hmix : P.follows .mixedOrders = true) (hl : laidOutB P = true)
    (hps : fn.params.toList = ts) (hres : fn.resultTypes = #[tb]) (hb : P.underlying tb = some .bool) (hread : ts.all (fun t => P.readableRec t && decide (t < P.types.size)) = true)
    (hvars : s.vars = []) (hs : ∀ (ds : List (DataW H)), ds.length = ts.length → s.fn H ds = { results := [.lit (.bool true)], args := ds, vars := [] })
    (hargs : argsA P ts = some as) (hrun : runsG P [] f isTrue fuel as = true) {W : World} {b0 : Nat} {args : Array Value} {ds gs : List (DataW H)} {before : List MemPlace}
    (hG : P.globals.size ≤ W.heap.size)
    (hval : ∀ (j : Nat) t v, fn.params[j]? = some t → args[j]? = some v → Value.okWide P W .any b0 t v) (hW : DataW.Whole enc P fn.params.toList s.vars false W args.toList ds gs before) :
    Calls P f args W fun e W' => ∃ v, e = .returned v ∧ s.post enc P fn false true false false W args v W' := by
  have hlt := hW.lt
  have hW' := hW
  obtain ⟨p, q, hA, hV, rfl, hfz, hnd⟩ := hW
  rw [hvars] at hV
  obtain ⟨rfl, rfl⟩ := trodVars_none hV
  have hlen := trodAll_length hA
  rw [hps] at hA hlen
  have hv : VRs [] as args.toList := argsA_sound (fun j t v ht hv => hval j t v (by rw [← hps] at ht; simpa using ht) (by simpa using hv)) hA hargs
  refine (true_of_G hmix hrun hv W (fun p hp => by cases hp) hG).mono fun e W' ⟨he, hg⟩ => ?_
  subst he
  obtain ⟨qs, hq⟩ := trodAll_stays hl hg hread hA (fun x hx => hlt x (List.mem_append_left _ hx))
  have hd : s.fn H (ds ++ []) = { results := [.lit (.bool true)], args := ds, vars := [] } := by rw [List.append_nil]; exact hs ds hlen.2
  refine ⟨_, rfl, ds, [], _, [], qs, [], hW', ?_, ?_, ?_, hg.frame _, fun h => by cases h⟩
  · rw [hd, hres]
    exact trodAll_cons_mk (shut_bool hb _) trodAll_mk0
  · rw [hd, hps]
    exact hq
  · rw [hd, hvars]
    rfl

end
end Go.Sim
#print axioms Go.Sim.post_of_G

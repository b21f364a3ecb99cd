/- The abstract machine in its fast form: runs in pieces; what is dropped of memory between them. -/
import Derived.Test.YtbofnfbkjangiaaGreatDoorSymE
namespace Go.Sim
open Go.RowKit
set_option linter.unusedVariables false
set_option linter.unusedSimpArgs false
set_option linter.unusedSectionVars false

/-- so many steps, then another run -/
noncomputable def runN (P : Program) (f : FuncId) (ok : Value → Bool) (N : Nat) (R : Run) : Run := Nat.rec (motive := fun _ => Run) R (fun _ ih fr cs h => stepG P f ok ih fr cs h) N
/-- the call's beginning -/
noncomputable def runsR (P : Program) (fx : Vars) (K : Facts) (f : FuncId) (as : List Value) (R : Run) : Bool :=
  Bool.rec (motive := fun _ => Bool) false (Bool.rec (motive := fun _ => Bool) false (enterG P f as .normal fun fr => R fr [] (startH P fx K)) (Nat.ble P.globals.size 100000)) (fxOk P.globals.size fx)
noncomputable def putsT {α : Type} (l : List (Nat × α)) (t : Tr α) : Tr α := List.rec (motive := fun _ => Tr α) t (fun p _ ih => Prod.rec (motive := fun _ => Tr α) (fun i v => ih.put i v) p) l
noncomputable def keepT (bs : List Nat) (t s : Tr FAO) : Tr FAO := List.rec (motive := fun _ => Tr FAO) s (fun b _ ih => ih.put b (t.get b)) bs
noncomputable def keepH (bs : List Nat) (h : FH) : FH := FH.rec (motive := fun _ => FH) (fun n d t k => .mk n d (keepT bs t (Tr.mk .void d)) k) h
noncomputable def ltAll (n : Nat) (l : List Nat) : Bool := List.rec (motive := fun _ => Bool) true (fun b _ ih => Bool.rec (motive := fun _ => Bool) false ih (Nat.ble (Nat.succ b) n)) l
noncomputable def inAll (bs : List Nat) (fp : List (Nat × Nat)) : Bool := List.rec (motive := fun _ => Bool) true (fun p _ ih => Bool.rec (motive := fun _ => Bool) false ih (hasN p.2 bs)) fp
noncomputable def fpOk (bs : List Nat) (f : FF) : Bool :=
  match f.todo with
  | .drawn _ _ _ fp _ :: _ => inAll bs fp
  | _ => true
noncomputable def fpsOk (bs : List Nat) (l : List FF) : Bool := List.rec (motive := fun _ => Bool) true (fun f _ ih => Bool.rec (motive := fun _ => Bool) false ih (fpOk bs f)) l
/-- all but some blocks are dropped -/
noncomputable def keepR (bs : List Nat) (R : Run) : Run := fun fr cs h =>
  Bool.rec (motive := fun _ => Bool) false (Bool.rec (motive := fun _ => Bool) false (R fr cs (keepH bs h)) (fpsOk bs (fr :: cs))) (ltAll h.n bs)

section
variable [Ev]
variable {P : Program} {f : FuncId} {ok : Value → Bool}

theorem runN_good {R : Run} (h : RG P f ok R) : ∀ N : Nat, RG P f ok (runN P f ok N R)
  | 0 => h
  | n + 1 => fun fr cs g m M e => step_good (runN_good h n) M e

theorem ends_of_R {fx : Vars} {K : Facts} {R : Run} {as : List Value} (hR : RG P f ok R) (e : runsR P fx K f as R = true) : ∃ fa, enterA P f ⟨as⟩ .normal = some fa ∧ Good P f ok ⟨fa, [], ⟨P.globals.size, startT fx, K⟩⟩ := by
  unfold runsR at e
  obtain ⟨c1, e⟩ := band e
  obtain ⟨c2, e⟩ := band e
  obtain ⟨a, fr, q1, q2, q3, _, _⟩ := enterG_sound e
  have H0 := start_rel K (ble_le c2) (fxOk_spec c1)
  exact ⟨a, q1, hR fr [] (startH P fx K) ⟨a, [], ⟨P.globals.size, startT fx, K⟩⟩ ⟨q2, .nil, H0⟩ q3⟩

theorem true_of_R (hmix : P.follows .mixedOrders = true) {fx : Vars} {K : Facts} {R : Run} {as bs : List Value} (hR : RG P f isTrue R) (e : runsR P fx K f as R = true) (hargs : VRs [] as bs) (w : World) [KOk P w.heap.size w] (hK : FactsOk K) (hO : ∀ (r : Nat) (o : Obj), Ev.heap r = some o → r < w.heap.size ∧ w.heap[r]? = some o)
    (hw : Holds fx w) (hG : P.globals.size ≤ w.heap.size) :
    Calls P f ⟨bs⟩ w fun e w' => e = .returned (.bool true) ∧ Below w.heap.size w w' := by
  obtain ⟨fa, h1, h2⟩ := ends_of_R hR e
  refine (calls_of_ends h1 (h2 hmix) hargs w hK hO hw hG).mono ?_
  rintro e w' ⟨⟨ρ, v, v', h1, h2, rfl⟩, h3⟩
  refine ⟨?_, h3⟩
  cases v <;> simp only [isTrue] at h1 <;> first | (cases h1; done) | skip
  rename_i b
  cases b
  · simp [isTrue] at h1
  · cases h2; rfl

/-! what is dropped -/
noncomputable def dropH (h : H) : List Nat → H
  | [] => ⟨h.n, .leaf, h.k⟩
  | b :: bs => match h.get b with
    | some o => (dropH h bs).set b o
    | none => dropH h bs
theorem dropH_n (h : H) : ∀ bs, (dropH h bs).n = h.n
  | [] => rfl
  | b :: bs => by
    unfold dropH
    split
    · exact dropH_n h bs
    · exact dropH_n h bs
theorem dropH_k (h : H) : ∀ bs, (dropH h bs).k = h.k
  | [] => rfl
  | b :: bs => by
    unfold dropH
    split
    · exact dropH_k h bs
    · exact dropH_k h bs
theorem leafH_get (n : Nat) (k : Facts) (b : Nat) : (⟨n, .leaf, k⟩ : H).get b = none := by
  unfold H.get
  simp only [getT_eq]
  cases Nat.blt b n
  · rfl
  · simp only [cond_true]; exact T.get_leaf 20 b
theorem dropH_sub (h : H) : ∀ (bs : List Nat) (b : Nat) (o : AO), (dropH h bs).get b = some o → h.get b = some o
  | [], b, o, e => by rw [show dropH h [] = ⟨h.n, .leaf, h.k⟩ from rfl, leafH_get] at e; cases e
  | c :: bs, b, o, e => by
    unfold dropH at e
    split at e
    · rename_i x hx
      rcases H.get_set e with ⟨rfl, rfl⟩ | ⟨_, h2⟩
      · exact hx
      · exact dropH_sub h bs b o h2
    · exact dropH_sub h bs b o e
theorem dropH_in (h : H) (hs : h.n ≤ 1000000) : ∀ (bs : List Nat) (b : Nat) (o : AO), b ∈ bs → h.get b = some o → (dropH h bs).get b = some o
  | c :: bs, b, o, hb, e => by
    unfold dropH
    by_cases q : b = c
    · subst q
      rw [e]
      exact H.get_set_new (by rw [dropH_n]; exact H.get_lt e) (by rw [dropH_n]; exact hs)
    · have hb' : b ∈ bs := by
        rcases List.mem_cons.1 hb with r | r
        · exact absurd r q
        · exact r
      split
      · rw [H.get_set_ne q]; exact dropH_in h hs bs b o hb' e
      · exact dropH_in h hs bs b o hb' e
theorem keep_rel {h : H} {g : FH} (R : HG h g) : ∀ {bs : List Nat}, ltAll g.n bs = true → HG (dropH h bs) (keepH bs g)
  | [], _ => by
    obtain ⟨n, d, t, k⟩ := g
    refine ⟨R.n, R.fits, Tr.full_mk _ _, R.small, fun b hb => ?_, R.k⟩
    show AOR _ ((Tr.mk FAO.void d).get b)
    rw [Tr.get_mk, show dropH h [] = ⟨h.n, .leaf, h.k⟩ from rfl, leafH_get]
    exact .void
  | b :: bs, hl => by
    obtain ⟨n, d, t, k⟩ := g
    have hl' : (Bool.rec (motive := fun _ => Bool) false (ltAll n bs) (Nat.ble (Nat.succ b) n)) = true := hl
    obtain ⟨c1, c2⟩ := band hl'
    have hb : b < n := ble_le c1
    have ih := keep_rel R (bs := bs) c2
    have ha := R.at_ b hb
    show HG _ (FH.mk n d ((keepT bs t (Tr.mk .void d)).put b (t.get b)) k)
    cases hq : h.get b with
    | some o =>
      rw [hq] at ha
      have := ih.put (b := b) hb ha
      have e1 : dropH h (b :: bs) = (dropH h bs).set b o := by
        conv => lhs; unfold dropH
        rw [hq]
      rw [e1]
      exact this
    | none =>
      rw [hq] at ha
      rw [show dropH h (b :: bs) = dropH h bs by conv => lhs; unfold dropH
                                                 rw [hq]]
      have hf : n ≤ 2 ^ d := R.fits
      refine ⟨ih.n, R.fits, Tr.full_put ih.full _ _, R.small, fun j hj => ?_, ih.k⟩
      by_cases e : j = b
      · subst e
        show AOR _ (((keepT bs t (Tr.mk .void d)).put j (t.get j)).get j)
        rw [Tr.get_put]
        have hn : (dropH h bs).get j = none := by
          cases hz : (dropH h bs).get j with
          | none => rfl
          | some o => rw [dropH_sub h bs j o hz] at hq; cases hq
        rw [hn]
        exact ha
      · show AOR _ (((keepT bs t (Tr.mk .void d)).put b (t.get b)).get j)
        have hfull : (keepT bs t (Tr.mk .void d)).Full d := ih.full
        rw [Tr.get_put_ne hfull _ (Nat.lt_of_lt_of_le hb hf) (Nat.lt_of_lt_of_le hj hf) (fun h => e h.symm)]
        exact ih.at_ j hj

theorem inAll_spec {bs : List Nat} : ∀ {fp : List (Nat × Nat)}, inAll bs fp = true → ∀ p ∈ fp, p.2 ∈ bs
  | [], _, p, hp => by cases hp
  | q :: fp, e, p, hp => by
    have e' : (Bool.rec (motive := fun _ => Bool) false (inAll bs fp) (hasN q.2 bs)) = true := e
    obtain ⟨c1, c2⟩ := band e'
    have key : ∀ (x : Nat) (l : List Nat), hasN x l = true → x ∈ l := by
      intro x l
      induction l with
      | nil => intro h; cases h
      | cons y l ih =>
        intro h
        simp only [hasN] at h
        cases hb : Nat.beq x y <;> rw [hb] at h <;> simp only [cond_true, cond_false] at h
        · exact List.mem_cons_of_mem _ (ih h)
        · exact List.mem_cons.2 (.inl (Nat.eq_of_beq_eq_true hb))
    rcases List.mem_cons.1 hp with rfl | hp
    · exact key _ _ c1
    · exact inAll_spec c2 p hp
theorem fpsOk_spec {bs : List Nat} : ∀ {l : List FF}, fpsOk bs l = true → ∀ f ∈ l, fpOk bs f = true
  | [], _, f, hf => by cases hf
  | g :: l, e, f, hf => by
    have e' : (Bool.rec (motive := fun _ => Bool) false (fpsOk bs l) (fpOk bs g)) = true := e
    obtain ⟨c1, c2⟩ := band e'
    rcases List.mem_cons.1 hf with rfl | hf
    · exact c1
    · exact fpsOk_spec c2 f hf
theorem fp_in {bs : List Nat} {a : AF} {f : FF} (F : FrG a f) (h : fpOk bs f = true) {b : Nat} (hb : fpIn [a] b) : b ∈ bs := by
  obtain ⟨a', h1, ops, rest, fp, cur, ka, h2, i, h3⟩ := hb
  simp at h1
  subst h1
  have ht := F.todo
  rw [h2] at ht
  unfold fpOk at h
  generalize f.todo = q at ht h
  cases ht with
  | cons _ _ _ _ hx _ =>
    cases hx with
    | drawn ops rest M fp cur h1 h2 h3' => exact inAll_spec h _ h3
theorem fps_in {bs : List Nat} {cs : List AF} {fs : List FF} (C : CsG cs fs) (h : ∀ f ∈ fs, fpOk bs f = true) {b : Nat} (hb : fpIn cs b) : b ∈ bs := by
  induction C with
  | nil =>
    obtain ⟨a', h1, _⟩ := hb
    cases h1
  | cons a f cs fs F C hacc ih =>
    obtain ⟨a', h1, rest⟩ := hb
    rcases List.mem_cons.1 h1 with rfl | h1
    · exact fp_in F (h f (by simp)) ⟨a', by simp, rest⟩
    · exact ih (fun g hg => h g (by simp [hg])) ⟨a', h1, rest⟩

theorem drop_good {fa : AF} {cs : List AF} {h : H} {bs : List Nat} (hs : h.n ≤ 1000000) (hfp : ∀ b, fpIn (fa :: cs) b → b ∈ bs) (hg : Good P f ok ⟨fa, cs, dropH h bs⟩) : Good P f ok ⟨fa, cs, h⟩ := by
  intro hmix B w0 cs0 hk fr csr w M
  refine hg hmix B w0 cs0 hk fr csr w ?_
  obtain ⟨ρ, c, e1, R, F, Fs, hb⟩ := M.ex
  have sub := dropH_sub h bs
  refine ⟨ρ, c, e1, ⟨?_, R.base, R.lt, fun b o r d h1 => R.low b o r d (sub b o h1), R.glob, fun b o r d h1 => R.obj b o r d (sub b o h1), fun b b' o o' r d d' h1 h2 h3 => R.inj b b' o o' r d d' (sub b o h1) h2 (sub b' o' h3), fun b h1 => ?_, ?_, R.old⟩, ?_, ?_, hb⟩
  · rw [dropH_n]; exact R.n
  · obtain ⟨r, d, k, q1, q2, q3⟩ := R.room b (sub _ _ h1)
    exact ⟨r, d, k, q1, q2, fun cs e own hc => q3 cs e own (sub _ _ hc)⟩
  · rw [dropH_k]; exact R.k
  · refine F.mono (.refl _) (fun b o hb hg => dropH_in h hs bs b o (hfp b ?_) hg) (fun _ _ _ _ _ hn => hn)
    obtain ⟨a, h1, rest⟩ := hb
    exact ⟨a, by simp at h1; simp [h1], rest⟩
  · refine Fs.mono (.refl _) (fun b o hb hg => dropH_in h hs bs b o (hfp b ?_) hg) (fun _ _ _ _ _ _ _ hn => hn)
    obtain ⟨a, h1, rest⟩ := hb
    exact ⟨a, by simp [h1], rest⟩

theorem keepR_good {R : Run} (hR : RG P f ok R) (bs : List Nat) : RG P f ok (keepR bs R) := by
  intro fr cs g m M e
  have e' : Bool.rec (motive := fun _ => Bool) false (Bool.rec (motive := fun _ => Bool) false (R fr cs (keepH bs g)) (fpsOk bs (fr :: cs))) (ltAll g.n bs) = true := e
  obtain ⟨c1, e'⟩ := band e'
  obtain ⟨c2, e'⟩ := band e'
  obtain ⟨fa, csA, h⟩ := m
  obtain ⟨F, C, Hh⟩ := M
  have hc := fpsOk_spec c2
  have hs : h.n ≤ 1000000 := by
    have h1 : h.n = g.n := Hh.n
    have h2 := Hh.small
    omega
  refine drop_good (bs := bs) hs (fun b hb => ?_) (hR fr cs (keepH bs g) ⟨fa, csA, dropH h bs⟩ ⟨F, C, keep_rel Hh c1⟩ e')
  obtain ⟨a, h1, rest⟩ := hb
  rcases List.mem_cons.1 h1 with rfl | h1
  · exact fp_in F (hc fr (by simp)) ⟨_, by simp, rest⟩
  · exact fps_in C (fun g hg => hc g (by simp [hg])) ⟨a, h1, rest⟩
end
end Go.Sim
namespace Go.Sim
/-! places of a program's text -/
noncomputable def kidC (c : Code) (i : Nat) : Code :=
  match c with
  | .seq a b => Bool.rec (motive := fun _ => Code) b a (Nat.beq i 0)
  | .cond _ a b => Bool.rec (motive := fun _ => Code) b a (Nat.beq i 0)
  | .rangeFunc _ _ a b => Bool.rec (motive := fun _ => Code) b a (Nat.beq i 0)
  | .block _ b => b
  | .loop b => b
  | .scope b => b
  | _ => .skip
noncomputable def goC (path : List Nat) : Code → Code := List.rec (motive := fun _ => Code → Code) (fun c => c) (fun i _ ih c => ih (kidC c i)) path
noncomputable def codeAt (P : Program) (f : FuncId) (path : List Nat) : Code := Option.rec (motive := fun _ => Code) .skip (fun q => goC path q.1) (fnBody P f)
noncomputable def opsAt (P : Program) (f : FuncId) (path : List Nat) : Array Oper := match codeAt P f path with
  | .region _ ops _ => ops
  | _ => #[]
noncomputable def dropO (k : Nat) (l : List Oper) : List Oper := Nat.rec (motive := fun _ => List Oper) l (fun _ ih => List.rec (motive := fun _ => List Oper) [] (fun _ t _ => t) ih) k
noncomputable def noOper : Oper := ⟨none, .move (.const undef), 0, "", #[], none⟩
noncomputable def nthO (l : List Oper) (k : Nat) : Oper := List.rec (motive := fun _ => Oper) noOper (fun o _ _ => o) (dropO k l)
noncomputable def pickO (l : List Oper) (is : List Nat) : List (Nat × Oper) := List.rec (motive := fun _ => List (Nat × Oper)) [] (fun i _ ih => (i, nthO l i) :: ih) is
noncomputable def fxAt (fx : Vars) (b : Nat) : FAO := List.rec (motive := fun _ => FAO) .void (fun p _ ih => Bool.rec (motive := fun _ => FAO) ih (.fixed (rowR p.2) (lenR p.2)) (Nat.beq p.1 b)) fx
noncomputable def uT (k : Nat) : Tr Value := Tr.mk undef k
end Go.Sim
namespace Go.Sim
noncomputable def i6 (n : Nat) : Value := .int .i64 (.ofNat n)
noncomputable def u8 (n : Nat) : Value := .int .u8 (.ofNat n)
noncomputable def u3 (n : Nat) : Value := .int .u32 (.ofNat n)
end Go.Sim
namespace Go.Sim
/-! short names for states -/
noncomputable def uu : Value := undef
noncomputable def tr (d : Nat) (l : List Value) : Tr Value :=
  Nat.rec (motive := fun _ => List Value → Tr Value) (fun l => .leaf (List.rec (motive := fun _ => Value) undef (fun x _ _ => x) l)) (fun d ih l => .node (Nat.pow 2 d) (ih l) (ih (dropR l (Nat.pow 2 d)))) d l
noncomputable def ag (l : List Value) : Value := .agg ⟨l⟩
noncomputable def ga (f : Nat → Value) (l : List Nat) : Value := .agg ⟨mapR f l⟩
noncomputable def sl (b o n c : Nat) : Value := .slice (some ⟨b, o, none⟩) n c
noncomputable def sV (b o n : Nat) : Value := .slice (some ⟨b, o, none⟩) n 1180591620717411303425
noncomputable def pt (b o : Nat) : Value := .pointer (some ⟨b, o, none⟩)
end Go.Sim
namespace Go.Sim
open Go.RowKit
set_option linter.unusedVariables false
set_option linter.unusedSimpArgs false
set_option linter.unusedSectionVars false
/-- is a frame of a depth at the beginning of a region? -/
noncomputable def atPl (fn id d : Nat) (fr : FF) (cs : List FF) : Bool :=
  FF.rec (motive := fun _ => Bool) (fun f _ _ todo _ mode _ _ _ => FrameMode.rec (motive := fun _ => Bool) (Bool.rec (motive := fun _ => Bool) false (List.rec (motive := fun _ => Bool) false (fun it _ _ =>
    FI.rec (motive := fun _ => Bool) (fun c => Bool.rec (motive := fun _ => Bool) false (Nat.beq (lenR cs) d) (Nat.beq (headId c) id)) (fun _ => false) (fun _ => false) (fun _ => false) (fun _ _ => false) (fun _ _ _ _ _ => false) (fun _ => false) (fun _ => false) false it) todo) (Nat.beq f fn)) false (fun _ => false) mode) fr
/-- until there, at most N steps, then another run -/
noncomputable def runU (P : Program) (f : FuncId) (ok : Value → Bool) (fn id d N : Nat) (R : Run) : Run :=
  Nat.rec (motive := fun _ => Run) (fun _ _ _ => false) (fun _ ih fr cs h => Bool.rec (motive := fun _ => Bool) (stepG P f ok ih fr cs h) (R fr cs h) (atPl fn id d fr cs)) N
/-- all but some blocks are dropped, and the next block's number is a given one -/
noncomputable def keepHN (bs : List Nat) (m : Nat) (h : FH) : FH := FH.rec (motive := fun _ => FH) (fun n d t k => .mk m (depth m) (keepT bs t (Tr.mk .void (depth m))) k) h
noncomputable def keepRN (bs : List Nat) (m : Nat) (R : Run) : Run := fun fr cs h =>
  Bool.rec (motive := fun _ => Bool) false (Bool.rec (motive := fun _ => Bool) false (Bool.rec (motive := fun _ => Bool) false (Bool.rec (motive := fun _ => Bool) false (R fr cs (keepHN bs m h)) (fpsOk bs (fr :: cs))) (ltAll h.n bs)) (Nat.ble h.n m)) (Nat.ble m 1000000)
variable [Ev]
theorem runU_good {P : Program} {f : FuncId} {ok : Value → Bool} {R : Run} (h : RG P f ok R) (fn id d : Nat) : ∀ N : Nat, RG P f ok (runU P f ok fn id d N R)
  | 0 => fun _ _ _ _ _ e => by cases e
  | n + 1 => fun fr cs g m M e => by
    have e' : (Bool.rec (motive := fun _ => Bool) (stepG P f ok (runU P f ok fn id d n R) fr cs g) (R fr cs g) (atPl fn id d fr cs)) = true := e
    cases hc : atPl fn id d fr cs
    · rw [hc] at e'
      exact step_good (runU_good h fn id d n) M e'
    · rw [hc] at e'
      exact h fr cs g m M e'

noncomputable def dropHN (h : H) (m : Nat) : List Nat → H
  | [] => ⟨m, .leaf, h.k⟩
  | b :: bs => match h.get b with
    | some o => (dropHN h m bs).set b o
    | none => dropHN h m bs
theorem dropHN_n (h : H) (m : Nat) : ∀ bs, (dropHN h m bs).n = m
  | [] => rfl
  | b :: bs => by
    unfold dropHN
    split
    · exact dropHN_n h m bs
    · exact dropHN_n h m bs
theorem dropHN_k (h : H) (m : Nat) : ∀ bs, (dropHN h m bs).k = h.k
  | [] => rfl
  | b :: bs => by
    unfold dropHN
    split
    · exact dropHN_k h m bs
    · exact dropHN_k h m bs
theorem dropHN_sub (h : H) (m : Nat) : ∀ (bs : List Nat) (b : Nat) (o : AO), (dropHN h m bs).get b = some o → h.get b = some o
  | [], b, o, e => by rw [show dropHN h m [] = ⟨m, .leaf, h.k⟩ from rfl, leafH_get] at e; cases e
  | c :: bs, b, o, e => by
    unfold dropHN at e
    split at e
    · rename_i x hx
      rcases H.get_set e with ⟨rfl, rfl⟩ | ⟨_, h2⟩
      · exact hx
      · exact dropHN_sub h m bs b o h2
    · exact dropHN_sub h m bs b o e
theorem dropHN_in (h : H) {m : Nat} (hm : h.n ≤ m) (hs : m ≤ 1000000) : ∀ (bs : List Nat) (b : Nat) (o : AO), b ∈ bs → h.get b = some o → (dropHN h m bs).get b = some o
  | c :: bs, b, o, hb, e => by
    have hlt := H.get_lt e
    unfold dropHN
    by_cases q : b = c
    · subst q
      rw [e]
      exact H.get_set_new (by rw [dropHN_n]; omega) (by rw [dropHN_n]; exact hs)
    · have hb' : b ∈ bs := by
        rcases List.mem_cons.1 hb with r | r
        · exact absurd r q
        · exact r
      split
      · rw [H.get_set_ne q]; exact dropHN_in h hm hs bs b o hb' e
      · exact dropHN_in h hm hs bs b o hb' e
theorem keepN_rel {h : H} {g : FH} (R : HG h g) {m : Nat} (hm : g.n ≤ m) (hs : m ≤ 1000000) : ∀ {bs : List Nat}, ltAll g.n bs = true → HG (dropHN h m bs) (keepHN bs m g)
  | [], _ => by
    obtain ⟨n, d, t, k⟩ := g
    refine ⟨rfl, le_depth m, Tr.full_mk _ _, hs, fun b hb => ?_, R.k⟩
    show AOR _ ((Tr.mk FAO.void (depth m)).get b)
    rw [Tr.get_mk, show dropHN h m [] = ⟨m, .leaf, h.k⟩ from rfl, leafH_get]
    exact .void
  | b :: bs, hl => by
    obtain ⟨n, d, t, k⟩ := g
    have hl' : (Bool.rec (motive := fun _ => Bool) false (ltAll n bs) (Nat.ble (Nat.succ b) n)) = true := hl
    obtain ⟨c1, c2⟩ := band hl'
    have hb : b < n := ble_le c1
    have hm' : n ≤ m := hm
    have ih := keepN_rel R hm hs (bs := bs) c2
    have ha := R.at_ b hb
    show HG _ (FH.mk m (depth m) ((keepT bs t (Tr.mk .void (depth m))).put b (t.get b)) k)
    cases hq : h.get b with
    | some o =>
      rw [hq] at ha
      have hbm : b < m := by omega
      have := ih.put (b := b) hbm ha
      have e1 : dropHN h m (b :: bs) = (dropHN h m bs).set b o := by
        conv => lhs; unfold dropHN
        rw [hq]
      rw [e1]
      exact this
    | none =>
      rw [hq] at ha
      have e1 : dropHN h m (b :: bs) = dropHN h m bs := by
        conv => lhs; unfold dropHN
        rw [hq]
      rw [e1]
      have hfull : (keepT bs t (Tr.mk .void (depth m))).Full (depth m) := ih.full
      refine ⟨ih.n, le_depth m, Tr.full_put hfull _ _, hs, fun j hj => ?_, ih.k⟩
      have hj' : j < m := hj
      by_cases e : j = b
      · subst e
        show AOR _ (((keepT bs t (Tr.mk .void (depth m))).put j (t.get j)).get j)
        rw [Tr.get_put]
        have hn : (dropHN h m bs).get j = none := by
          cases hz : (dropHN h m bs).get j with
          | none => rfl
          | some o => rw [dropHN_sub h m bs j o hz] at hq; cases hq
        rw [hn]
        exact ha
      · show AOR _ (((keepT bs t (Tr.mk .void (depth m))).put b (t.get b)).get j)
        have hd := le_depth m
        rw [Tr.get_put_ne hfull _ (by omega) (by omega) (fun h => e h.symm)]
        exact ih.at_ j hj
theorem dropN_good {P : Program} {f : FuncId} {ok : Value → Bool} {fa : AF} {cs : List AF} {h : H} {m : Nat} {bs : List Nat} (hm : h.n ≤ m) (hs : m ≤ 1000000) (hfp : ∀ b, fpIn (fa :: cs) b → b ∈ bs) (hg : Good P f ok ⟨fa, cs, dropHN h m bs⟩) : Good P f ok ⟨fa, cs, h⟩ := by
  intro hmix B w0 cs0 hk fr csr w M
  refine hg hmix B w0 cs0 hk fr csr w ?_
  obtain ⟨ρ, c, e1, R, F, Fs, hb⟩ := M.ex
  have sub := dropHN_sub h m bs
  have hle : le ρ (ρ ++ List.replicate (m - h.n) none) := le.app _ _
  have hlen : ρ.length = h.n := R.n
  have back : ∀ (b r d : Nat), (ρ ++ List.replicate (m - h.n) none)[b]? = some (some (r, d)) → ρ[b]? = some (some (r, d)) := by
    intro b r d hb
    rcases Nat.lt_or_ge b ρ.length with hl | hl
    · rw [List.getElem?_append_left hl] at hb; exact hb
    · rw [List.getElem?_append_right hl, List.getElem?_replicate] at hb
      split at hb <;> simp at hb
  have none2 : ∀ b : Nat, ρ[b]? = some none → (ρ ++ List.replicate (m - h.n) none)[b]? = some none := by
    intro b hb
    have hl : b < ρ.length := (List.getElem?_eq_some_iff.1 hb).1
    rw [List.getElem?_append_left hl]; exact hb
  refine ⟨ρ ++ List.replicate (m - h.n) none, c, e1, ⟨?_, R.base, fun b r d hb => R.lt b r d (back b r d hb), fun b o r d h1 h2 hb => R.low b o r d (sub b o h1) h2 (back b r d hb), fun g hg => hle _ _ (R.glob g hg), fun b o r d h1 hb => (R.obj b o r d (sub b o h1) (back b r d hb)).mono hle,
    fun b b' o o' r d d' h1 h2 h3 h4 hb hb' => R.inj b b' o o' r d d' (sub b o h1) h2 (sub b' o' h3) h4 (back b r d hb) (back b' r d' hb'), fun b h1 => ?_, ?_, R.old⟩, ?_, ?_, hb⟩
  · rw [dropHN_n, List.length_append, List.length_replicate]; omega
  · obtain ⟨r, d, k, q1, q2, q3⟩ := R.room b (sub _ _ h1)
    exact ⟨r, d, k, hle _ _ q1, hle _ _ q2, fun cs e own hc => q3 cs e own (sub _ _ hc)⟩
  · rw [dropHN_k]; exact R.k
  · refine F.mono hle (fun b o hb hg => dropHN_in h hm hs bs b o (hfp b ?_) hg) (fun b _ _ _ _ hn => none2 b hn)
    obtain ⟨a, h1, rest⟩ := hb
    exact ⟨a, by simp at h1; simp [h1], rest⟩
  · refine Fs.mono hle (fun b o hb hg => dropHN_in h hm hs bs b o (hfp b ?_) hg) (fun b _ _ _ _ _ _ hn => none2 b hn)
    obtain ⟨a, h1, rest⟩ := hb
    exact ⟨a, by simp [h1], rest⟩
theorem keepRN_good {P : Program} {f : FuncId} {ok : Value → Bool} {R : Run} (hR : RG P f ok R) (bs : List Nat) (m : Nat) : RG P f ok (keepRN bs m R) := by
  intro fr cs g M0 M e
  have e' : Bool.rec (motive := fun _ => Bool) false (Bool.rec (motive := fun _ => Bool) false (Bool.rec (motive := fun _ => Bool) false (Bool.rec (motive := fun _ => Bool) false (R fr cs (keepHN bs m g)) (fpsOk bs (fr :: cs))) (ltAll g.n bs)) (Nat.ble g.n m)) (Nat.ble m 1000000) = true := e
  obtain ⟨k1, e'⟩ := band e'
  obtain ⟨k2, e'⟩ := band e'
  obtain ⟨c1, e'⟩ := band e'
  obtain ⟨c2, e'⟩ := band e'
  have hs := Nat.le_of_ble_eq_true k1
  have hm := Nat.le_of_ble_eq_true k2
  obtain ⟨fa, csA, h⟩ := M0
  obtain ⟨F, C, Hh⟩ := M
  have hc := fpsOk_spec c2
  have hn : h.n = g.n := Hh.n
  refine dropN_good (bs := bs) (m := m) (by omega) hs (fun b hb => ?_) (hR fr cs (keepHN bs m g) ⟨fa, csA, dropHN h m bs⟩ ⟨F, C, keepN_rel Hh hm hs c1⟩ e')
  obtain ⟨a, h1, rest⟩ := hb
  rcases List.mem_cons.1 h1 with rfl | h1
  · exact fp_in F (hc fr (by simp)) ⟨_, by simp, rest⟩
  · exact fps_in C (fun g hg => hc g (by simp [hg])) ⟨a, h1, rest⟩
end Go.Sim
namespace Go.Sim
noncomputable def tg (f : Nat → Value) (d : Nat) (l : List Nat) : Tr Value := tr d (mapR f l)
noncomputable def aB (t m : Bool) : Bool := Bool.rec (motive := fun _ => Bool) false t m
end Go.Sim

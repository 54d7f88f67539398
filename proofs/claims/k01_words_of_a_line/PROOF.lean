import PyProof.Rows.All
import Wide.All
import OpenK.AllK
import Wide.FinOn
import HandS.ForMost
import HandS.ForExc
import HandS.AnyAll
import HandS.GenOver
import HandS.GenList
import HandS.More
import HandS.Defaults
import HandS.HeadHook4
import HandS.IsInst
import HandS.Iter
import HandS.Text
import HandS.Head0
import HandS.Head1
import HandS.Head2
import HandS.HeadEnd
import HandS.HeadHook1
import HandS.HeadHook2
import HandS.HeadHook3
import HandS.HeadWalk
import HandS.LawCells
import HandS.Codes
import PySem.Challenge.RW_redraft_k01_words_of_a_line
set_option Elab.async false
set_option linter.all false
set_option maxRecDepth 100000
set_option maxHeartbeats 4000000
/-! all(elt for x in iter if ..), any(..): the element any expression that the layer reads (calls of defs, too), the walked thing any that the layer walks -/
namespace Rd
open PySem PySem.Spec PyProof.Rows L2 GxR

/-- the frame of a generator expression of X, made at s -/
abbrev gcx (X : Cx) (s : Shared) (H : Hp) (sc : Scope) (ce : Env) (fp : List Addr) (a : Addr) (o : Obj) (B : Around) : Cx :=
  { X with A := B, s_0 := s, H_0 := H, env := ce, outer := X.stack, stack := ce :: X.stack, ex := fp, fn := fun x => sc.names.lookup x == some .cell, calm := true, pn := [(a, o)], xe := fun _ _ => False }

theorem not_in_frs {X : Cx} {pins : List (Addr × Obj)} {σ : L2.St} {H : Hp} {s : Shared} (I : Inv X pins σ H s) {b : Addr} (hb : s.heap.objs.size ≤ b) : b ∉ frs X.stack := fun hm => by
  obtain ⟨_, o, ho, _⟩ := I.stack.mem hm
  exact Nat.lt_irrefl _ (Nat.lt_of_lt_of_le (Heap.lt_size ho) hb)

theorem gen_start {X : Cx} {pins : List (Addr × Obj)} {σ : L2.St} {H : Hp} {s s' : Shared} {sc : Scope} {own : List (Str × Nat)} {fp : List Addr} {ce : Env} {a : Addr} {o : Obj} {B : Around}
    (I : Inv X pins σ H s) (ok : BlkOk X.N X.env.scope sc own) (nc : ∀ y ∈ sc.names, y.2 ≠ .cell) (hN : X.N.Nodup) (hfp : ∀ b ∈ fp, FpOk X pins H b ∧ b < s.heap.objs.size)
    (e1 : ce.scope = sc) (e2 : ce.locals = s.heap.objs.size) (e3 : ce.globals = X.env.globals) (e4 : ce.builtins = builtinsNs) (e5 : ce.cells = cloFrom X.env.cells sc.names []) (e6 : ce.frame = some s.heap.objs.size)
    (hB : B.frames = some (ce :: X.stack)) (hh : B.handled = none)
    (os : s'.os = s.os) (gb : AllBare s'.gens) (kp : ∀ b u, s.heap.get? b = some u → s'.heap.get? b = some u) (ns : ∃ m, s'.heap.Ns s.heap.objs.size m) (ha : s'.heap.get? a = some o) (hlt : s.heap.objs.size < a) (hod : ∀ v, o.data ≠ .cell v) :
    Inv (gcx X s H sc ce fp a o B) [] (wipe σ (own.map (·.2))) H s' := by
  have nocell : ∀ y, sc.names.lookup y ≠ some .cell := fun y z => nc _ (PySem.mem_of_lookup z) rfl
  have clo : ∀ {y c}, ce.cells.lookup y = some c → X.env.cells.lookup y = some c ∧ c < s.heap.objs.size := fun {y c} e => by
    rw [e5] at e
    rcases cloFrom_mem (PySem.mem_of_lookup e) with hm | ⟨hy, rfl⟩
    · cases hm
    · have h1 : ∃ c, X.env.cells.lookup y = some c := by
        rcases ok.free _ hy rfl with k | k
        · exact I.ok.has _ (.inl k)
        · exact I.ok.has _ (.inr k)
      obtain ⟨c1, h2⟩ := h1
      rw [h2]
      obtain ⟨v, z⟩ := I.cell _ _ h2
      exact ⟨rfl, z.lt⟩
  have has : ∀ {y}, sc.names.lookup y = some .free → ∃ c, ce.cells.lookup y = some c := fun {y} hy => by
    obtain ⟨c, hc⟩ := mem_lookup (cloFrom_has (cells := X.env.cells) (acc := []) (PySem.mem_of_lookup hy))
    exact ⟨c, by rw [e5]; exact hc⟩
  have okB : (gcx X s H sc ce fp a o B).Ok := by
    refine ⟨I.ok.mod, ?_, ?_, e4, ?_, fun y z c h1 h2 => I.ok.inj y z c (clo h1).1 (clo h2).1, fun y hy => ?_, fun y c z _ => ?_, fun _ => hh, hB, .inr ⟨rfl, ?_⟩, fun b hb => ⟨?_, fun y c e z => ?_⟩, I.bs, Nat.le_trans I.ok.bsz I.sz, fun b u e hb => ?_, fun b hb z => ?_, I.stack, I.stkFree⟩
    · show ce.scope.kind = _
      rw [e1]
      exact ok.kind
    · show ce.globals = _
      rw [e3]
      exact I.ok.glob
    · show s.heap.objs.size ≤ ce.locals
      rw [e2]
      exact Nat.le_refl _
    · show ∃ c, ce.cells.lookup y = some c
      rcases hy with hy | hy
      · have hy : ce.scope.names.lookup y = some .cell := hy
        rw [e1] at hy
        exact absurd hy (nocell y)
      · have hy : ce.scope.names.lookup y = some .free := hy
        rw [e1] at hy
        exact has hy
    · have z : (sc.names.lookup y == some NameKind.cell) = true := z
      exact absurd (by simpa using z) (nocell y)
    · show ce.frame = some ce.locals
      rw [e6, e2]
    · show b ≠ ce.locals
      rw [e2]
      exact Nat.ne_of_lt (hfp b hb).2
    · exact (hfp b hb).1.2.2.2.2.1 y c (clo e).1 z
    · rcases (hfp b hb).1.2.2.2.1 with z | z
      · exact I.ok.noex b u e z
      · exact absurd (Nat.lt_of_lt_of_le (Heap.lt_size e) (Nat.le_trans I.ok.bsz z)) (Nat.lt_irrefl _)
    · rcases List.mem_cons.mp (I.stkSub b z) with z | z
      · exact (hfp b hb).1.2.1 z
      · exact (hfp b hb).1.2.2.1 z
  obtain ⟨m1, hm1⟩ := ns
  refine ⟨okB, os, gb, Un.kept kp, ⟨m1, ?_, fun i y av q1 q2 q3 => ?_⟩, fun y c e => ?_, ?_, fun y c e => I.freeC y c (clo e).1, fun p hp => ?_, I.hok.kept kp, by rw [wipe_length]; exact I.len⟩
  · show Heap.Ns _ ce.locals _
    rw [e2]
    exact hm1
  · obtain ⟨q2, hne⟩ := wipe_some q2
    have q3 : Vis ce.scope y := q3
    rw [e1] at q3
    have q1 : X.N[i]? = some y := q1
    have no : ∀ k, sc.names.lookup y = some k → k = .local ∨ k = .cell → False := fun k e hk => by
      rcases ok.own _ (PySem.mem_of_lookup e) hk with z | z
      · obtain ⟨p, hp, hpy⟩ := List.mem_map.mp z
        have z2 := ok.ix p hp
        have hpy : p.1 = y := hpy
        rw [hpy] at z2
        exact hne (List.mem_map.mpr ⟨p, hp, nodup_ix hN z2 q1⟩)
      · exact z (List.mem_of_getElem? q1)
    have hf : sc.names.lookup y = some .free := by
      rcases q3 with z | z | z
      · exact (no _ z (.inl rfl)).elim
      · exact (no _ z (.inr rfl)).elim
      · exact z
    obtain ⟨m, hn, hl⟩ := I.loc
    have hk := ok.free _ (PySem.mem_of_lookup hf) rfl
    obtain ⟨u, r, q⟩ := hl i y av q1 q2 (hk.elim (fun k => .inr (.inl k)) fun k => .inr (.inr k))
    refine ⟨u, r, .inr ⟨.inr ?_, ?_⟩⟩
    · show ce.scope.names.lookup y = some .free
      rw [e1]
      exact hf
    · obtain ⟨c, hc⟩ := has hf
      rcases q with ⟨k, _⟩ | ⟨_, c', e', z⟩
      · have k : X.env.scope.names.lookup y = some .local := k
        rcases hk with hk | hk <;> rw [show X.env.scope.names.lookup y = _ from hk] at k <;> cases k
      · have hc' := (clo hc).1
        rw [hc'] at e'
        cases e'
        exact ⟨c, hc, z.keeps kp⟩
  · obtain ⟨v, z⟩ := I.cell y c (clo e).1
    exact ⟨v, z.keeps kp⟩
  · show H ce.locals = none
    rw [e2]
    exact I.hok.fresh (Nat.le_refl _)
  · have hp : p = (a, o) := by simpa using hp
    subst hp
    refine ⟨ha, I.hok.fresh (Nat.le_of_lt hlt), ?_, not_in_frs I (Nat.le_of_lt hlt), hod⟩
    show a ≠ ce.locals
    rw [e2]
    exact Nat.ne_of_gt hlt

theorem inv_gens {X : Cx} {pins : List (Addr × Obj)} {σ : L2.St} {H : Hp} {s : Shared} {G : Array GenState} (I : Inv X pins σ H s) (hG : AllBare G) : Inv X pins σ H { s with gens := G } :=
  ⟨I.ok, I.os, hG, I.base, I.loc, I.cell, I.free, I.freeC, I.pin, I.hok, I.len⟩

/-- the reading: J what is walked, k the answer that goes on (True for all, False for any) -/
def tGen (k : Bool) (P : Addr) (wi : TI) (g : TG) (tt : TT) (te : TE) (vs : List Nat) : TE := fun σ H Q => wi σ H fun J H1 => TabG H1 P ∧ ∀ H2, Tabbed P H1 H2 →
  ∃ W : Nat → Nat → Hp → Prop, (∃ m, W 0 m H2) ∧ ∀ i m H, W i m H →
    (J.stop i H ∧ Q (.bl k) H) ∨ (J.go i H ∧ ∃ Nx : Hp → Prop, (∀ H', Nx H' → ∃ m', m' < m ∧ W (i + 1) m' H') ∧ ∀ x H', J.yld i H x H' → g x (wipe σ vs) H' fun σ2 H2 => wipe σ2 vs = wipe σ vs ∧ tt σ2 H2 fun b H3 =>
      if b = true then te σ2 H3 fun y H4 => ∃ c, y = .bl c ∧ (c = k → Nx H4) ∧ (c = (!k) → Q (.bl (!k)) H4) else Nx H3)

/-- the answer is known -/
def Fin (X : Cx) (pins : List (Addr × Obj)) (σ : L2.St) (Q : VK) (b : Bool) (s : Shared) : Prop := ∃ H, Inv X pins σ H s ∧ Q (.bl b) H
theorem Fin.gens {X : Cx} {pins : List (Addr × Obj)} {σ : L2.St} {Q : VK} {b : Bool} {s : Shared} {G : Array GenState} (h : Fin X pins σ Q b s) (hG : AllBare G) : Fin X pins σ Q b { s with gens := G } :=
  let ⟨H, I, q⟩ := h; ⟨H, inv_gens I hG, q⟩
theorem Fin.kept {X : Cx} {pins : List (Addr × Obj)} {σ : L2.St} {Q : VK} {b : Bool} {s : Shared} {h' : Heap} (h : Fin X pins σ Q b s) (k : ∀ c u, s.heap.get? c = some u → h'.get? c = some u) : Fin X pins σ Q b { s with heap := h' } :=
  let ⟨H, I, q⟩ := h; ⟨H, I.kept (t' := s.toks) k, q⟩
/-- the generator's end -/
abbrev GR1 (X : Cx) (pins : List (Addr × Obj)) (σ : L2.St) (Q : VK) (k : Bool) : GenEnd := fun _ _ r s => r = .ok .next ∧ (AllBare s.gens ∧ Fin X pins σ Q k s)
/-- an item comes out -/
abbrev GY1 (X : Cx) (pins : List (Addr × Obj)) (σ : L2.St) (Q : VK) (k : Bool) (a : Addr) (g : Nat) : Protocol := fun _ _ v s kap =>
  ∃ b, v = .bool b ∧ s.heap.IsGen a g ∧ s.heap.NoLimit ∧ AllBare s.gens ∧ (b = (!k) → Fin X pins σ Q (!k) s) ∧ (b = k → ∀ G, AllBare G → kap (.send .none) { s with gens := G })
/-- a generator that is to be asked -/
def Live (X : Cx) (pins : List (Addr × Obj)) (σ : L2.St) (Q : VK) (k : Bool) (a : Addr) (g n : Nat) (s : Shared) : Prop :=
  s.heap.IsGen a g ∧ s.heap.NoLimit ∧ AllBare s.gens ∧ ∃ gs, s.gens[g]? = some gs ∧ gs.Goes (model X.prog X.w) X.A.in1.in1 (GR1 X pins σ Q k) (GY1 X pins σ Q k a g) n (.send .none) (s.setGen g .running)

section
variable {X : Cx} {pins : List (Addr × Obj)} {σ : L2.St} {Q : VK} {a : Addr} {g : Nat}
/-- what a step of the consumer finds -/
theorem next_live {k : Bool} {n : Nat} {s : Shared} {Q' : Option Value → Shared → Prop} {E : Value → Shared → Prop} (hh : X.A.handled = none) (hd : X.A.depth < recursionLimit) (h : Live X pins σ Q k a g n s)
    (hy : ∀ (b : Bool) (s' : Shared), (b = (!k) → Fin X pins σ Q (!k) s') → (b = k → ∃ m, m < n ∧ Live X pins σ Q k a g m s') → Q' (some (.bool b)) s') (he : ∀ s', Fin X pins σ Q k s' → Q' none s') :
    wpAny (model X.prog X.w) X.A.in1 (pyNext (.ref a)) Q' E s := by
  obtain ⟨hg, hl, hb0, gs, hgs, hgo⟩ := h
  have hgl : g < s.gens.size := (Array.getElem?_eq_some_iff.mp hgs).1
  refine GenW.wpAny_gsz (n := g + 1) hgl (wpAny_pyNext_genexpQ (A := X.A.in1) (P := fun _ _ s => AllBare s.gens ∧ Fin X pins σ Q k s) hh hl hd hg hgs hgo (fun v s1 gs1 hbare hv => ?_) fun s1 hp h1 hk => ?_)
  · intro hsz
    obtain ⟨b, rfl, hg1, hl1, hb1, q1, q2⟩ := hv
    have hG : AllBare (s1.setGen g gs1).gens := allBare_setGen hb1 hbare
    have es : s1.setGen g gs1 = { s1 with gens := (s1.setGen g gs1).gens } := rfl
    refine hy b _ (fun e => by rw [es]; exact (q1 e).gens hG) fun e => ?_
    have hsz1 : g < s1.gens.size := by
      have z : (s1.setGen g gs1).gens.size = s1.gens.size := GenW.setGen_size _ _ _
      have z2 : g + 1 ≤ (s1.setGen g gs1).gens.size := hsz
      omega
    cases n with
    | zero => exact False.elim (q2 e s1.gens hb1)
    | succ m =>
      refine ⟨m, Nat.lt_succ_self m, hg1, hl1, hG, gs1, setGen_at hsz1, ?_⟩
      exact q2 e ((s1.setGen g gs1).setGen g .running).gens (allBare_setGen hG rfl)
  · intro _
    have z := (Fin.gens (G := (s1.setGen g .finished).gens) hp.2 (allBare_setGen hp.1 rfl)).kept hk
    exact he _ z

theorem all_loop {R : Result → Shared → Prop} (hh : X.A.handled = none) (hd : X.A.depth < recursionLimit) (hR : ∀ b s, Fin X pins σ Q b s → R (.ok (.ret (.bool b))) s) :
    ∀ (n : Nat) (s : Shared), Live X pins σ Q true a g n s → codeAny (model X.prog X.w) X.A (.builtin "all.loop" ⟨[.ref a], []⟩) R s := by
  intro n
  induction n using Nat.strongRecOn with
  | ind n ih =>
    intro s h
    refine codeAny_builtin F.entry_all_loop ?_
    rw [Around.under_plainId F.plain_all_loop _]
    show wpAny _ X.A.in1 (pyNext (.ref a) >>= _) _ _ s
    refine wpAny_bind (next_live hh hd h (fun b s1 q1 q2 => ?_) fun s1 q => ?_)
    · refine wpAny_bind (wpAny_holding (wpAny_truthy_bool ?_))
      refine wpAny_bind (wpAny_letGo ?_)
      cases b with
      | true =>
        simp only [if_true]
        obtain ⟨m, hm, hL⟩ := q2 rfl
        exact wpAny_pure ⟨plainId_quiet F.plain_all_loop _, ih m hm _ hL⟩
      | false =>
        simp only [Bool.false_eq_true, if_false]
        exact wpAny_bind (wpAny_rule (wpAny_pure (hR _ _ (q1 rfl))))
    · exact wpAny_bind (wpAny_rule (wpAny_pure (hR _ _ q)))
theorem any_loop {R : Result → Shared → Prop} (hh : X.A.handled = none) (hd : X.A.depth < recursionLimit) (hR : ∀ b s, Fin X pins σ Q b s → R (.ok (.ret (.bool b))) s) :
    ∀ (n : Nat) (s : Shared), Live X pins σ Q false a g n s → codeAny (model X.prog X.w) X.A (.builtin "any.loop" ⟨[.ref a], []⟩) R s := by
  intro n
  induction n using Nat.strongRecOn with
  | ind n ih =>
    intro s h
    refine codeAny_builtin F.entry_any_loop ?_
    rw [Around.under_plainId F.plain_any_loop _]
    show wpAny _ X.A.in1 (pyNext (.ref a) >>= _) _ _ s
    refine wpAny_bind (next_live hh hd h (fun b s1 q1 q2 => ?_) fun s1 q => ?_)
    · refine wpAny_bind (wpAny_holding (wpAny_truthy_bool ?_))
      refine wpAny_bind (wpAny_letGo ?_)
      cases b with
      | false =>
        simp only [Bool.false_eq_true, if_false]
        obtain ⟨m, hm, hL⟩ := q2 rfl
        exact wpAny_pure ⟨plainId_quiet F.plain_any_loop _, ih m hm _ hL⟩
      | true =>
        simp only [if_true]
        exact wpAny_bind (wpAny_rule (wpAny_pure (hR _ _ (q1 rfl))))
    · exact wpAny_bind (wpAny_rule (wpAny_pure (hR _ _ q)))
theorem call_all_live {n : Nat} {s : Shared} {Q' : Value → Shared → Prop} {E : Value → Shared → Prop} (hh : X.A.handled = none) (hd : X.A.depth < recursionLimit) (h : Live X pins σ Q true a g n s) (hQ : ∀ b s', Fin X pins σ Q b s' → Q' (.bool b) s') :
    wpAny (model X.prog X.w) X.A (call (.builtin "all") [.ref a]) Q' E s := by
  refine call_function_tree F.kind_all F.plain_all F.entry_all (F.args_all1 _) ?_
  unfold Builtin.«all»
  refine wpAny_bind (m := oneArg "all" _) (wpAny_pure ?_)
  refine wpAny_bind (wpAny_pyIter_gen h.1 ?_)
  exact wpAny_pure ⟨plainId_quiet F.plain_all_loop _, all_loop hh hd (fun b s' q => hQ b s' q) n s h⟩
theorem call_any_live {n : Nat} {s : Shared} {Q' : Value → Shared → Prop} {E : Value → Shared → Prop} (hh : X.A.handled = none) (hd : X.A.depth < recursionLimit) (h : Live X pins σ Q false a g n s) (hQ : ∀ b s', Fin X pins σ Q b s' → Q' (.bool b) s') :
    wpAny (model X.prog X.w) X.A (call (.builtin "any") [.ref a]) Q' E s := by
  refine call_function_tree F.kind_any F.plain_any F.entry_any (F.args_any1 _) ?_
  unfold Builtin.«any»
  refine wpAny_bind (m := oneArg "any" _) (wpAny_pure ?_)
  refine wpAny_bind (wpAny_pyIter_gen h.1 ?_)
  exact wpAny_pure ⟨plainId_quiet F.plain_any_loop _, any_loop hh hd (fun b s' q => hQ b s' q) n s h⟩
end

/-! ### the generator's own turns -/
theorem mono_no {α : Type} {t : Sem α} {Q Q' : α → Shared → Prop} {M : Model} {A : Around} {E : Value → Shared → Prop} {s : Shared} (h : wpAny M A t Q (fun _ _ => False) s) (hQ : ∀ a s, Q a s → Q' a s) : wpAny M A t Q' E s :=
  wpAny_mono h hQ fun _ _ z => False.elim z

section
variable {X : Cx} {pins : List (Addr × Obj)} {σ : L2.St} {Q : VK} {k : Bool} {a : Addr} {g : Nat} {o : Obj} {s4 : Shared} {H3 : Hp} {sc : Scope} {own : List (Str × Nat)} {ce : Env} {fp : List Addr} {it : Addr} {tn : Nat → Heap → Prop} {J : It} {B : Around}
  {elt tg iter : Expr} {ifs : List Expr} {pos : Pos} {gt : TG} {tt : TT} {te : TE} {W : Nat → Nat → Hp → Prop}
theorem gen_turns (hB : B = X.A.in1.in1.over (.compLoop (.GeneratorExp elt [⟨tg, iter, ifs, 0⟩] sc pos) 0 (.ref it) .none ce) []) (hco : ce.scope.isCoroutine = false)
    (I4 : Inv X pins σ H3 s4) (T : Turn X.prog X.w X.K tg J fp it tn) (ffp : ∀ b ∈ fp, FpOk X pins H3 b) (hafp : ∀ b ∈ fp, b ≠ a) (hgo : ∃ nm qn, o.cls = .type "generator" ∧ o.data = .fields #[.int g 0, nm, qn] ∧ o.slots = #[])
    (pg : PG (gcx X s4 H3 sc ce fp a o B) tg gt) (pt : PTs (gcx X s4 H3 sc ce fp a o B) ifs tt) (pe : PE (gcx X s4 H3 sc ce fp a o B) elt te)
    (turn : ∀ i m H, W i m H → (J.stop i H ∧ Q (.bl k) H) ∨ (J.go i H ∧ ∃ Nx : Hp → Prop, (∀ H', Nx H' → ∃ m', m' < m ∧ W (i + 1) m' H') ∧ ∀ x H', J.yld i H x H' → gt x (wipe σ (own.map (·.2))) H' fun σ2 H2 => wipe σ2 (own.map (·.2)) = wipe σ (own.map (·.2)) ∧ tt σ2 H2 fun b H3 =>
      if b = true then te σ2 H3 fun y H4 => ∃ c, y = .bl c ∧ (c = k → Nx H4) ∧ (c = (!k) → Q (.bl (!k)) H4) else Nx H3)) :
    ∀ (m n i : Nat) (s0 s : Shared) (H : Hp), m < n → Inv (gcx X s4 H3 sc ce fp a o B) [] (wipe σ (own.map (·.2))) H s → tn i s.heap → (∀ b ∈ fp, H b = none) → W i m H →
      Seg (model X.prog X.w) X.A.in1.in1 (GR1 X pins σ Q k) (GY1 X pins σ Q k a g) n s0 (.compLoop (.GeneratorExp elt [⟨tg, iter, ifs, 0⟩] sc pos) 0 (.ref it) .none ce)
        ((model X.prog X.w).den (.compLoop (.GeneratorExp elt [⟨tg, iter, ifs, 0⟩] sc pos) 0 (.ref it) .none ce)) [] s := by
  have stat : ∀ {σ' : L2.St} {H' : Hp} {s' : Shared}, Inv (gcx X s4 H3 sc ce fp a o B) [] σ' H' s' → (∀ b ∈ fp, H' b = none) → ∀ b ∈ fp, FpOk (gcx X s4 H3 sc ce fp a o B) [] H' b := fun {σ' H' s'} I' hn b hb =>
    ⟨hn b hb, (I'.ok.exf b hb).1, I'.ok.exfs b hb, .inl hb, fun x c e => (I'.ok.exf b hb).2 x c e, fun p hp z => by
      have hp : p = (a, o) := by simpa using hp
      subst hp
      exact hafp b hb z.symm⟩
  -- back in the def's context
  have back : ∀ {σ' : L2.St} {H' : Hp} {s' : Shared} {ps : List (Addr × Obj)}, Inv (gcx X s4 H3 sc ce fp a o B) ps σ' H' s' → Inv X pins σ H' s' := fun {σ' H' s' ps} I6 =>
    I4.call' (ch := fp) I6.os I6.base I6.hok I6.bare fun b hb => ⟨(ffp b hb).2.2.2.1, (ffp b hb).2.1, (ffp b hb).2.2.2.2.1, (ffp b hb).2.2.2.2.2⟩
  have isg : ∀ {σ' : L2.St} {H' : Hp} {s' : Shared} {ps : List (Addr × Obj)}, Inv (gcx X s4 H3 sc ce fp a o B) ps σ' H' s' → s'.heap.IsGen a g := fun {σ' H' s' ps} I6 => by
    obtain ⟨nm, qn, h1, h2, h3⟩ := hgo
    exact ⟨o, nm, qn, (I6.pin (a, o) (by simp)).1, h1, h2, h3⟩
  have hy : ∀ v, yieldOut ce v = yieldValue v := fun v => by simp only [yieldOut, hco, Bool.false_eq_true, if_false]
  intro m
  induction m using Nat.strongRecOn with
  | ind m ih =>
    intro n i s0 s H hmn I st nf w
    show Seg _ X.A.in1.in1 _ _ _ s0 _ ((compTurn (.GeneratorExp elt [⟨tg, iter, ifs, 0⟩] sc pos) 0 (.ref it) .none ce).onRaise (leaving ce)) [] s
    rw [compTurn_gen, Sem.onRaise_eq_wrap]
    refine seg_bind_wrap (wpAny_standAt ?_)
    rcases turn i m H w with ⟨stop, q⟩ | ⟨go, Nx, hNx, step⟩
    · refine seg_bind_wrap ?_
      rw [← hB]
      refine mono_no (T.done (gcx X s4 H3 sc ce fp a o B) rfl rfl rfl rfl i [] s _ H (fun _ _ => False) I (stat I nf) st stop) fun r s6 hr => ?_
      obtain ⟨hr, I6⟩ := hr
      subst hr
      exact seg_end (.ok .next) ⟨rfl, I6.bare, H, back I6, q⟩
    · refine seg_bind_wrap ?_
      rw [← hB]
      refine mono_no (T.item (gcx X s4 H3 sc ce fp a o B) rfl rfl rfl rfl i [] s _ H (fun _ _ => False) I (stat I nf) st go) fun r s6 hr => ?_
      obtain ⟨u, hr, h6⟩ := hr
      subst hr
      refine seg_bind_wrap ?_
      rw [← hB]
      refine mono_no h6 fun _ s7 h7 => ?_
      obtain ⟨x, H7, I7, r7, y7, st7, n7⟩ := h7
      have I7' := I7.pinned (stat I7 n7) (T.obj _ _ st7)
      refine seg_bind_wrap ?_
      rw [← hB]
      refine mono_no (pg.run _ s7 _ H7 x u _ I7' r7 (step x H7 y7)) fun _ s8 h8 => ?_
      obtain ⟨σ8, H8, I8, hw8, q8⟩ := h8
      refine seg_bind_wrap ?_
      rw [← hB]
      refine mono_no (pt.run _ s8 σ8 H8 _ I8 q8) fun b s9 h9 => ?_
      obtain ⟨H9, I9, q9⟩ := h9
      -- the turn's end
      have fin : ∀ {s' : Shared} {H' : Hp}, Inv (gcx X s4 H3 sc ce fp a o B) ([] ++ pinsAt fp s7.heap) σ8 H' s' → Nx H' → ∃ m', m' < m ∧ Inv (gcx X s4 H3 sc ce fp a o B) [] (wipe σ (own.map (·.2))) H' s' ∧ tn (i + 1) s'.heap ∧ (∀ b ∈ fp, H' b = none) ∧ W (i + 1) m' H' := fun {s' H'} I' nx => by
        obtain ⟨m', hm, w'⟩ := hNx H' nx
        have pin' : ∀ b ∈ fp, ∀ ob, s7.heap.get? b = some ob → s'.heap.get? b = some ob ∧ H' b = none := fun b hb ob e => by
          have z := I'.pin (b, ob) (List.mem_append_right _ (List.mem_append_right _ (mem_pinsAt hb e)))
          exact ⟨z.1, z.2.1⟩
        have hl : (wipe σ (own.map (·.2))).length = σ8.length := by rw [← hw8, wipe_length]
        refine ⟨m', hm, (I'.unpinned (pins := [])).weak hl (fun j v e => ?_), T.keep _ _ _ st7 fun b hb ob e => (pin' b hb ob e).1, fun b hb => ?_, w'⟩
        · rw [← hw8] at e
          exact (wipe_some e).1
        · obtain ⟨ob, e, _⟩ := T.obj _ _ st7 b hb
          exact (pin' b hb ob e).2
      cases b with
      | false =>
        simp only [Bool.false_eq_true, if_false] at q9 ⊢
        obtain ⟨m', hm, J1, J2, J3, J4⟩ := fin I9 q9
        exact seg_again rfl (ih m' hm n (i + 1) s0 s9 H9 (Nat.lt_trans hm hmn) J1 J2 J3 J4)
      | true =>
        simp only [if_true] at q9 ⊢
        simp only [hy]
        rw [Sem.bind_eq_wrap', Sem.bind_eq_wrap', Sem.wrap_wrap, Sem.wrap_wrap]
        refine seg_wrap ?_
        rw [← hB]
        refine mono_no (pe.run _ s9 σ8 H9 _ I9 q9) fun z s10 h10 => ?_
        obtain ⟨y, H10, I10, r10, c, rfl, c1, c2⟩ := h10
        obtain rfl : z = Value.bool c := r10
        obtain ⟨n', rfl⟩ : ∃ n', n = n' + 1 := ⟨n - 1, by omega⟩
        refine seg_at (seg_yield rfl rfl rfl ⟨c, rfl, isg I10, I10.nolimit, I10.bare, fun e => ⟨H10, back I10, c2 e⟩, fun e G hG => ?_⟩)
        obtain ⟨m', hm, J1, J2, J3, J4⟩ := fin I10 (c1 e)
        exact seg_again rfl (ih m' hm n' (i + 1) _ _ H10 (by omega) (inv_gens J1 hG) J2 J3 J4)

/-- .. from its start -/
theorem gen_begins (hB : B = X.A.in1.in1.over (.compLoop (.GeneratorExp elt [⟨tg, iter, ifs, 0⟩] sc pos) 0 (.ref it) .none ce) []) (hco : ce.scope.isCoroutine = false)
    (I4 : Inv X pins σ H3 s4) (T : Turn X.prog X.w X.K tg J fp it tn) (ffp : ∀ b ∈ fp, FpOk X pins H3 b) (hafp : ∀ b ∈ fp, b ≠ a) (hgo : ∃ nm qn, o.cls = .type "generator" ∧ o.data = .fields #[.int g 0, nm, qn] ∧ o.slots = #[])
    (pg : PG (gcx X s4 H3 sc ce fp a o B) tg gt) (pt : PTs (gcx X s4 H3 sc ce fp a o B) ifs tt) (pe : PE (gcx X s4 H3 sc ce fp a o B) elt te)
    (turn : ∀ i m H, W i m H → (J.stop i H ∧ Q (.bl k) H) ∨ (J.go i H ∧ ∃ Nx : Hp → Prop, (∀ H', Nx H' → ∃ m', m' < m ∧ W (i + 1) m' H') ∧ ∀ x H', J.yld i H x H' → gt x (wipe σ (own.map (·.2))) H' fun σ2 H2 => wipe σ2 (own.map (·.2)) = wipe σ (own.map (·.2)) ∧ tt σ2 H2 fun b H3 =>
      if b = true then te σ2 H3 fun y H4 => ∃ c, y = .bl c ∧ (c = k → Nx H4) ∧ (c = (!k) → Q (.bl (!k)) H4) else Nx H3))
    {m : Nat} {s0 s : Shared} {H : Hp} (I : Inv (gcx X s4 H3 sc ce fp a o B) [] (wipe σ (own.map (·.2))) H s) (st : tn 0 s.heap) (nf : ∀ b ∈ fp, H b = none) (w : W 0 m H) :
      Seg (model X.prog X.w) X.A.in1.in1 (GR1 X pins σ Q k) (GY1 X pins σ Q k a g) (m + 1) s0 (.compStart (.GeneratorExp elt [⟨tg, iter, ifs, 0⟩] sc pos) 0 (.ref it) .none ce)
        ((model X.prog X.w).den (.compStart (.GeneratorExp elt [⟨tg, iter, ifs, 0⟩] sc pos) 0 (.ref it) .none ce)) [] s := by
  have loop := gen_turns (W := W) hB hco I4 T ffp hafp hgo pg pt pe turn m (m + 1) 0 s0 s H (Nat.lt_succ_self m) I st nf w
  show Seg _ X.A.in1.in1 _ _ _ s0 _ ((compStart (.GeneratorExp elt [⟨tg, iter, ifs, 0⟩] sc pos) 0 (.ref it) .none ce).onRaise (leaving ce)) [] s
  unfold compStart
  rw [Sem.onRaise_eq_wrap]
  show Seg _ X.A.in1.in1 _ _ _ s0 _ ((ask >>= _).wrap _ _ _ _) [] s
  refine seg_bind_wrap (wpAny_askSetting ?_)
  split
  · exact seg_again rfl loop
  · first
      | exact seg_bind_wrap (wpAny_rule (seg_bind_wrap (wpAny_standAt (seg_bind_wrap (T.self _ 0 s _ _ st (seg_again rfl loop))))))
      | (refine seg_bind_wrap (wpAny_rule ?_); show Seg _ X.A.in1.in1 _ _ _ s0 _ ((standAt iter.pos >>= _).wrap _ _ _ _) [] s; exact seg_bind_wrap (wpAny_standAt (seg_bind_wrap (T.self _ 0 s _ _ st (seg_again rfl loop)))))
end

/-- the generator expression's own scope -/
structure GScp (X : Cx) (sc : Scope) (own : List (Str × Nat)) : Prop where
  co : sc.isCoroutine = false
  cell : ∀ y ∈ sc.names, y.2 ≠ .cell
  dot : sc.names.lookup (".0" : Str) = some NameKind.local
  blk : BlkOk X.N X.env.scope sc own

section
variable {X : Cx} {pins : List (Addr × Obj)} {σ : L2.St} {H : Hp} {s : Shared} {Q : VK} {k : Bool} {j : Nat} {c P : Addr} {sc : Scope} {own : List (Str × Nat)} {elt tg iter : Expr} {ifs : List Expr} {gpos p pos : Pos} {wi : TI} {gt : TG} {tt : TT} {te : TE}
theorem gen_room {X : Cx} {j : Nat} {code : Code} (hr : Room (j + 1) X.A) (h1 : code.weight = 1) (h2 : code.cUnits ≤ 3) : Room j (X.A.in1.in1.over code []) := by
  refine ⟨hr.hd, ?_, ?_⟩
  · have e : (X.A.in1.in1.over code []).depth = X.A.depth + 0 + code.weight := rfl
    have := hr.dp
    rw [e, h1]
    omega
  · have e : (X.A.in1.in1.over code []).units = X.A.units + 1 + 1 + 0 + code.cUnits := rfl
    have := hr.un
    rw [e]
    omega
theorem gen_frames {A : Around} {l : List Env} {ce : Env} {iv acc : Value} (h : A.frames = some l) : (A.in1.in1.over (.compLoop (.GeneratorExp elt [⟨tg, iter, ifs, 0⟩] sc gpos) 0 iv acc ce) []).frames = some (ce :: l) := by
  have e : A.in1.in1.frames = some l := h
  have e2 : (A.in1.in1.over (.compLoop (.GeneratorExp elt [⟨tg, iter, ifs, 0⟩] sc gpos) 0 iv acc ce) []).frames = pushEnvs (Code.envs (.compLoop (.GeneratorExp elt [⟨tg, iter, ifs, 0⟩] sc gpos) 0 iv acc ce)) (pushEnvs (envsOf []) A.in1.in1.frames) := rfl
  rw [e2, e]
  rfl
theorem gen_made {Q' : Value → Shared → Prop} (hr : Room (j + 1) X.A) (hN : X.N.Nodup) (TB : TabB X.base X.mg c P) (hcode : X.env.code = .ref c) (S : GScp X sc own) (hi : PI X tg iter wi)
    (hg : ∀ (s : Shared) (H : Hp) (cl : List (Str × Addr)) (C : Addr) (code : Value) (fp : List Addr) (a : Addr) (o : Obj) (B : Around), PG (gcx X s H sc (genEnv sc cl C code builtinsNs X.env) fp a o B) tg gt)
    (ht : ∀ (s : Shared) (H : Hp) (cl : List (Str × Addr)) (C : Addr) (code : Value) (fp : List Addr) (a : Addr) (o : Obj) (B : Around), Room j B → PTs (gcx X s H sc (genEnv sc cl C code builtinsNs X.env) fp a o B) ifs tt)
    (he : ∀ (s : Shared) (H : Hp) (cl : List (Str × Addr)) (C : Addr) (code : Value) (fp : List Addr) (a : Addr) (o : Obj) (B : Around), Room j B → PE (gcx X s H sc (genEnv sc cl C code builtinsNs X.env) fp a o B) elt te)
    (hs : ∀ v, genFold iter X.env v = pure v) (I : Inv X pins σ H s) (h : tGen k P wi gt tt te (own.map (·.2)) σ H Q) (hQ : ∀ a g n s5, Live X pins σ Q k a g n s5 → Q' (.ref a) s5) :
    wpAny (model X.prog X.w) X.A (eval (.GeneratorExp elt [⟨tg, iter, ifs, 0⟩] sc gpos) X.env) Q' X.xe s := by
  have hfree : ∀ y ∈ sc.names, y.2 = .free → ∃ c, X.env.cells.lookup y.1 = some c := fun y hy e => by
    rcases S.blk.free y hy e with k | k
    · exact I.ok.has _ (.inl k)
    · exact I.ok.has _ (.inr k)
  refine wpAny_GeneratorExp_make S.co (closure_ok hfree) S.cell S.dot S.blk.kind (by have := hr.dp; omega) ?_ hs
  refine thn (hi.run pins s σ H _ I h) fun xv s1 hx => thn hx fun itv s2 h2 => ?_
  obtain ⟨it, fp, tn, J, H2, rfl, I2, T, st2, f2, ⟨ps, hP, hTr⟩, q⟩ := h2
  have hPs : s2.heap.get? P = some { cls := .none, data := .fields ps } := I2.hok P _ hP
  have cd : PySem.W.CodeHd s2.heap c P := TB.code.keeps fun b u e => I2.bk b u e
  refine ⟨I2.nolimit, ?_⟩
  have nP : ∀ b, H2 b = none → b ≠ P := fun b e z => by
    rw [z, hP] at e
    cases e
  have szf : ∀ b ∈ fp, b < s2.heap.objs.size := fun b hb => by
    obtain ⟨u, e, _⟩ := T.obj _ _ st2 b hb
    exact Heap.lt_size e
  have cont : ∀ (code : Value) (h3 : Heap) (tk : Nat) (ps' : Array Value), Heap.ExtBut P s2.heap h3 → s2.heap.objs.size ≤ h3.objs.size → h3.get? P = some { cls := .none, data := .fields ps' } → (∃ more, ps' = ps ++ more) → TriplesOk ps'.toList →
      wpAny (model X.prog X.w) X.A (builtinsFor X.env.globals X.env.builtins) (fun bi s₄ =>
        ∀ h', h'.Ns s₄.heap.objs.size (fun y => if y = ".0" then some (.ref it) else none) → Heap.SameBut s₄.heap.objs.size (s₄.heap.push { cls := .type "frame", data := .dict #[] }) h' →
          Q' (.ref h'.objs.size) { s₄ with
            gens := s₄.gens.push (.fresh (.compStart (.GeneratorExp elt [⟨tg, iter, ifs, 0⟩] sc gpos) 0 (.ref it) .none (genEnv sc (cloFrom X.env.cells sc.names []) s₄.heap.objs.size code bi X.env))),
            toks := s₄.toks + 1 + 1 + 1,
            heap := h'.push { cls := .type "generator", data := .fields #[.int s₄.gens.size 0, .str "<genexpr>" (s₄.toks + 1), .str (X.env.qual ++ "<genexpr>") (s₄.toks + 1 + 1)] } }) X.xe { s2 with heap := h3, toks := tk } := by
    intro code h3 tk ps' hx3 hsz3 hP3 hmore ht3
    have I3 : Inv X pins σ (upd H2 P (.tbl ps')) { s2 with heap := h3, toks := tk } := by
      obtain ⟨more, rfl⟩ := hmore
      exact inv_tab (more := more) (h' := h3) (g' := s2.gens) (d' := s2.drawn) (t' := tk) I2 hP (fun b u hb e => hx3 b u hb e) hP3 I2.bare
    generalize hH3 : upd H2 P (.tbl ps') = H3 at I3
    have hT3 : Tabbed P H2 H3 := by
      rw [← hH3]
      exact ⟨⟨ps', upd_same, ht3⟩, fun b hb => upd_ne hb⟩
    obtain ⟨W, ⟨m0, w0⟩, turn⟩ := q H3 hT3
    obtain ⟨bm, ob, e1, e2, e3, e4, e5, e6, e7, e8⟩ := TB.bm
    refine wpAny_builtinsFor (m := X.mg) (by rw [I3.ok.glob]; exact I3.mod.glob.keeps I3.bk) e1 e2 (I3.bk _ _ e5) e6 e7 e8 ?_
    intro h' hn' hs'
    have hsz : h'.objs.size = h3.objs.size + 1 := by
      rw [hs'.1, Heap.size_push]
    have keep' : ∀ b u, h3.get? b = some u → h'.get? b = some u := fun b u e => hs'.extBut b u (Nat.ne_of_lt (Heap.lt_size e)) (Heap.get?_push_of_some _ e)
    have hlt : h3.objs.size < h'.objs.size := by
      have hsz' : h'.objs.size = h3.objs.size + 1 := hsz
      omega
    have f3 : ∀ b ∈ fp, FpOk X pins H3 b := fun b hb => by
      have z := f2 b hb
      exact ⟨(hT3.2 b (nP b z.1)).trans z.1, z.2⟩
    have st3 : tn 0 h3 := T.keep _ _ _ st2 fun b hb u e => hx3 b u (nP b (f2 b hb).1) e
    have gb : AllBare (s2.gens.push (.fresh (.compStart (.GeneratorExp elt [⟨tg, iter, ifs, 0⟩] sc gpos) 0 (.ref it) .none (genEnv sc (cloFrom X.env.cells sc.names []) h3.objs.size code builtinsNs X.env)))) := I2.bare.push rfl
    have hsz2 : ∀ b ∈ fp, b < h3.objs.size := fun b hb => Nat.lt_of_lt_of_le (szf b hb) hsz3
    have keep5 : ∀ (u : Obj) b v, h3.get? b = some v → (h'.push u).get? b = some v := fun u b v e => Heap.get?_push_of_some _ (keep' b v e)
    refine hQ _ s2.gens.size (m0 + 1) _ ⟨⟨_, _, _, Heap.get?_push_size _ rfl, rfl, rfl, rfl⟩, I3.nolimit.keeps (keep5 _), gb, _, Array.getElem?_push_size .., rfl, ?_⟩
    refine gen_begins (own := own) (fp := fp) (tn := tn) (J := J) (W := W) (H3 := H3) (s4 := { s2 with heap := h3, toks := tk }) rfl S.co I3 T f3 (fun b hb z => ?_) ⟨_, _, rfl, rfl, rfl⟩ (hg _ _ _ _ _ _ _ _ _) (ht _ _ _ _ _ _ _ _ _ (gen_room hr rfl (by show (3 : Nat) ≤ 3; decide))) (he _ _ _ _ _ _ _ _ _ (gen_room hr rfl (by show (3 : Nat) ≤ 3; decide))) turn
      (inv_gens (gen_start (s' := { s2 with heap := h'.push _, toks := tk + 1 + 1 + 1, gens := s2.gens.push _ }) (a := h'.objs.size) I3 S.blk S.cell hN (fun b hb => ⟨f3 b hb, hsz2 b hb⟩) rfl rfl rfl rfl rfl rfl ?_ hr.hd rfl gb (keep5 _) ⟨_, Heap.Ns.push hn' _⟩ (Heap.get?_push_size _ rfl) hlt (fun v z => by cases z)) (allBare_setGen (s := { s2 with heap := h'.push _, toks := tk + 1 + 1 + 1, gens := s2.gens.push _ }) gb rfl))
      (T.keep _ _ _ st3 fun b hb u e => keep5 _ b u e) (fun b hb => (f3 b hb).1) w0
    · have h1 := hsz2 b hb
      rw [z] at h1
      exact absurd (Nat.lt_trans h1 hlt) (Nat.lt_irrefl _)
    · exact gen_frames I3.ok.frames
  cases hf : codeAmong gpos ps.toList with
  | none =>
    refine wpAny_genexprCodeX hcode (cd.code hPs hTr) (cd.tab hPs) hf fun c' h' tk hx hge hlt hco' _ htab' _ => ?_
    obtain ⟨o1, vs, f1, tf, fl, tg1, inF, tx, tt1, op, _, _, _, _, _, _, _, _, _, htr, _⟩ := hco'
    exact cont _ h' tk _ hx (Nat.le_trans hge (Nat.le_of_lt hlt)) htab'.2 ⟨_, rfl⟩ htr
  | some cv =>
    refine wpAny_genexprCode_hit hcode (cd.code hPs hTr) hf ?_
    exact cont cv s2.heap s2.toks ps (Heap.ExtBut.refl _ _) (Nat.le_refl _) hPs ⟨#[], by simp⟩ hTr

/-- all(elt for tg in iter if ..) -/
theorem pe_allG (hr : Room (j + 1) X.A) (hN : X.N.Nodup) (hgl : Gl X "all") (hm : X.mg "all" = none) (hb : bootBuiltins "all" = some (.builtin "all")) (TB : TabB X.base X.mg c P) (hcode : X.env.code = .ref c) (S : GScp X sc own) (hi : PI X tg iter wi)
    (hg : ∀ (s : Shared) (H : Hp) (cl : List (Str × Addr)) (C : Addr) (code : Value) (fp : List Addr) (a : Addr) (o : Obj) (B : Around), PG (gcx X s H sc (genEnv sc cl C code builtinsNs X.env) fp a o B) tg gt)
    (ht : ∀ (s : Shared) (H : Hp) (cl : List (Str × Addr)) (C : Addr) (code : Value) (fp : List Addr) (a : Addr) (o : Obj) (B : Around), Room j B → PTs (gcx X s H sc (genEnv sc cl C code builtinsNs X.env) fp a o B) ifs tt)
    (he : ∀ (s : Shared) (H : Hp) (cl : List (Str × Addr)) (C : Addr) (code : Value) (fp : List Addr) (a : Addr) (o : Obj) (B : Around), Room j B → PE (gcx X s H sc (genEnv sc cl C code builtinsNs X.env) fp a o B) elt te)
    (hs : ∀ v, genFold iter X.env v = pure v := by intro _; rfl)
    (hst : starEach [.GeneratorExp elt [⟨tg, iter, ifs, 0⟩] sc gpos] X.env = (false, eval (.GeneratorExp elt [⟨tg, iter, ifs, 0⟩] sc gpos) X.env) :: starEach [] X.env := by rfl) :
    PE X (.Call (.Name "all" p) [.GeneratorExp elt [⟨tg, iter, ifs, 0⟩] sc gpos] [] pos) (tGen true P wi gt tt te (own.map (·.2))) := by
  refine ⟨fun pins s σ H Q I h => ?_⟩
  refine wpAny_Call_Name_kw (ld_blt I hgl hm hb ?_)
  refine PyProof.Rows.callWith_builtin1 ?_ hst (by rfl)
  rw [hst]
  show wpAny _ _ (spliced ((false, eval (.GeneratorExp elt [⟨tg, iter, ifs, 0⟩] sc gpos) X.env) :: backTo pos (starEach [] X.env))) _ _ s
  refine Calls.spliced_cons (gen_made hr hN TB hcode S hi hg ht he hs I h fun a g n s5 hL => ?_)
  refine Calls.spliced_nil ?_
  refine call_all_live hr.hd (by have := hr.dp; omega) hL fun b s' hf => ?_
  obtain ⟨H', I', q⟩ := hf
  exact ⟨.bl b, H', I', rfl, q⟩
/-- any(elt for tg in iter if ..) -/
theorem pe_anyG (hr : Room (j + 1) X.A) (hN : X.N.Nodup) (hgl : Gl X "any") (hm : X.mg "any" = none) (hb : bootBuiltins "any" = some (.builtin "any")) (TB : TabB X.base X.mg c P) (hcode : X.env.code = .ref c) (S : GScp X sc own) (hi : PI X tg iter wi)
    (hg : ∀ (s : Shared) (H : Hp) (cl : List (Str × Addr)) (C : Addr) (code : Value) (fp : List Addr) (a : Addr) (o : Obj) (B : Around), PG (gcx X s H sc (genEnv sc cl C code builtinsNs X.env) fp a o B) tg gt)
    (ht : ∀ (s : Shared) (H : Hp) (cl : List (Str × Addr)) (C : Addr) (code : Value) (fp : List Addr) (a : Addr) (o : Obj) (B : Around), Room j B → PTs (gcx X s H sc (genEnv sc cl C code builtinsNs X.env) fp a o B) ifs tt)
    (he : ∀ (s : Shared) (H : Hp) (cl : List (Str × Addr)) (C : Addr) (code : Value) (fp : List Addr) (a : Addr) (o : Obj) (B : Around), Room j B → PE (gcx X s H sc (genEnv sc cl C code builtinsNs X.env) fp a o B) elt te)
    (hs : ∀ v, genFold iter X.env v = pure v := by intro _; rfl)
    (hst : starEach [.GeneratorExp elt [⟨tg, iter, ifs, 0⟩] sc gpos] X.env = (false, eval (.GeneratorExp elt [⟨tg, iter, ifs, 0⟩] sc gpos) X.env) :: starEach [] X.env := by rfl) :
    PE X (.Call (.Name "any" p) [.GeneratorExp elt [⟨tg, iter, ifs, 0⟩] sc gpos] [] pos) (tGen false P wi gt tt te (own.map (·.2))) := by
  refine ⟨fun pins s σ H Q I h => ?_⟩
  refine wpAny_Call_Name_kw (ld_blt I hgl hm hb ?_)
  refine PyProof.Rows.callWith_builtin1 ?_ hst (by rfl)
  rw [hst]
  show wpAny _ _ (spliced ((false, eval (.GeneratorExp elt [⟨tg, iter, ifs, 0⟩] sc gpos) X.env) :: backTo pos (starEach [] X.env))) _ _ s
  refine Calls.spliced_cons (gen_made hr hN TB hcode S hi hg ht he hs I h fun a g n s5 hL => ?_)
  refine Calls.spliced_nil ?_
  refine call_any_live hr.hd (by have := hr.dp; omega) hL fun b s' hf => ?_
  obtain ⟨H', I', q⟩ := hf
  exact ⟨.bl b, H', I', rfl, q⟩
end
end Rd

namespace Rd
open PySem PySem.Spec PyProof.Rows L2 GxR

/-! ### heaps: all that was tracked is as it was, but for the tables of the defs that hold a generator expression -/
def Tb (Ps : List Addr) (H : Hp) : Prop := ∀ P ∈ Ps, TabG H P
def Kp (Ps : List Addr) (H H' : Hp) : Prop := Tb Ps H' ∧ ∀ b o, b ∉ Ps → H b = some o → H' b = some o
theorem Kp.refl {Ps : List Addr} {H : Hp} (t : Tb Ps H) : Kp Ps H H := ⟨t, fun _ _ _ e => e⟩
theorem Kp.trans {Ps : List Addr} {H H1 H2 : Hp} (a : Kp Ps H H1) (b : Kp Ps H1 H2) : Kp Ps H H2 := ⟨b.1, fun c o hc e => b.2 c o hc (a.2 c o hc e)⟩
theorem Tb.notin {Ps : List Addr} {H : Hp} (t : Tb Ps H) {b : Addr} {o : HO} (e : H b = some o) (ho : ∀ ps, o ≠ .tbl ps) : b ∉ Ps := fun hb => by
  obtain ⟨ps, h1, _⟩ := t b hb
  rw [e] at h1
  exact ho ps (Option.some.inj h1)
theorem Tb.none {Ps : List Addr} {H : Hp} (t : Tb Ps H) {b : Addr} (e : H b = Option.none) : b ∉ Ps := fun hb => by
  obtain ⟨ps, h1, _⟩ := t b hb
  rw [e] at h1
  cases h1
theorem Tb.same {Ps : List Addr} {H H' : Hp} (t : Tb Ps H) (s : Same H H') : Tb Ps H' := fun P hP => by
  obtain ⟨ps, h1, h2⟩ := t P hP
  exact ⟨ps, s _ _ h1, h2⟩
theorem Kp.same {Ps : List Addr} {H H' : Hp} (t : Tb Ps H) (s : Same H H') : Kp Ps H H' := ⟨t.same s, fun b o _ e => s b o e⟩
theorem Kp.at {Ps : List Addr} {H H' : Hp} (t : Tb Ps H) (k : Kp Ps H H') {b : Addr} {o : HO} (e : H b = some o) (ho : ∀ ps, o ≠ .tbl ps) : H' b = some o := k.2 b o (t.notin e ho) e
theorem Kp.seq {Ps : List Addr} {H H' : Hp} {K : PySem.W.Frag} {a : Addr} {xs : List V} (t : Tb Ps H) (k : Kp Ps H H') (h : SqL K H a xs) : SqL K H' a xs := by
  rcases h with (h | ⟨o, h⟩) | h
  · exact .inl (.inl (k.at t h fun _ z => by cases z))
  · exact .inl (.inr ⟨o, k.at t h fun _ z => by cases z⟩)
  · exact .inr h
theorem Kp.seqT {Ps : List Addr} {H H' : Hp} {K : PySem.W.Frag} {a : Addr} {xs : List V} (t : Tb Ps H) (k : Kp Ps H H') (h : SqT K H a xs) : SqT K H' a xs := by
  rcases h with (h | ⟨o, h⟩) | h
  · exact .inl (.inl (k.at t h fun _ z => by cases z))
  · exact .inl (.inr ⟨o, k.at t h fun _ z => by cases z⟩)
  · exact .inr h
theorem same_upd {H : Hp} {p : Addr} {o : HO} (h : H p = Option.none) : Same H (upd H p o) := fun b x e => by
  rw [upd_ne (ne_of_none e h)]
  exact e
theorem Kp.new {Ps : List Addr} {H : Hp} (t : Tb Ps H) {p : Addr} {o : HO} (h : H p = Option.none) : Kp Ps H (upd H p o) := Kp.same t (same_upd h)
theorem Kp.tab {Ps : List Addr} {P : Addr} {H H' : Hp} (t : Tb Ps H) (hP : P ∈ Ps) (h : Tabbed P H H') : Kp Ps H H' := by
  refine ⟨fun p hp => ?_, fun b o hb e => ?_⟩
  · by_cases z : p = P
    · rw [z]
      exact h.1
    · obtain ⟨ps, h1, h2⟩ := t p hp
      exact ⟨ps, (h.2 p z).trans h1, h2⟩
  · have z : b ≠ P := fun z => hb (by rw [z]; exact hP)
    exact (h.2 b z).trans e
/-- what was free before is free or new -/
theorem Kp.free {Ps : List Addr} {H H' : Hp} (t : Tb Ps H) (k : Kp Ps H H') {l : Addr} (h : H' l = Option.none) : H l = Option.none := by
  cases q : H l with
  | none => rfl
  | some o =>
    by_cases hl : l ∈ Ps
    · obtain ⟨ps, h1, _⟩ := k.1 l hl
      rw [h] at h1
      cases h1
    · rw [k.2 l o hl q] at h
      cases h

/-! ### a def whose code object is known -/
theorem okC {CX : CXT} {P : Program} {w : World} {K : PySem.W.Frag} {mg : Str → Option Value} {base : Heap} {x qual : Str} {params : Arguments} {body : List Stmt} {scope : Scope} {f : Addr} {fd : FuncData} {N ps : List Str} {k : Nat} {sp : Sp} {p : He.Defn}
    (F : FunD K x qual params body scope [] [] f fd) (hf : f = He.fAd K p) (S : FnScope N ps scope) (len : ∀ vs H Q E, sp vs H Q E → vs.length = ps.length)
    (hbody : ∀ (A : Around) (outer : List Env) (s : Shared) (H : Hp) (vs : List V) (Q : VK) (E : XK), Room k (A.deeper (envOfC qual scope s.heap.objs.size f (.ref (He.codeOf K p)))) → sp vs H Q E →
      ∃ t, PSs (cxOf CX P w K mg base N qual scope f (.ref (He.codeOf K p)) A outer s H E) body t ∧ t { nx := fun _ H' => Q .non H', rt := Q } (start N vs) H) : FnOk P w K mg base CX (k + 1) f fd ps sp := by
  obtain ⟨oc, od, dV, kV, doc, pm, an, cdv, ct, osl, rfl, lk, hcd, _, _⟩ := F.ex
  obtain ⟨c, rfl⟩ := He.codeIn_ref hcd
  have e : He.codeOf K p = c := He.codeOf_eq (by rw [← hf]; exact lk) rfl
  rw [e] at hbody
  exact fn_of lk hcd S len fun A outer s H vs Q E hr hsp => hbody A outer s H vs Q E hr hsp

/-! ### readings of generator expressions -/
theorem take_all {α : Type} {l : List α} {pb : α → Bool} {i : Nat} {x : α} (h : l[i]? = some x) (ht : (l.take i).all pb = true) : (l.take (i + 1)).all pb = pb x := by
  rw [List.take_add_one, List.all_append, ht, h]
  simp
theorem all_fail {α : Type} {l : List α} {pb : α → Bool} {i : Nat} {x : α} (h : l[i]? = some x) (hx : pb x = false) : l.all pb = false := by
  cases e : l.all pb with
  | false => rfl
  | true =>
    have := List.all_eq_true.mp e x (List.mem_of_getElem? h)
    rw [hx] at this
    cases this
/-- all(.. for x in text) -/
theorem read_all_str {x : Str} {pb : Nat → Bool} {Pv : Hp → Prop} {g : TG} {te : TE} {vs : List Nat} {σ : L2.St} {H2 : Hp} {Q : VK} (h0 : Pv H2)
    (he : ∀ (i c : Nat) (H : Hp) (R : V → Hp → Prop), x.cps.toList[i]? = some c → Pv H → (∀ H4, Pv H4 → R (.bl (pb c)) H4) → g (.str ⟨#[c]⟩) (wipe σ vs) H fun σ2 H2 => wipe σ2 vs = wipe σ vs ∧ te σ2 H2 R) (hd : ∀ H, Pv H → Q (.bl (x.cps.toList.all pb)) H) :
    ∃ W : Nat → Nat → Hp → Prop, (∃ m, W 0 m H2) ∧ ∀ i m H, W i m H →
      ((Its x).stop i H ∧ Q (.bl true) H) ∨ ((Its x).go i H ∧ ∃ Nx : Hp → Prop, (∀ H', Nx H' → ∃ m', m' < m ∧ W (i + 1) m' H') ∧ ∀ v H', (Its x).yld i H v H' → g v (wipe σ vs) H' fun σ2 H2 => wipe σ2 vs = wipe σ vs ∧ tYes σ2 H2 fun b H3 =>
        if b = true then te σ2 H3 fun y H4 => ∃ c, y = .bl c ∧ (c = true → Nx H4) ∧ (c = (!true) → Q (.bl (!true)) H4) else Nx H3) := by
  have esz : x.cps.size = x.cps.toList.length := by simp
  refine ⟨fun i m H => m = x.cps.size - i ∧ i ≤ x.cps.size ∧ Pv H ∧ (x.cps.toList.take i).all pb = true, ⟨x.cps.size, by simp, Nat.zero_le _, h0, rfl⟩, ?_⟩
  rintro i m H ⟨rfl, hi, hp, ha⟩
  by_cases hlt : i < x.cps.size
  · refine .inr ⟨hlt, fun H' => Pv H' ∧ (x.cps.toList.take (i + 1)).all pb = true, fun H' q => ⟨x.cps.size - (i + 1), by omega, rfl, hlt, q⟩, fun v H' y => ?_⟩
    obtain ⟨rfl, c, hc, rfl⟩ := y
    have hc' : x.cps.toList[i]? = some c := by rw [Array.getElem?_toList]; exact hc
    refine he i c H' _ hc' hp fun H4 p4 => ⟨pb c, rfl, fun z => ⟨p4, ?_⟩, fun z => ?_⟩
    · rw [take_all hc' ha]
      exact z
    · have z : pb c = false := z
      have q5 := hd H4 p4
      rw [all_fail hc' z] at q5
      exact q5
  · have e : i = x.cps.size := by omega
    subst e
    refine .inl ⟨Nat.le_refl _, ?_⟩
    have q := hd H hp
    rw [List.take_of_length_le (by omega)] at ha
    rw [ha] at q
    exact q
/-- all(.. for x in xs), xs a tuple -/
theorem read_all_tup {K : PySem.W.Frag} {a : Addr} {xs : List V} {pb : V → Bool} {Pv : Hp → Prop} {g : TG} {te : TE} {vs : List Nat} {σ : L2.St} {H2 : Hp} {Q : VK} (h0 : Pv H2) (hl : ∀ H, Pv H → SqT K H a xs)
    (he : ∀ (i : Nat) (v : V) (H : Hp) (R : V → Hp → Prop), xs[i]? = some v → Pv H → (∀ H4, Pv H4 → R (.bl (pb v)) H4) → g v (wipe σ vs) H fun σ2 H2 => wipe σ2 vs = wipe σ vs ∧ te σ2 H2 R) (hd : ∀ H, Pv H → Q (.bl (xs.all pb)) H) :
    ∃ W : Nat → Nat → Hp → Prop, (∃ m, W 0 m H2) ∧ ∀ i m H, W i m H →
      ((Itt K a).stop i H ∧ Q (.bl true) H) ∨ ((Itt K a).go i H ∧ ∃ Nx : Hp → Prop, (∀ H', Nx H' → ∃ m', m' < m ∧ W (i + 1) m' H') ∧ ∀ v H', (Itt K a).yld i H v H' → g v (wipe σ vs) H' fun σ2 H2 => wipe σ2 vs = wipe σ vs ∧ tYes σ2 H2 fun b H3 =>
        if b = true then te σ2 H3 fun y H4 => ∃ c, y = .bl c ∧ (c = true → Nx H4) ∧ (c = (!true) → Q (.bl (!true)) H4) else Nx H3) := by
  refine ⟨fun i m H => m = xs.length - i ∧ i ≤ xs.length ∧ Pv H ∧ (xs.take i).all pb = true, ⟨xs.length, by simp, Nat.zero_le _, h0, rfl⟩, ?_⟩
  rintro i m H ⟨rfl, hi, hp, ha⟩
  by_cases hlt : i < xs.length
  · refine .inr ⟨⟨xs, xs[i], hl H hp, List.getElem?_eq_getElem hlt⟩, fun H' => Pv H' ∧ (xs.take (i + 1)).all pb = true, fun H' q => ⟨xs.length - (i + 1), by omega, rfl, hlt, q⟩, fun v H' y => ?_⟩
    obtain ⟨rfl, y⟩ := y
    have hc' : xs[i]? = some v := y xs (hl H' hp)
    refine he i v H' _ hc' hp fun H4 p4 => ⟨pb v, rfl, fun z => ⟨p4, ?_⟩, fun z => ?_⟩
    · rw [take_all hc' ha]
      exact z
    · have z : pb v = false := z
      have q5 := hd H4 p4
      rw [all_fail hc' z] at q5
      exact q5
  · have e : i = xs.length := by omega
    subst e
    refine .inl ⟨⟨xs, hl H hp, Nat.le_refl _⟩, ?_⟩
    have q := hd H hp
    rw [List.take_of_length_le (Nat.le_refl _)] at ha
    rw [ha] at q
    exact q
end Rd

namespace Rd
open PySem PySem.Spec PyProof.Rows L2 GxR
open C8 (pss_cut tCut)
/-! ### words, plainly -/
theorem one_lt (a b : Nat) : decide (([a] : List Nat) < [b]) = decide (a < b) := by
  by_cases h : a < b
  · rw [decide_eq_true h]
    exact decide_eq_true (List.cons_lt_cons_iff.mpr (.inl h))
  · rw [decide_eq_false h]
    refine decide_eq_false fun z => ?_
    rcases List.cons_lt_cons_iff.mp z with z | ⟨_, z⟩
    · exact h z
    · exact List.not_lt_nil _ z
def signB (c : Nat) : Bool := (!decide (c < 33) && !decide (36 < c)) || (!decide (c < 38) && !decide (126 < c))
def wordB (a : Str) : Bool := decide ((1 : Int) ≤ (a.length : Int)) && (decide ((a.length : Int) ≤ 40) && a.cps.toList.all signB)
theorem wordB_len {a : Str} (h : wordB a = true) : 1 ≤ a.length ∧ a.length ≤ 40 := by
  unfold wordB at h
  rw [Bool.and_eq_true, Bool.and_eq_true] at h
  obtain ⟨h1, h2, _⟩ := h
  have h1 := of_decide_eq_true h1
  have h2 := of_decide_eq_true h2
  omega
theorem wordB_signs {a : Str} (h : wordB a = true) : ∀ c ∈ a.cps.toList, signB c = true := by
  unfold wordB at h
  rw [Bool.and_eq_true, Bool.and_eq_true] at h
  exact List.all_eq_true.mp h.2.2
theorem small_line {n : Nat} (h : n ≤ 1000000) : n ≤ sizeLine := Nat.le_trans h (by decide)
theorem tyL {K : PySem.W.Frag} {H : Hp} {a : Addr} {xs : List V} (h : SqL K H a xs) : TyX K H (.ref a) (.type "list") := by
  rcases h with (h | ⟨o, h⟩) | ⟨o, its, n, e, c, _⟩
  · exact .base (.lst h)
  · exact .base (.frz h)
  · exact .kList e c
theorem tyT {K : PySem.W.Frag} {H : Hp} {a : Addr} {xs : List V} (h : SqT K H a xs) : TyX K H (.ref a) (.type "tuple") := by
  rcases h with (h | ⟨o, h⟩) | ⟨o, its, n, e, c, _⟩
  · exact .base (.tup h)
  · exact .fTuple h
  · exact .kTuple e c
theorem for_enum {K : PySem.W.Frag} {a : Addr} {xs : List V} {g : TG} {tb : TS} {D : Ends} {σ : L2.St} {H : Hp} (Pv : Nat → L2.St → Hp → Prop) (h0 : Pv 0 σ H) (hl : ∀ i σ H, i ≤ xs.length → Pv i σ H → SqL K H a xs)
    (hs : ∀ (i : Nat) (x : V) (T : Addr) (σ : L2.St) (H : Hp), xs[i]? = some x → H T = none → Pv i σ H → g (.ref T) σ (upd H T (.tup [.int (i : Nat), x])) fun σ2 H2 => tb { D with nx := Pv (i + 1), ct := Pv (i + 1), bk := D.nx } σ2 H2) (hd : ∀ σ H, Pv xs.length σ H → D.nx σ H) :
    ∃ W : Nat → Nat → L2.St → Hp → Prop, (∃ m, W 0 m σ H) ∧ ∀ i m σ H, W i m σ H →
      ((Ite K a).stop i H ∧ D.nx σ H) ∨ ((Ite K a).go i H ∧ ∃ N : L2.St → Hp → Prop, (∀ σ' H', N σ' H' → ∃ m', m' < m ∧ W (i + 1) m' σ' H') ∧ ∀ x H', (Ite K a).yld i H x H' → g x σ H' fun σ2 H2 => tb { D with nx := N, ct := N, bk := D.nx } σ2 H2) := by
  refine ⟨fun i m σ H => m = xs.length - i ∧ i ≤ xs.length ∧ Pv i σ H, ⟨xs.length, by simp, Nat.zero_le _, h0⟩, ?_⟩
  rintro i m σ H ⟨rfl, hi, p⟩
  have q := hl i σ H hi p
  by_cases hlt : i < xs.length
  · refine .inr ⟨⟨xs, xs[i], q, by simp [hlt]⟩, Pv (i + 1), fun σ' H' p' => ⟨xs.length - (i + 1), by omega, rfl, hlt, p'⟩, fun x H' y => ?_⟩
    obtain ⟨T, z, rfl, nT, rfl, hz⟩ := y
    exact hs i z T σ H (hz xs q) nT p
  · have e : i = xs.length := by omega
    subst e
    exact .inl ⟨⟨xs, q, Nat.le_refl _⟩, hd σ H p⟩
theorem yesT {σ : L2.St} {H : Hp} {f g : Hp → Prop} (h : f H) : tYes σ H fun b H3 => if b = true then f H3 else g H3 := by
  show if true = true then f H else g H
  exact iteT h
def top (i : Nat) : Stmt := PySem.Challenge.pw_redraft_k01_words_of_a_line.main.body.getD i (.Pass ⟨0, 0, 0, 0⟩)
abbrev sIsSign : Stmt := top 7
abbrev sIsWord : Stmt := top 8
abbrev sCheckWords : Stmt := top 9
abbrev sCheckLength : Stmt := top 10
abbrev sCheckText : Stmt := top 11
abbrev sParted : Stmt := top 12
abbrev sJoined : Stmt := top 13
abbrev sCellAt : Stmt := top 15
abbrev sSignBy : Stmt := top 16
abbrev sWordBy : Stmt := top 17
abbrev sAlike : Stmt := top 18
abbrev sGap : Stmt := top 19
abbrev sLaw : Stmt := top 20
/-! ### the program's words -/
section
variable {P : Program} {w : World} {K : PySem.W.Frag} {mg : Str → Option Value} {base : Heap}
abbrev FnP (K : PySem.W.Frag) (x : Str) (st : Stmt) (f : Addr) (fd : FuncData) : Prop := FunD K x x (defArgs st) (defBody st) (defScope st) [] [] f fd
theorem scIsSign : FnScope ["sign"] ["sign"] (defScope sIsSign) := ⟨rfl, rfl, rfl, by decide +kernel, rfl, by decide +kernel, by decide +kernel⟩
theorem scIsWord : FnScope ["word", "sign"] ["word"] (defScope sIsWord) := ⟨rfl, rfl, rfl, by decide +kernel, rfl, by decide +kernel, by decide +kernel⟩
theorem scCheckWords : FnScope ["words", "at", "word"] ["words"] (defScope sCheckWords) := ⟨rfl, rfl, rfl, by decide +kernel, rfl, by decide +kernel, by decide +kernel⟩
theorem scCheckLength : FnScope ["words"] ["words"] (defScope sCheckLength) := ⟨rfl, rfl, rfl, by decide +kernel, rfl, by decide +kernel, by decide +kernel⟩
theorem scCheckText : FnScope ["words"] ["words"] (defScope sCheckText) := ⟨rfl, rfl, rfl, by decide +kernel, rfl, by decide +kernel, by decide +kernel⟩
def spIsSign : Sp := fun vs H Q _ => ∃ c : Nat, vs = [.str ⟨#[c]⟩] ∧ Q (.bl (signB c)) H
theorem ok_is_sign {f : Addr} {fd : FuncData} (F : FnP K "is_sign" sIsSign f fd) : FnOk P w K mg base (L2.CX P w) 1 f fd ["sign"] spIsSign := by
  refine F.ok scIsSign (fun vs H Q E h => ?_) (fun cdv A outer s H vs Q E hr h => ?_)
  · obtain ⟨c, rfl, _⟩ := h
    rfl
  · obtain ⟨c, rfl, q⟩ := h
    refine ⟨_, pss_one (ps_ret (pe_or (pe_chain op_le_str op_le_str pe_str (pv 0) pe_str) (pe_one (pe_chain op_le_str op_le_str pe_str (pv 0) pe_str)))), ?_⟩
    have k1 : ("!" : Str).cps.toList = [33] := by decide +kernel
    have k2 : ("$" : Str).cps.toList = [36] := by decide +kernel
    have k3 : ("&" : Str).cps.toList = [38] := by decide +kernel
    have k4 : ("~" : Str).cps.toList = [126] := by decide +kernel
    have kc : (⟨#[c]⟩ : Str).cps.toList = [c] := rfl
    refine ⟨_, rfl, _, _, rfl, rfl, _, rfl, ?_⟩
    rw [k1, kc, one_lt]
    unfold signB at q
    by_cases h1 : c < 33
    · rw [decide_eq_true h1] at q ⊢
      refine iteF ⟨_, rfl, iteF ⟨_, rfl, _, _, rfl, rfl, _, rfl, ?_⟩⟩
      rw [k3, kc, one_lt]
      by_cases h3 : c < 38
      · rw [decide_eq_true h3] at q ⊢
        exact iteF q
      · omega
    · rw [decide_eq_false h1] at q ⊢
      refine iteT ⟨_, _, rfl, rfl, ?_⟩
      rw [k2, kc, one_lt]
      by_cases h2 : 36 < c
      · rw [decide_eq_true h2] at q ⊢
        refine ⟨_, rfl, iteF ⟨_, rfl, _, _, rfl, rfl, _, rfl, ?_⟩⟩
        rw [k3, kc, one_lt]
        by_cases h3 : c < 38
        · rw [decide_eq_true h3] at q ⊢
          exact iteF q
        · rw [decide_eq_false h3] at q ⊢
          refine iteT ⟨_, _, rfl, rfl, ?_⟩
          rw [k4, kc, one_lt]
          exact q
      · rw [decide_eq_false h2] at q ⊢
        exact ⟨_, rfl, iteT q⟩

def spIsWord (Ps : List Addr) : Sp := fun vs H Q _ => ∃ a : Str, vs = [.str a] ∧ a.length ≤ sizeLine ∧ Tb Ps H ∧ ∀ H', Kp Ps H H' → Q (.bl (wordB a)) H'
theorem ok_is_word {Ps : List Addr} {f fS Pw : Addr} {fd fdS : FuncData} (F : FnP K "is_word" sIsWord f fd) (hf : f = He.fAd K ("is_word", none)) (hPw : Pw ∈ Ps) (TB : GxR.TabB base mg (He.codeOf K ("is_word", none)) Pw)
    (FS : FnP K "is_sign" sIsSign fS fdS) (bS : Binds K fdS ["sign"] []) (gS : mg "is_sign" = some (.ref fS)) (mI : mg "isinstance" = none) (mS : mg "str" = none) (mL : mg "len" = none) (mA : mg "all" = none) {tL : Tok} (mN : mg "LONGEST" = some (.int 40 tL)) :
    FnOk P w K mg base (L2.CX P w) 3 f fd ["word"] (spIsWord Ps) := by
  have GS : FnOk P w K mg base (L2.CX P w) 1 fS fdS ["sign"] spIsSign := ok_is_sign FS
  refine okC F hf scIsWord (fun vs H Q E h => ?_) (fun A outer s H vs Q E hr h => ?_)
  · obtain ⟨a, rfl, _⟩ := h
    rfl
  · obtain ⟨a, rfl, hz, ht, q⟩ := h
    refine ⟨_, pss_cons (ps_if (pt_not (pt_val (pe_callB call_isi (by rfl) mI (by decide +kernel) (pa_cons (pv 0) (pa_cons (pe_bltn (v := .ty "str") (by rfl) mS (by decide +kernel) rfl) pa_nil))))) (pss_one (ps_ret pe_bl)) pss_nil)
      (pss_one (ps_ret (pe_and (pe_chain op_le op_le pe_int (pe_callB call_len_str (by rfl) mL PySem.boot_len (pa_cons (pv 0) pa_nil)) (pe_glob (v := .int 40) (by rfl) mN ⟨_, rfl⟩))
        (pe_one (pe_allG (own := [("sign", 1)]) (gt := gName 1) (tt := tYes) (P := Pw) hr scIsWord.nd (by rfl) mA (by decide +kernel) TB rfl ⟨rfl, by decide +kernel, rfl, blkOk_by (N := ["word", "sign"]) (sc := defScope sIsWord) (by decide +kernel)⟩ (pi_str (pv 0))
          (fun _ _ _ _ _ _ _ _ _ => pg_name (i := 1) scIsWord.nd rfl (Or.inl rfl)) (fun _ _ _ _ _ _ _ _ _ _ => pts_nil) (fun _ _ _ _ _ _ _ _ _ hb => pe_call GS hb (by rfl) gS FS.kp bS .nil passL (pa_cons (pv 1) pa_nil))))))), ?_⟩
    refine ⟨_, rfl, .str a, .ty "str", _, _, true, rfl, .ty _, .base (.str a), kit_ty (by decide +kernel), true, rfl, iteF ?_⟩
    refine ⟨_, rfl, a, rfl, hz, 1, (a.length : Int), rfl, rfl, _, rfl, ?_⟩
    have eN : wordB a = (decide ((1 : Int) ≤ (a.length : Int)) && (decide ((a.length : Int) ≤ 40) && a.cps.toList.all signB)) := rfl
    rw [eN] at q
    by_cases h1 : (1 : Int) ≤ (a.length : Int)
    · rw [decide_eq_true h1] at q ⊢
      refine iteT ⟨(a.length : Int), 40, rfl, rfl, _, rfl, ?_⟩
      by_cases h2 : (a.length : Int) ≤ 40
      · rw [decide_eq_true h2] at q ⊢
        refine iteT ⟨_, rfl, a, rfl, ht Pw hPw, fun H2 hT => ?_⟩
        have k2 := Kp.tab ht hPw hT
        refine read_all_str (pb := signB) (Pv := fun H3 => H3 = H2) rfl (fun i c H3 R _ p hR => ?_) (fun H3 p => ?_)
        · subst p
          refine ⟨rfl, _, rfl, c, rfl, hR _ rfl⟩
        · subst p
          exact q _ k2
      · rw [decide_eq_false h2] at q ⊢
        exact iteF (q H (Kp.refl ht))
    · rw [decide_eq_false h1] at q ⊢
      exact iteF ⟨_, rfl, iteF (q H (Kp.refl ht))⟩

def spCheckWords (K : PySem.W.Frag) (Ps : List Addr) : Sp := fun vs H Q _ => ∃ (p : Addr) (ws : List Str), vs = [.ref p] ∧ SqL K H p (ws.map V.str) ∧ (∀ a ∈ ws, wordB a = true) ∧ Tb Ps H ∧ ∀ H', Kp Ps H H' → Q .non H'
theorem ok_check_words {Ps : List Addr} {f fW : Addr} {fd fdW : FuncData} (F : FnP K "check_words" sCheckWords f fd) (GW : FnOk P w K mg base (L2.CX P w) 3 fW fdW ["word"] (spIsWord Ps)) (kW : PySem.W.keepIn K (.ref fW) = true) (bW : Binds K fdW ["word"] []) (gW : mg "is_word" = some (.ref fW))
    (mI : mg "isinstance" = none) (mT : mg "list" = none) (mE : mg "enumerate" = none) : FnOk P w K mg base (L2.CX P w) 4 f fd ["words"] (spCheckWords K Ps) := by
  refine F.ok scCheckWords (fun vs H Q E h => ?_) (fun cdv A outer s H vs Q E hr h => ?_)
  · obtain ⟨p, ws, rfl, _⟩ := h
    rfl
  · obtain ⟨p, ws, rfl, hS, hw, ht, q⟩ := h
    refine ⟨_, pss_cons (ps_if (pt_not (pt_val (pe_callB call_isi (by rfl) mI (by decide +kernel) (pa_cons (pv 0) (pa_cons (pe_bltn (v := .ty "list") (by rfl) mT (by decide +kernel) rfl) pa_nil))))) pss_never pss_nil)
      (pss_one (ps_for (passes_of rfl) rfl (pi_enum (by rfl) mE (pa_cons (pv 0) pa_nil)) (pg_tup rfl (pgs_cons (pg_name (i := 1) scCheckWords.nd rfl (.inl rfl)) (pgs_cons (pg_name (i := 2) scCheckWords.nd rfl (.inl rfl)) pgs_nil)))
        (pss_one (ps_if (pt_not (pt_val (pe_call GW hr (by rfl) gW kW bW .nil passL (pa_cons (pv 2) pa_nil)))) pss_never pss_nil)))), ?_⟩
    refine ⟨_, rfl, .ref p, .ty "list", _, _, true, rfl, .ty _, tyL hS, kit_ty (by decide +kernel), true, rfl, iteF ?_⟩
    refine ⟨_, rfl, p, _, rfl, hS, for_enum (xs := ws.map V.str) (fun i σ' H' => Kp Ps H H' ∧ ∃ y1 y2, σ' = [some (.ref p), y1, y2]) ⟨Kp.refl ht, none, none, rfl⟩ (fun i σ' H' _ hp => hp.1.seq ht hS) (fun i x T σ' H' hx nT hp => ?_) (fun σ' H' hp => q H' hp.1)⟩
    obtain ⟨k, y1, y2, rfl⟩ := hp
    rw [List.getElem?_map] at hx
    obtain ⟨a, ha, rfl⟩ := Option.map_eq_some_iff.mp hx
    have hwa := hw a (List.mem_of_getElem? ha)
    have k2 : Kp Ps H (upd H' T (.tup [.int (i : Nat), .str a])) := k.trans (Kp.new k.1 nT)
    refine ⟨T, _, rfl, .inl (.inl upd_same), rfl, _, _, rfl, _, _, rfl, rfl, ?_⟩
    refine ⟨_, rfl, a, rfl, small_line (by have := wordB_len hwa; omega), k2.1, fun H3 k3 => ⟨_, rfl, ?_⟩⟩
    rw [hwa]
    exact iteF ⟨k2.trans k3, _, _, rfl⟩

def spCheckLength (K : PySem.W.Frag) : Sp := fun vs H Q _ => ∃ (p : Addr) (xs : List V), vs = [.ref p] ∧ SqL K H p xs ∧ xs.length ≤ 120 ∧ Q .non H
theorem ok_check_length {f : Addr} {fd : FuncData} (F : FnP K "check_length" sCheckLength f fd) (mL : mg "len" = none) {tM : Tok} (mM : mg "MOST" = some (.int 120 tM)) : FnOk P w K mg base (L2.CX P w) 1 f fd ["words"] (spCheckLength K) := by
  refine F.ok scCheckLength (fun vs H Q E h => ?_) (fun cdv A outer s H vs Q E hr h => ?_)
  · obtain ⟨p, xs, rfl, _⟩ := h
    rfl
  · obtain ⟨p, xs, rfl, hS, hl, q⟩ := h
    refine ⟨_, pss_one (ps_if (pt_cmpR op_gt (pe_callB call_len_seq (by rfl) mL PySem.boot_len (pa_cons (pv 0) pa_nil)) (pe_glob (v := .int 120) (by rfl) mM ⟨_, rfl⟩) (nomark _)) pss_never pss_nil), ?_⟩
    refine ⟨_, rfl, p, _, rfl, .inl hS, _, _, rfl, rfl, _, rfl, ?_⟩
    have e : decide ((xs.length : Int) > 120) = false := decide_eq_false (by omega)
    show if decide ((xs.length : Int) > 120) = true then _ else _
    rw [e]
    exact iteF q
def spCheckText (K : PySem.W.Frag) (Ps : List Addr) : Sp := fun vs H Q _ => ∃ (p : Addr) (ws : List Str), vs = [.ref p] ∧ SqL K H p (ws.map V.str) ∧ (∀ a ∈ ws, wordB a = true) ∧ ws.length ≤ 120 ∧ Tb Ps H ∧ ∀ H', Kp Ps H H' → Q .non H'
theorem ok_check_text {Ps : List Addr} {f fW fL : Addr} {fd fdW fdL : FuncData} (F : FnP K "check_text" sCheckText f fd) (GW : FnOk P w K mg base (L2.CX P w) 4 fW fdW ["words"] (spCheckWords K Ps)) (kW : PySem.W.keepIn K (.ref fW) = true) (bW : Binds K fdW ["words"] []) (gW : mg "check_words" = some (.ref fW))
    (GL : FnOk P w K mg base (L2.CX P w) 1 fL fdL ["words"] (spCheckLength K)) (kL : PySem.W.keepIn K (.ref fL) = true) (bL : Binds K fdL ["words"] []) (gL : mg "check_length" = some (.ref fL)) : FnOk P w K mg base (L2.CX P w) 5 f fd ["words"] (spCheckText K Ps) := by
  refine F.ok scCheckText (fun vs H Q E h => ?_) (fun cdv A outer s H vs Q E hr h => ?_)
  · obtain ⟨p, ws, rfl, _⟩ := h
    rfl
  · obtain ⟨p, ws, rfl, hS, hw, hl, ht, q⟩ := h
    refine ⟨_, pss_cons (ps_expr (pe_call GW hr (by rfl) gW kW bW .nil passL (pa_cons (pv 0) pa_nil))) (pss_one (ps_expr (pe_call GL (hr.mono (by decide)) (by rfl) gL kL bL .nil passL (pa_cons (pv 0) pa_nil)))), ?_⟩
    refine ⟨_, rfl, p, ws, rfl, hS, hw, ht, fun H' k => ?_⟩
    exact ⟨_, rfl, p, _, rfl, k.seq ht hS, by rw [List.length_map]; exact hl, q H' k⟩
end
/-! ### the law's own helpers -/
def sg (i : Nat) : Nat := if i < 4 then 33 + i else 34 + i
def sgnOf (c : Int) : Nat := sg (c % 93).toNat
theorem sg_ok {i : Nat} (h : i < 93) : signB (sg i) = true := by
  unfold signB sg
  by_cases h1 : i < 4
  · rw [if_pos h1, decide_eq_false (show ¬ 33 + i < 33 by omega), decide_eq_false (show ¬ 36 < 33 + i by omega)]
    rfl
  · rw [if_neg h1, decide_eq_false (show ¬ 34 + i < 38 by omega), decide_eq_false (show ¬ 126 < 34 + i by omega)]
    exact Bool.or_true _
theorem sgnOf_ok (c : Int) : signB (sgnOf c) = true := sg_ok (by
  have h1 : 0 ≤ c % 93 := Int.emod_nonneg c (by decide)
  have h2 : c % 93 < 93 := Int.emod_lt_of_pos c (by decide)
  omega)
def wMore (c : Int) : Int := (c + 5) * 48271 % 1000003
def wSize (c : Int) : Int := if wMore c / 3 % 3 = 1 then 1 + wMore c / 9 % 40 else 1 + wMore c % 3
def wSign (c : Int) (k : Nat) : Nat := sgnOf ((wMore c + 11 * (0 + (k : Int)) + 1) * (wMore c + 211 * (0 + (k : Int)) + 3) % 1000033)
def wCodes (c : Int) (n : Nat) : List Nat := (List.range n).map (wSign c)
def wordOf (c : Int) : Str := ⟨(wCodes c (wSize c).toNat).toArray⟩
theorem wMore_b (c : Int) : 0 ≤ wMore c ∧ wMore c < 1000003 := ⟨Int.emod_nonneg _ (by decide), Int.emod_lt_of_pos _ (by decide)⟩
theorem wSize_b (c : Int) : 1 ≤ wSize c ∧ wSize c ≤ 40 := by
  have h := wMore_b c
  unfold wSize
  by_cases h1 : wMore c / 3 % 3 = 1
  · rw [if_pos h1]
    omega
  · rw [if_neg h1]
    omega
theorem wordOf_len (c : Int) : (wordOf c).length = (wSize c).toNat := by
  show (wCodes c (wSize c).toNat).toArray.size = _
  rw [List.size_toArray]
  unfold wCodes
  rw [List.length_map, List.length_range]
theorem wordOf_ok (c : Int) : wordB (wordOf c) = true := by
  have h := wSize_b c
  have hl := wordOf_len c
  unfold wordB
  rw [Bool.and_eq_true, Bool.and_eq_true]
  refine ⟨decide_eq_true (by omega), decide_eq_true (by omega), List.all_eq_true.mpr fun x hx => ?_⟩
  have hx : x ∈ wCodes c (wSize c).toNat := hx
  obtain ⟨k, _, rfl⟩ := List.mem_map.mp hx
  exact sgnOf_ok _
/-- signs put together -/
theorem join_signs : ∀ l : List Nat, Txt.join ("" : Str) (l.map fun c => (⟨#[c]⟩ : Str)) = (⟨l.toArray⟩ : Str) := by
  intro l
  show Builtin.Str.glued ("" : Str) (l.map fun c => (⟨#[c]⟩ : Str)) = _
  rw [StrLaws.glued_eq_join]
  have e0 : ("" : Str) = ⟨#[]⟩ := by decide +kernel
  rw [e0]
  induction l with
  | nil => rfl
  | cons c r ih =>
    cases r with
    | nil => rfl
    | cons d r =>
      show (⟨#[c]⟩ : Str) ++ (⟨#[]⟩ : Str) ++ Str.join ⟨#[]⟩ ((d :: r).map fun c => (⟨#[c]⟩ : Str)) = _
      rw [ih]
      refine Str.ext' (Array.toList_inj.mp ?_)
      rw [Str.cps_append, Str.cps_append, Array.toList_append, Array.toList_append]
      simp
section
variable {P : Program} {w : World} {K : PySem.W.Frag} {mg : Str → Option Value} {base : Heap}
theorem scCellAt : FnScope ["_law_script", "_law_k"] ["_law_script", "_law_k"] (defScope sCellAt) := ⟨rfl, rfl, rfl, by decide +kernel, rfl, by decide +kernel, by decide +kernel⟩
theorem scSignBy : FnScope ["_law_cell", "_law_some"] ["_law_cell"] (defScope sSignBy) := ⟨rfl, rfl, rfl, by decide +kernel, rfl, by decide +kernel, by decide +kernel⟩
theorem scWordBy : FnScope ["_law_cell", "_law_more", "_law_size", "_law_k"] ["_law_cell"] (defScope sWordBy) := ⟨rfl, rfl, rfl, by decide +kernel, rfl, by decide +kernel, by decide +kernel⟩
theorem ok_cell_at {f : Addr} {fd : FuncData} (F : FnP K "_law_cell_at" sCellAt f fd) (mL : mg "len" = none) : FnOk P w K mg base (L2.CX P w) 1 f fd ["_law_script", "_law_k"] (spCell K) := by
  refine F.ok scCellAt (fun vs H Q E h => ?_) (fun cdv A outer s H vs Q E hr h => ?_)
  · obtain ⟨l, ns, j, rfl, _⟩ := h
    rfl
  · obtain ⟨l, ns, j, rfl, hS, q⟩ := h
    refine ⟨_, pss_cons (ps_if (pt_cmpR op_lt (pv 1) (pe_callB call_len_seq (by rfl) mL PySem.boot_len (pa_cons (pv 0) pa_nil)) (nomark _)) (pss_one (ps_ret (pe_ix ix_list (pv 0) (pv 1) (fun _ _ => rfl)))) pss_nil) (pss_one (ps_ret pe_int)), ?_⟩
    refine ⟨_, rfl, _, rfl, l, _, rfl, .inl hS, _, _, rfl, rfl, _, rfl, ite2 (fun e => ?_) (fun e => ?_)⟩
    · have e1 := of_decide_eq_true e
      rw [List.length_map] at e1
      exact ⟨_, rfl, _, rfl, l, _, _, _, rfl, rfl, hS, atI_cell (by omega), q⟩
    · have hj : ¬ j < ns.length := fun z => e (decide_eq_true (by rw [List.length_map]; omega))
      rw [cell_out hj] at q
      exact q
def spSignBy : Sp := fun vs H Q _ => ∃ c : Int, vs = [.int c] ∧ Q (.str ⟨#[sgnOf c]⟩) H
theorem ok_sign_by {f : Addr} {fd : FuncData} (F : FnP K "_law_sign_by" sSignBy f fd) : FnOk P w K mg base (L2.CX P w) 1 f fd ["_law_cell"] spSignBy := by
  refine F.ok scSignBy (fun vs H Q E h => ?_) (fun cdv A outer s H vs Q E hr h => ?_)
  · obtain ⟨c, rfl, _⟩ := h
    rfl
  · obtain ⟨c, rfl, q⟩ := h
    refine ⟨_, pss_cons (ps_set (i := 1) scSignBy.nd rfl (.inl rfl) pe_str) (pss_cons (ps_set (i := 1) scSignBy.nd rfl (.inl rfl) (pe_op op_add_str (pv 1) pe_str)) (pss_one (ps_ret (pe_ix ix_str (pv 1) (pe_op op_mod (pv 0) pe_int) (fun _ _ => rfl))))), ?_⟩
    refine ⟨_, rfl, _, _, rfl, rfl, by decide +kernel, ?_⟩
    refine ⟨_, rfl, _, rfl, _, _, rfl, rfl, (by show (0 : Int) < 93; decide), _, _, sgnOf c, rfl, rfl, by decide +kernel, ?_, q⟩
    have h1 : 0 ≤ c % 93 := Int.emod_nonneg c (by decide)
    have h2 : c % 93 < 93 := Int.emod_lt_of_pos c (by decide)
    have e : c % 93 = (((c % 93).toNat : Nat) : Int) := (Int.toNat_of_nonneg h1).symm
    have hn : (c % 93).toNat < 93 := by omega
    unfold sgnOf
    rw [e, Int.toNat_natCast]
    generalize (c % 93).toNat = i at hn
    refine atI_nat ?_
    have key : ∀ i, i < 93 → (("!\"#$&'()*+,-./0123456789:;<=>?@ABCDEFGHIJKLMNOPQRSTUVWXYZ[\\]^_`" : Str) ++ ("abcdefghijklmnopqrstuvwxyz{|}~" : Str)).cps.toList[i]? = some (sg i) := by decide +kernel
    exact key i hn
def spWordBy : Sp := fun vs H Q _ => ∃ c : Int, vs = [.int c] ∧ ∀ H', Same H H' → Q (.str (wordOf c)) H'
theorem ok_word_by {f fS : Addr} {fd fdS : FuncData} (F : FnP K "_law_word_by" sWordBy f fd) (FS : FnP K "_law_sign_by" sSignBy fS fdS) (bS : Binds K fdS ["_law_cell"] []) (gS : mg "_law_sign_by" = some (.ref fS)) (mR : mg "range" = none) :
    FnOk P w K mg base (L2.CX P w) 2 f fd ["_law_cell"] spWordBy := by
  have GS : FnOk P w K mg base (L2.CX P w) 1 fS fdS ["_law_cell"] spSignBy := ok_sign_by FS
  refine F.ok scWordBy (fun vs H Q E h => ?_) (fun cdv A outer s H vs Q E hr h => ?_)
  · obtain ⟨c, rfl, _⟩ := h
    rfl
  · obtain ⟨c, rfl, q⟩ := h
    refine ⟨_, pss_cons (ps_set (i := 1) scWordBy.nd rfl (.inr rfl) (pe_op op_mod (pe_op op_mul (pe_op op_add (pv 0) pe_int) pe_int) pe_int))
      (pss_cons (ps_set (i := 2) scWordBy.nd rfl (.inl rfl) (pe_op op_add pe_int (pe_op op_mod (pv 1) pe_int)))
      (pss_cons (ps_if (pt_cmpR op_eq (pe_op op_mod (pe_op op_fdiv (pv 1) pe_int) pe_int) pe_int (nomark _)) (pss_one (ps_set (i := 2) scWordBy.nd rfl (.inl rfl) (pe_op op_add pe_int (pe_op op_mod (pe_op op_fdiv (pv 1) pe_int) pe_int)))) pss_nil)
      (pss_one (ps_ret (pe_join pe_str (pe_lc (own := [("_law_k", 3)]) (g := gName 3) (tt := tYes) rfl scWordBy.nd (pi_range1 (by rfl) mR (pa_cons (pv 2) pa_nil)) (blkOk_by (N := ["_law_cell", "_law_more", "_law_size", "_law_k"]) (sc := defScope sWordBy) (by decide +kernel))
        (fun _ _ _ _ _ => pg_name (i := 3) scWordBy.nd rfl (Or.inl rfl)) (fun _ _ _ _ _ => pts_nil)
        (fun _ _ _ _ _ => pe_call GS hr (by rfl) gS FS.kp bS .nil passL (pa_cons (pe_op op_mod (pe_op op_mul (pe_op op_add (pe_op op_add (pv 1) (pe_op op_mul pe_int (pv 3))) pe_int) (pe_op op_add (pe_op op_add (pv 1) (pe_op op_mul pe_int (pv 3))) pe_int)) pe_int) pa_nil)))))))), ?_⟩
    have hm := wMore_b c
    have hsz := wSize_b c
    refine ⟨_, rfl, _, _, rfl, rfl, _, _, rfl, rfl, .inr (by decide), _, _, rfl, rfl, (by show (0 : Int) < 1000003; decide), ?_⟩
    refine ⟨_, rfl, _, _, rfl, rfl, (by show (0 : Int) < 3; decide), _, _, rfl, rfl, ?_⟩
    refine ⟨_, rfl, _, _, rfl, rfl, ⟨by decide, by decide⟩, _, _, rfl, rfl, (by show (0 : Int) < 3; decide), rfl, _, rfl, ?_⟩
    -- both ways lead to the size
    have rest : ∀ σ0, σ0 = [some (V.int c), some (.int (wMore c)), some (.int (wSize c)), none] → tRet (tM1 (fun x xs H Q => ∃ a p, ∃ ys : List Str, x = .str a ∧ xs = [.ref p] ∧ (SqL K H p (ys.map V.str) ∨ SqT K H p (ys.map V.str)) ∧
        (ys.map (·.length)).sum + ys.length * a.length ≤ 16777216 ∧ Q (.str (Txt.join a ys)) H) (tC (.str "")) (tLc (iRng1 (tCons (tVar 2) tNil)) (gName 3) tYes
          (tCall spSignBy [] E0 (tCons (tOp (rI (fun _ j => 0 < j) fun i j => .int (i % j)) (tOp (rI CMul fun i j => .int (i * j)) (tOp (rI0 fun i j => .int (i + j)) (tOp (rI0 fun i j => .int (i + j)) (tVar 1) (tOp (rI CMul fun i j => .int (i * j)) (tC (.int 11)) (tVar 3))) (tC (.int 1)))
            (tOp (rI0 fun i j => .int (i + j)) (tOp (rI0 fun i j => .int (i + j)) (tVar 1) (tOp (rI CMul fun i j => .int (i * j)) (tC (.int 211)) (tVar 3))) (tC (.int 3)))) (tC (.int 1000033))) tNil)) [3])) { nx := fun _ H' => Q .non H', rt := Q } σ0 H := by
      rintro _ rfl
      refine ⟨⟨_, rfl⟩, _, rfl, _, rfl, by omega, by omega, fun D nD => ?_⟩
      refine lc_range (lo := 0) (n := (wSize c).toNat) (fun i H' => Same H H' ∧ H' D = some (.lst ((wCodes c i).map fun z => V.str ⟨#[z]⟩))) ⟨same_upd nD, upd_same⟩ (fun i H' hi hp => ?_) (fun H' hp => ?_)
      · obtain ⟨sm, hD⟩ := hp
        refine ⟨rfl, yesT ?_⟩
        refine ⟨_, rfl, _, rfl, _, _, rfl, rfl, .inl (by decide), _, _, rfl, rfl, _, _, rfl, rfl, _, rfl, _, rfl, _, _, rfl, rfl, .inl (by decide), _, _, rfl, rfl, _, _, rfl, rfl, _, _, rfl, rfl, .inl ⟨by omega, by omega⟩, _, _, rfl, rfl, (by show (0 : Int) < 1000033; decide), _, rfl, ?_⟩
        refine ⟨_, hD, ?_, fun b o e => ?_, ?_⟩
        · rw [List.length_map]
          unfold wCodes
          rw [List.length_map, List.length_range]
          exact Nat.lt_of_lt_of_le (show i < 1000 by omega) (by decide)
        · rw [upd_ne (ne_of_none e nD)]
          exact sm b o e
        · rw [upd_same]
          unfold wCodes
          rw [List.range_succ, List.map_append, List.map_append]
          rfl
      · obtain ⟨sm, hD⟩ := hp
        refine ⟨_, _, (wCodes c (wSize c).toNat).map fun z => (⟨#[z]⟩ : Str), rfl, rfl, .inl (.inl (.inl ?_)), ?_, ?_⟩
        · rw [hD, List.map_map]
          rfl
        · have e0 : ("" : Str).length = 0 := by decide +kernel
          rw [e0, Nat.mul_zero, Nat.add_zero]
          have e1 : ∀ l : List Nat, ((l.map fun z => (⟨#[z]⟩ : Str)).map (·.length)).sum = l.length := fun l => by
            induction l with
            | nil => rfl
            | cons a r ih =>
              rw [List.map_cons, List.map_cons, List.sum_cons, ih, List.length_cons]
              show 1 + r.length = _
              omega
          rw [e1]
          unfold wCodes
          rw [List.length_map, List.length_range]
          omega
        · rw [join_signs]
          exact q H' sm
    refine ite2 (fun e => ?_) (fun e => ?_)
    · have e1 : wMore c / 3 % 3 = 1 := V.int.inj (of_decide_eq_true e)
      refine ⟨_, rfl, _, _, rfl, rfl, ⟨by decide, by decide⟩, _, _, rfl, rfl, (by show (0 : Int) < 40; decide), _, _, rfl, rfl, rest _ ?_⟩
      unfold wSize
      rw [if_pos e1]
      rfl
    · have e1 : ¬ wMore c / 3 % 3 = 1 := fun z => e (decide_eq_true (congrArg V.int z))
      refine rest _ ?_
      unfold wSize
      rw [if_neg e1]
      rfl
end
/-! ### lines and their words -/
theorem sign_nosp : ∀ c, c < 127 → signB c = true → Unicode.isSpace c = false := by decide +kernel
theorem signB_lt {c : Nat} (h : signB c = true) : c < 127 := by
  unfold signB at h
  rw [Bool.or_eq_true, Bool.and_eq_true, Bool.and_eq_true] at h
  simp only [Bool.not_eq_true', decide_eq_false_iff_not] at h
  omega
theorem word_nosp {a : Str} (h : wordB a = true) : ∀ c ∈ a.cps.toList, Unicode.isSpace c = false := fun c hc => sign_nosp c (signB_lt (wordB_signs h c hc)) (wordB_signs h c hc)
theorem emp_app (x : Str) : Str.empty ++ x = x := Str.ext' (by rw [Str.cps_append]; exact Array.empty_append)
theorem app_emp (x : Str) : x ++ Str.empty = x := Str.ext' (by rw [Str.cps_append]; exact Array.append_empty)
theorem scan_app (a b : Str) : KWd.scan (a ++ b) = b.cps.toList.foldl KWd.step (KWd.scan a) := by
  unfold KWd.scan
  rw [Str.cps_append, Array.toList_append, List.foldl_append]
theorem fold_word : ∀ (l : List Nat) (ws : List Str) (r : Str), (∀ c ∈ l, Unicode.isSpace c = false) → l.foldl KWd.step (ws, r) = (ws, r ++ ⟨l.toArray⟩)
  | [], ws, r, _ => by
    show (ws, r) = _
    rw [show (⟨([] : List Nat).toArray⟩ : Str) = Str.empty from rfl, app_emp]
  | c :: l, ws, r, h => by
    have hc := h c List.mem_cons_self
    show l.foldl KWd.step (KWd.step (ws, r) c) = _
    have e : KWd.step (ws, r) c = (ws, r ++ ⟨#[c]⟩) := by
      unfold KWd.step
      rw [if_neg (by rw [hc]; exact Bool.false_ne_true)]
    rw [e, fold_word l ws _ fun d hd => h d (List.mem_cons_of_mem _ hd)]
    refine Prod.ext rfl (Str.ext' (Array.toList_inj.mp ?_))
    show ((r ++ ⟨#[c]⟩ : Str) ++ ⟨l.toArray⟩ : Str).cps.toList = (r ++ ⟨(c :: l).toArray⟩ : Str).cps.toList
    rw [Str.cps_append, Str.cps_append, Str.cps_append]
    simp
theorem fold_gap0 : ∀ (l : List Nat) (ws : List Str), (∀ c ∈ l, Unicode.isSpace c = true) → l.foldl KWd.step (ws, Str.empty) = (ws, Str.empty)
  | [], ws, _ => rfl
  | c :: l, ws, h => by
    have hc := h c List.mem_cons_self
    show l.foldl KWd.step (KWd.step (ws, Str.empty) c) = _
    have e : KWd.step (ws, Str.empty) c = (ws, Str.empty) := by
      unfold KWd.step
      rw [if_pos hc, if_pos (show (ws, Str.empty).snd.length = 0 from rfl)]
    rw [e]
    exact fold_gap0 l ws fun d hd => h d (List.mem_cons_of_mem _ hd)
theorem fold_gap {l : List Nat} {ws : List Str} {r : Str} (h : ∀ c ∈ l, Unicode.isSpace c = true) (hl : l ≠ []) (hr : r.length ≠ 0) : l.foldl KWd.step (ws, r) = (ws ++ [r], Str.empty) := by
  cases l with
  | nil => exact absurd rfl hl
  | cons c l =>
    have hc := h c List.mem_cons_self
    show l.foldl KWd.step (KWd.step (ws, r) c) = _
    have e : KWd.step (ws, r) c = (ws ++ [r], Str.empty) := by
      unfold KWd.step
      rw [if_pos hc, if_neg hr]
    rw [e]
    exact fold_gap0 l _ fun d hd => h d (List.mem_cons_of_mem _ hd)
/-- a line of which k words are written -/
def LineAt (ws : List Str) (k : Nat) (line : Str) : Prop := (k = 0 → KWd.scan line = ([], Str.empty)) ∧ ∀ j, k = j + 1 → ∃ x, ws[j]? = some x ∧ KWd.scan line = (ws.take j, x)
def Blank (g : Str) : Prop := ∀ c ∈ g.cps.toList, Unicode.isSpace c = true
theorem line_start {ws : List Str} {g : Str} (h : Blank g) : LineAt ws 0 g := by
  refine ⟨fun _ => ?_, fun j e => by omega⟩
  exact fold_gap0 _ _ h
theorem str_eta (x : Str) : (⟨x.cps.toList.toArray⟩ : Str) = x := Str.ext' (Array.toList_inj.mp rfl)
/-- the first word -/
theorem line_first {ws : List Str} {line x : Str} (h : LineAt ws 0 line) (hx : ws[0]? = some x) (hw : wordB x = true) : LineAt ws 1 (line ++ x) := by
  refine ⟨fun e => by omega, fun j e => ?_⟩
  obtain rfl : j = 0 := by omega
  refine ⟨x, hx, ?_⟩
  rw [scan_app, h.1 rfl, fold_word _ _ _ (word_nosp hw), str_eta, emp_app]
  rfl
/-- a further one -/
theorem line_next {ws : List Str} {k : Nat} {line g x : Str} (h : LineAt ws k line) (hk : 0 < k) (hx : ws[k]? = some x) (hall : ∀ a ∈ ws, wordB a = true) (hg : Blank g) (hg1 : 1 ≤ g.length) : LineAt ws (k + 1) (line ++ g ++ x) := by
  refine ⟨fun e => by omega, fun j e => ?_⟩
  obtain rfl : j = k := by omega
  refine ⟨x, hx, ?_⟩
  obtain ⟨i, rfl⟩ : ∃ i, j = i + 1 := ⟨j - 1, by omega⟩
  obtain ⟨y, hy, hs⟩ := h.2 i rfl
  have hly := wordB_len (hall y (List.mem_of_getElem? hy))
  have hne : g.cps.toList ≠ [] := fun z => by
    have : g.length = g.cps.toList.length := by simp [Str.length]
    rw [z] at this
    have : g.length = 0 := this
    omega
  rw [scan_app, scan_app, hs, fold_gap hg hne (by omega), fold_word _ _ _ (word_nosp (hall x (List.mem_of_getElem? hx))), str_eta, emp_app, List.take_add_one, hy]
  rfl
theorem line_end {ws : List Str} {line g : Str} (h : LineAt ws ws.length line) (hall : ∀ a ∈ ws, wordB a = true) (hg : Blank g) : Txt.words (line ++ g) = ws := by
  cases e : ws.length with
  | zero =>
    obtain rfl := List.length_eq_zero_iff.mp e
    have h1 := h.1 rfl
    have h2 : KWd.scan (line ++ g) = ([], Str.empty) := by
      rw [scan_app, h1]
      exact fold_gap0 _ _ hg
    rw [KWd.words_of h2]
    rfl
  | succ j =>
    obtain ⟨x, hx, hs⟩ := h.2 j e
    have hlx := wordB_len (hall x (List.mem_of_getElem? hx))
    have ew : ws = ws.take j ++ [x] := by
      have h3 : ws.take (j + 1) = ws := List.take_of_length_le (by omega)
      rw [List.take_add_one, hx] at h3
      exact h3.symm
    by_cases hz : g.cps.toList = []
    · have h2 : KWd.scan (line ++ g) = (ws.take j, x) := by
        rw [scan_app, hs, hz]
        rfl
      rw [KWd.words_of h2, if_neg (by omega)]
      exact ew.symm
    · have h2 : KWd.scan (line ++ g) = (ws.take j ++ [x], Str.empty) := by
        rw [scan_app, hs, fold_gap hg hz (by omega)]
      rw [KWd.words_of h2, if_pos (show Str.empty.length = 0 from rfl)]
      exact ew.symm
theorem join_snoc {sep : Str} : ∀ (l : List Str) (x : Str), l ≠ [] → Txt.join sep (l ++ [x]) = Txt.join sep l ++ sep ++ x := by
  intro l x hl
  show Builtin.Str.glued sep (l ++ [x]) = Builtin.Str.glued sep l ++ sep ++ x
  rw [StrLaws.glued_eq_join, StrLaws.glued_eq_join]
  induction l with
  | nil => exact absurd rfl hl
  | cons a r ih =>
    cases r with
    | nil => rfl
    | cons b r =>
      show a ++ sep ++ Str.join sep ((b :: r) ++ [x]) = a ++ sep ++ Str.join sep (b :: r) ++ sep ++ x
      rw [ih (by simp)]
      refine Str.ext' (Array.toList_inj.mp ?_)
      simp only [Str.cps_append, Array.toList_append, List.append_assoc]
theorem join_one (sep x : Str) : Txt.join sep [x] = x := by
  show Builtin.Str.glued sep [x] = x
  rw [StrLaws.glued_eq_join]
  rfl
theorem join_none (sep : Str) : Txt.join sep [] = Str.empty := by
  show Builtin.Str.glued sep [] = Str.empty
  rw [StrLaws.glued_eq_join]
  rfl
theorem sum_len {ws : List Str} (h : ∀ a ∈ ws, wordB a = true) : (ws.map (·.length)).sum ≤ 40 * ws.length := by
  induction ws with
  | nil => exact Nat.zero_le _
  | cons a r ih =>
    have h1 := (wordB_len (h a List.mem_cons_self)).2
    have h2 := ih fun b hb => h b (List.mem_cons_of_mem _ hb)
    rw [List.map_cons, List.sum_cons, List.length_cons]
    omega
theorem join_len {ws : List Str} (h : ∀ a ∈ ws, wordB a = true) : (Txt.join (" " : Str) ws).length ≤ 41 * ws.length := by
  have h1 := StrLaws.join_length_le (" " : Str) ws
  have h2 := sum_len h
  have e : (" " : Str).length = 1 := by decide +kernel
  have h3 : (Txt.join (" " : Str) ws).length ≤ (ws.map (·.length)).sum + ws.length * (" " : Str).length := by
    show (Builtin.Str.glued (" " : Str) ws).length ≤ _
    rw [StrLaws.glued_eq_join]
    exact h1
  rw [e] at h3
  omega
section
variable {P : Program} {w : World} {K : PySem.W.Frag} {mg : Str → Option Value} {base : Heap}
theorem scParted : FnScope ["line", "words"] ["line"] (defScope sParted) := ⟨rfl, rfl, rfl, by decide +kernel, rfl, by decide +kernel, by decide +kernel⟩
theorem scJoined : FnScope ["words"] ["words"] (defScope sJoined) := ⟨rfl, rfl, rfl, by decide +kernel, rfl, by decide +kernel, by decide +kernel⟩
def spParted (Ps : List Addr) : Sp := fun vs H Q _ => ∃ a : Str, vs = [.str a] ∧ a.length ≤ 1000000 ∧ (∀ x ∈ Txt.words a, wordB x = true) ∧ (Txt.words a).length ≤ 120 ∧ Tb Ps H ∧ ∀ H' p, Kp Ps H H' → H p = none → H' p = some (.lst ((Txt.words a).map V.str)) → Q (.ref p) H'
theorem ok_parted {Ps : List Addr} {f fT : Addr} {fd fdT : FuncData} (F : FnP K "parted" sParted f fd) (GT : FnOk P w K mg base (L2.CX P w) 5 fT fdT ["words"] (spCheckText K Ps)) (kT : PySem.W.keepIn K (.ref fT) = true) (bT : Binds K fdT ["words"] []) (gT : mg "check_text" = some (.ref fT)) :
    FnOk P w K mg base (L2.CX P w) 6 f fd ["line"] (spParted Ps) := by
  refine F.ok scParted (fun vs H Q E h => ?_) (fun cdv A outer s H vs Q E hr h => ?_)
  · obtain ⟨a, rfl, _⟩ := h
    rfl
  · obtain ⟨a, rfl, ha, hw, hl, ht, q⟩ := h
    refine ⟨_, pss_cons (ps_set (i := 1) scParted.nd rfl (.inl rfl) (pe_words (pv 0))) (pss_cons (ps_expr (pe_call GT hr (by rfl) gT kT bT .nil passL (pa_cons (pv 1) pa_nil))) (pss_one (ps_ret (pv 1)))), ?_⟩
    refine ⟨_, rfl, ⟨_, rfl⟩, a, rfl, rfl, Nat.le_trans (show a.length + 2 ≤ 1000002 by omega) (by decide), fun p np => ?_⟩
    have k1 : Kp Ps H (upd H p (.lst ((Txt.words a).map V.str))) := Kp.new ht np
    have hp : (upd H p (.lst ((Txt.words a).map V.str))) p = some (.lst ((Txt.words a).map V.str)) := upd_same
    refine ⟨_, rfl, p, _, rfl, .inl (.inl upd_same), hw, hl, k1.1, fun H' k2 => ?_⟩
    exact ⟨_, rfl, q H' p (k1.trans k2) np (k2.at k1.1 hp fun _ z => by cases z)⟩
def spJoined (K : PySem.W.Frag) (Ps : List Addr) : Sp := fun vs H Q _ => ∃ (p : Addr) (ws : List Str), vs = [.ref p] ∧ SqL K H p (ws.map V.str) ∧ (∀ a ∈ ws, wordB a = true) ∧ ws.length ≤ 120 ∧ Tb Ps H ∧ ∀ H', Kp Ps H H' → Q (.str (Txt.join " " ws)) H'
theorem ok_joined {Ps : List Addr} {f fT : Addr} {fd fdT : FuncData} (F : FnP K "joined" sJoined f fd) (GT : FnOk P w K mg base (L2.CX P w) 5 fT fdT ["words"] (spCheckText K Ps)) (kT : PySem.W.keepIn K (.ref fT) = true) (bT : Binds K fdT ["words"] []) (gT : mg "check_text" = some (.ref fT)) :
    FnOk P w K mg base (L2.CX P w) 6 f fd ["words"] (spJoined K Ps) := by
  refine F.ok scJoined (fun vs H Q E h => ?_) (fun cdv A outer s H vs Q E hr h => ?_)
  · obtain ⟨p, ws, rfl, _⟩ := h
    rfl
  · obtain ⟨p, ws, rfl, hS, hw, hl, ht, q⟩ := h
    refine ⟨_, pss_cons (ps_expr (pe_call GT hr (by rfl) gT kT bT .nil passL (pa_cons (pv 0) pa_nil))) (pss_one (ps_ret (pe_join pe_str (pv 0)))), ?_⟩
    refine ⟨_, rfl, p, ws, rfl, hS, hw, hl, ht, fun H' k => ?_⟩
    refine ⟨⟨_, rfl⟩, _, rfl, _, p, ws, rfl, rfl, .inl (k.seq ht hS), ?_, q H' k⟩
    have h2 := sum_len hw
    have e : (" " : Str).length = 1 := by decide +kernel
    rw [e]
    omega
end
/-! ### the law -/
def gapsL : List Str := [" ", "  ", "\t", "\n", " \n\t", "\t "]
def endsL : List Str := ["", " ", "\n", "\t \n"]
theorem gaps_ok : ∀ i, i < 6 → ∃ g, gapsL[i]? = some g ∧ Blank g ∧ 1 ≤ g.length ∧ g.length ≤ 3 := by
  have key : ∀ i, i < 6 → (match gapsL[i]? with | some g => g.cps.toList.all Unicode.isSpace && decide (1 ≤ g.length) && decide (g.length ≤ 3) | none => false) = true := by decide +kernel
  intro i hi
  have h := key i hi
  cases e : gapsL[i]? with
  | none =>
    rw [e] at h
    cases h
  | some g =>
    rw [e] at h
    have h : (g.cps.toList.all Unicode.isSpace && decide (1 ≤ g.length) && decide (g.length ≤ 3)) = true := h
    rw [Bool.and_eq_true, Bool.and_eq_true] at h
    exact ⟨g, rfl, List.all_eq_true.mp h.1.1, of_decide_eq_true h.1.2, of_decide_eq_true h.2⟩
theorem ends_ok : ∀ i, i < 4 → ∃ g, endsL[i]? = some g ∧ Blank g ∧ g.length ≤ 3 := by
  have key : ∀ i, i < 4 → (match endsL[i]? with | some g => g.cps.toList.all Unicode.isSpace && decide (g.length ≤ 3) | none => false) = true := by decide +kernel
  intro i hi
  have h := key i hi
  cases e : endsL[i]? with
  | none =>
    rw [e] at h
    cases h
  | some g =>
    rw [e] at h
    have h : (g.cps.toList.all Unicode.isSpace && decide (g.length ≤ 3)) = true := h
    rw [Bool.and_eq_true] at h
    exact ⟨g, rfl, List.all_eq_true.mp h.1, of_decide_eq_true h.2⟩
theorem mod_at {α : Type} {l : List α} {c : Int} {n : Nat} {x : α} (hn : 0 < n) (h : l[(c % (n : Int)).toNat]? = some x) : atI l (c % (n : Int)) = some x := by
  have h1 : 0 ≤ c % (n : Int) := Int.emod_nonneg c (by omega)
  have e : c % (n : Int) = (((c % (n : Int)).toNat : Nat) : Int) := (Int.toNat_of_nonneg h1).symm
  rw [e]
  exact atI_nat h
theorem mod_lt {c : Int} {n : Nat} (hn : 0 < n) : (c % (n : Int)).toNat < n := by
  have h1 : 0 ≤ c % (n : Int) := Int.emod_nonneg c (by omega)
  have h2 : c % (n : Int) < (n : Int) := Int.emod_lt_of_pos c (by omega)
  omega
section
variable {P : Program} {w : World} {K : PySem.W.Frag} {mg : Str → Option Value} {base : Heap}
theorem scAlike : FnScope ["_law_found", "_law_due", "_law_one"] ["_law_found", "_law_due"] (defScope sAlike) := ⟨rfl, rfl, rfl, by decide +kernel, rfl, by decide +kernel, by decide +kernel⟩
theorem scGap : FnScope ["_law_cell"] ["_law_cell"] (defScope sGap) := ⟨rfl, rfl, rfl, by decide +kernel, rfl, by decide +kernel, by decide +kernel⟩
theorem scLaw : FnScope ["_law_script", "_law_words", "_law_ends", "_law_line", "_law_plain", "_law_k", "_law_handed", "_law_found"] ["_law_script"] (defScope sLaw) := ⟨rfl, rfl, rfl, by decide +kernel, rfl, by decide +kernel, by decide +kernel⟩
theorem dps (H : Hp) (K : PySem.W.Frag) : ∀ ws : List Str, DpAll K H (ws.map V.str) (ws.map PyData.str)
  | [] => .nil
  | x :: r => .cons (.str x) (dps H K r)
theorem shaped_strs {ws : List Str} (h : ∀ a ∈ ws, PyData.strOk a = true) : SeqAt.shaped (.list (ws.map PyData.str)) = true := by
  have k1 : ∀ ws : List Str, (∀ a ∈ ws, PyData.strOk a = true) → PyData.canLayAll0 (ws.map PyData.str) = true := fun ws => by
    induction ws with
    | nil => exact fun _ => rfl
    | cons x r ih =>
      intro h
      show (PyData.canLay0 (.str x) && PyData.canLayAll0 (r.map PyData.str)) = true
      rw [ih fun b hb => h b (List.mem_cons_of_mem _ hb), show PyData.canLay0 (.str x) = PyData.strOk x from rfl, h x List.mem_cons_self]
      rfl
  have k2 : ∀ ws : List Str, PyData.depthAll (ws.map PyData.str) = 0 := fun ws => by
    induction ws with
    | nil => rfl
    | cons x r ih =>
      show max (PyData.depth (.str x)) (PyData.depthAll (r.map PyData.str)) = 0
      rw [ih]
      rfl
  show (PyData.canLay0 (.list (ws.map PyData.str)) && decide (PyData.depth (.list (ws.map PyData.str)) ≤ 64)) = true
  rw [show PyData.canLay0 (.list (ws.map PyData.str)) = PyData.canLayAll0 (ws.map PyData.str) from rfl, k1 ws h, show PyData.depth (.list (ws.map PyData.str)) = PyData.depthAll (ws.map PyData.str) + 1 from rfl, k2]
  rfl
def spAlike (K : PySem.W.Frag) : Sp := fun vs H Q _ => ∃ (p q : Addr) (ws : List Str), vs = [.ref p, .ref q] ∧ SqL K H p (ws.map V.str) ∧ SqL K H q (ws.map V.str) ∧ ws.length ≤ 1000 ∧ (∀ a ∈ ws, PyData.strOk a = true) ∧ ∀ H', Same H H' → Q (.bl true) H'
theorem ok_alike {f : Addr} {fd : FuncData} (F : FnP K "_law_alike" sAlike f fd) (mI : mg "isinstance" = none) (mS : mg "str" = none) (mT : mg "list" = none) (mL : mg "len" = none) (mA : mg "all" = none) : FnOk P w K mg base (L2.CX P w) 2 f fd ["_law_found", "_law_due"] (spAlike K) := by
  refine F.ok scAlike (fun vs H Q E h => ?_) (fun cdv A outer s H vs Q E hr h => ?_)
  · obtain ⟨p, q, ws, rfl, _⟩ := h
    rfl
  · obtain ⟨p, q, ws, rfl, hp, hq, hl, hok, k⟩ := h
    refine ⟨_, pss_cons (ps_if (PW.pt (pw_or (pt_not (pt_val (pe_callB call_isi (by rfl) mI (by decide +kernel) (pa_cons (pv 0) (pa_cons (pe_bltn (v := .ty "list") (by rfl) mT (by decide +kernel) rfl) pa_nil)))))
        (pw_or1 (pt_cmpR op_ne (pe_callB call_len_seq (by rfl) mL PySem.boot_len (pa_cons (pv 0) pa_nil)) (pe_callB call_len_seq (by rfl) mL PySem.boot_len (pa_cons (pv 1) pa_nil)) (nomark _))))) (pss_one (ps_ret pe_bl)) pss_nil)
      (pss_one (ps_ret (pe_and (pe_callB (cr_all rfl) (by rfl) mA (by decide +kernel) (pa_cons (pe_lc (own := [("_law_one", 2)]) (g := gName 2) (tt := tYes) rfl scAlike.nd (pi_list (pv 0)) (blkOk_by (N := ["_law_found", "_law_due", "_law_one"]) (sc := defScope sAlike) (by decide +kernel))
          (fun _ _ _ _ _ => pg_name (i := 2) scAlike.nd rfl (Or.inl rfl)) (fun _ _ _ _ _ => pts_nil) (fun _ _ _ _ _ => pe_callB (id := "isinstance") (r := rIsi K) call_isi (by rfl) mI (by decide +kernel) (pa_cons (pv 2) (pa_cons (pe_bltn (v := .ty "str") (by rfl) mS (by decide +kernel) rfl) pa_nil)))) pa_nil))
        (pe_one (pe_cmpR (op_eqD hr.units) (pv 0) (pv 1) (nomark _)))))), ?_⟩
    refine ⟨_, rfl, .ref p, .ty "list", _, _, true, rfl, .ty _, tyL hp, kit_ty (by decide +kernel), true, rfl, iteF ?_⟩
    refine ⟨_, rfl, p, _, rfl, .inl hp, _, rfl, q, _, rfl, .inl hq, rfl, _, rfl, ?_⟩
    rw [decide_eq_true (show V.int ((ws.map V.str).length : Int) = V.int ((ws.map V.str).length : Int) from rfl)]
    refine iteF ?_
    refine ⟨_, rfl, p, rfl, ⟨_, hp⟩, fun D nD => ?_⟩
    refine lc_list (xs := ws.map V.str) (fun i H' => Same H H' ∧ H' D = some (.lst ((List.replicate i true).map V.bl))) ⟨same_upd nD, upd_same⟩ (fun i H' _ hP => hP.1.seq hp) (fun i x H' hx hP => ?_) (fun H' hP => ?_)
    · obtain ⟨sm, hD⟩ := hP
      rw [List.getElem?_map] at hx
      obtain ⟨a, ha, rfl⟩ := Option.map_eq_some_iff.mp hx
      refine ⟨rfl, yesT ?_⟩
      have hi : i < ws.length := (List.getElem?_eq_some_iff.mp ha).1
      refine ⟨_, rfl, .str a, .ty "str", _, _, true, rfl, .ty _, .base (.str a), kit_ty (by decide +kernel), _, hD, ?_, fun b o e => ?_, ?_⟩
      · rw [List.length_map, List.length_replicate]
        exact Nat.lt_of_lt_of_le (show i < 1001 by omega) (by decide)
      · rw [upd_ne (ne_of_none e nD)]
        exact sm b o e
      · rw [upd_same, List.replicate_succ', List.map_append]
        rfl
    · obtain ⟨sm, hD⟩ := hP
      refine ⟨D, _, rfl, .inl (.inl hD), true, ?_, ?_⟩
      · have e : ∀ n, (List.replicate n true).all id = true := fun n => by simp
        rw [e]
      · refine iteT ⟨_, rfl, _, rfl, _, _, .lst (sm.seq hp) (dps H' K ws), .lst (sm.seq hq) (dps H' K ws), shaped_strs hok, shaped_strs hok, ?_⟩
        rw [SeqAt.eqv_refl _ (SeqAt.canLay_of_shaped (shaped_strs hok))]
        exact k H' sm
def spGap : Sp := fun vs H Q _ => ∃ c : Int, vs = [.int c] ∧ ∀ H' g, Same H H' → gapsL[(c % 6).toNat]? = some g → Q (.str g) H'
theorem ok_gap {f : Addr} {fd : FuncData} (F : FnP K "_law_gap" sGap f fd) : FnOk P w K mg base (L2.CX P w) 1 f fd ["_law_cell"] spGap := by
  refine F.ok scGap (fun vs H Q E h => ?_) (fun cdv A outer s H vs Q E hr h => ?_)
  · obtain ⟨c, rfl, _⟩ := h
    rfl
  · obtain ⟨c, rfl, q⟩ := h
    refine ⟨_, pss_one (ps_ret (pe_ix ix_list (pe_lst (pa_cons pe_str (pa_cons pe_str (pa_cons pe_str (pa_cons pe_str (pa_cons pe_str (pa_cons pe_str pa_nil))))))) (pe_op op_mod (pv 0) pe_int) (fun _ _ => rfl))), ?_⟩
    obtain ⟨g, hg, _⟩ := gaps_ok _ (mod_lt (c := c) (n := 6) (by decide))
    refine ⟨by show 6 ≤ sizeLine; decide, fun p np => ⟨_, rfl, _, _, rfl, rfl, (by show (0 : Int) < 6; decide), p, gapsL.map V.str, _, .str g, rfl, rfl, .inl (.inl upd_same), mod_at (n := 6) (by decide) ?_, q _ g (same_upd np) hg⟩⟩
    rw [List.getElem?_map, hg]
    rfl

def spLaw (K : PySem.W.Frag) (Ps : List Addr) : Sp := fun vs H Q _ => ∃ (a : Addr) (ns : List Int), vs = [.ref a] ∧ SqL K H a (ns.map V.int) ∧ Tb Ps H ∧ ∀ H', Q (.bl true) H'
theorem strOk_of {a : Str} (h : wordB a = true) : PyData.strOk a = true := by
  unfold PyData.strOk
  rw [Array.all_eq_true]
  intro i hi
  have h1 : a.cps[i] ∈ a.cps.toList := by simp
  have h2 := signB_lt (wordB_signs h _ h1)
  exact decide_eq_true (by omega)
theorem ok_law {Ps : List Addr} {f fC fW fG fA fJ fP : Addr} {fd fdC fdW fdG fdA fdJ fdP : FuncData} (F : FnP K "law" sLaw f fd)
    (GC : FnOk P w K mg base (L2.CX P w) 1 fC fdC ["_law_script", "_law_k"] (spCell K)) (kC : PySem.W.keepIn K (.ref fC) = true) (bC : Binds K fdC ["_law_script", "_law_k"] []) (gC : mg "_law_cell_at" = some (.ref fC))
    (GW : FnOk P w K mg base (L2.CX P w) 2 fW fdW ["_law_cell"] spWordBy) (kW : PySem.W.keepIn K (.ref fW) = true) (bW : Binds K fdW ["_law_cell"] []) (gW : mg "_law_word_by" = some (.ref fW))
    (GG : FnOk P w K mg base (L2.CX P w) 1 fG fdG ["_law_cell"] spGap) (kG : PySem.W.keepIn K (.ref fG) = true) (bG : Binds K fdG ["_law_cell"] []) (gG : mg "_law_gap" = some (.ref fG))
    (GA : FnOk P w K mg base (L2.CX P w) 2 fA fdA ["_law_found", "_law_due"] (spAlike K)) (kA : PySem.W.keepIn K (.ref fA) = true) (bA : Binds K fdA ["_law_found", "_law_due"] []) (gA : mg "_law_alike" = some (.ref fA))
    (GJ : FnOk P w K mg base (L2.CX P w) 6 fJ fdJ ["words"] (spJoined K Ps)) (kJ : PySem.W.keepIn K (.ref fJ) = true) (bJ : Binds K fdJ ["words"] []) (gJ : mg "joined" = some (.ref fJ))
    (GP : FnOk P w K mg base (L2.CX P w) 6 fP fdP ["line"] (spParted Ps)) (kP : PySem.W.keepIn K (.ref fP) = true) (bP : Binds K fdP ["line"] []) (gP : mg "parted" = some (.ref fP))
    (mI : mg "isinstance" = none) (mS : mg "str" = none) (mT : mg "list" = none) (mL : mg "len" = none) (mR : mg "range" = none) : FnOk P w K mg base (L2.CX P w) 7 f fd ["_law_script"] (spLaw K Ps) := by
  refine F.ok scLaw (fun vs H Q E h => ?_) (fun cdv A outer s H vs Q E hr h => ?_)
  · obtain ⟨a, ns, rfl, _⟩ := h
    rfl
  · obtain ⟨a, ns, rfl, hS, ht, q⟩ := h
    have r2 : Room 2 (A.deeper (envOfC "law" (defScope sLaw) s.heap.objs.size f cdv)) := hr.mono (by decide)
    have r1 : Room 1 (A.deeper (envOfC "law" (defScope sLaw) s.heap.objs.size f cdv)) := hr.mono (by decide)
    refine ⟨_, pss_cons (ps_setLc (i := 1) (own := [("_law_k", 5)]) (g := gName 5) (tt := tYes) rfl scLaw.nd rfl rfl (sw_true rfl rfl rfl (by decide +kernel))
        (pi_range1 (by rfl) mR (pa_cons (pe_op op_mod (pe_call GC r1 (by rfl) gC kC bC .nil passL (pa_cons (pv 0) (pa_cons pe_int pa_nil))) pe_int) pa_nil)) (blkOk_by (N := ["_law_script", "_law_words", "_law_ends", "_law_line", "_law_plain", "_law_k", "_law_handed", "_law_found"]) (sc := defScope sLaw) (by decide +kernel))
        (fun _ _ _ _ _ => pg_name (i := 5) scLaw.nd rfl (Or.inl rfl)) (fun _ _ _ _ _ => pts_nil)
        (fun _ _ _ _ _ => pe_call GW r2 (by rfl) gW kW bW .nil passL (pa_cons (pe_op op_add (pe_call GC r1 (by rfl) gC kC bC .nil passL (pa_cons (pv 0) (pa_cons (pe_op op_add pe_int (pv 5)) pa_nil))) (pe_op op_mul pe_int (pv 5))) pa_nil)))
      (pss_cut (ps_if (pt_cmpR op_eq (pe_op op_mod (pe_op op_fdiv (pe_call GC r1 (by rfl) gC kC bC .nil passL (pa_cons (pv 0) (pa_cons pe_int pa_nil))) pe_int) pe_int) pe_int (nomark _))
        (pss_one (ps_setLc (i := 1) (own := [("_law_k", 5)]) (g := gName 5) (tt := tYes) rfl scLaw.nd rfl rfl (sw_true rfl rfl rfl (by decide +kernel))
          (pi_range1 (by rfl) mR (pa_cons (pe_op op_add pe_int (pe_op op_mod (pe_call GC r1 (by rfl) gC kC bC .nil passL (pa_cons (pv 0) (pa_cons pe_int pa_nil))) pe_int)) pa_nil)) (blkOk_by (N := ["_law_script", "_law_words", "_law_ends", "_law_line", "_law_plain", "_law_k", "_law_handed", "_law_found"]) (sc := defScope sLaw) (by decide +kernel))
          (fun _ _ _ _ _ => pg_name (i := 5) scLaw.nd rfl (Or.inl rfl)) (fun _ _ _ _ _ => pts_nil)
          (fun _ _ _ _ _ => pe_call GW r2 (by rfl) gW kW bW .nil passL (pa_cons (pe_call GC r1 (by rfl) gC kC bC .nil passL (pa_cons (pv 0) (pa_cons pe_int pa_nil))) pa_nil)))) pss_nil)
      (pss_cons (ps_set (i := 2) scLaw.nd rfl (.inl rfl) (pe_lst (pa_cons pe_str (pa_cons pe_str (pa_cons pe_str (pa_cons pe_str pa_nil))))))
      (pss_cons (ps_set (i := 3) scLaw.nd rfl (.inl rfl) (pe_ix ix_list (pv 2) (pe_op op_mod (pe_op op_fdiv (pe_call GC r1 (by rfl) gC kC bC .nil passL (pa_cons (pv 0) (pa_cons pe_int pa_nil))) pe_int) pe_int) (fun _ _ => rfl)))
      (pss_cons (ps_set (i := 4) scLaw.nd rfl (.inl rfl) pe_str)
      (pss_cons (ps_for (passes_of rfl) rfl (pi_range1 (by rfl) mR (pa_cons (pe_callB call_len_seq (by rfl) mL PySem.boot_len (pa_cons (pv 1) pa_nil)) pa_nil)) (pg_name (i := 5) scLaw.nd rfl (.inl rfl))
        (pss_cut (ps_if (pt_cmpR op_gt (pv 5) pe_int (nomark _))
          (pss_cons (ps_set (i := 3) scLaw.nd rfl (.inl rfl) (pe_op op_add_str (pv 3) (pe_call GG r1 (by rfl) gG kG bG .nil passL (pa_cons (pe_call GC r1 (by rfl) gC kC bC .nil passL (pa_cons (pv 0) (pa_cons (pe_op op_add pe_int (pv 5)) pa_nil))) pa_nil))))
            (pss_one (ps_set (i := 4) scLaw.nd rfl (.inl rfl) (pe_op op_add_str (pv 4) pe_str)))) pss_nil)
        (pss_cons (ps_set (i := 3) scLaw.nd rfl (.inl rfl) (pe_op op_add_str (pv 3) (pe_ix ix_list (pv 1) (pv 5) (fun _ _ => rfl))))
          (pss_one (ps_set (i := 4) scLaw.nd rfl (.inl rfl) (pe_op op_add_str (pv 4) (pe_ix ix_list (pv 1) (pv 5) (fun _ _ => rfl))))))))
      (pss_cons (ps_set (i := 3) scLaw.nd rfl (.inl rfl) (pe_op op_add_str (pv 3) (pe_ix ix_list (pv 2) (pe_op op_mod (pe_op op_fdiv (pe_call GC r1 (by rfl) gC kC bC .nil passL (pa_cons (pv 0) (pa_cons pe_int pa_nil))) pe_int) pe_int) (fun _ _ => rfl))))
      (pss_cons (ps_set (i := 6) scLaw.nd rfl (.inl rfl) (pe_callTy call_list_of (by rfl) mT (by decide +kernel) (pa_cons (pv 1) pa_nil)))
      (pss_cons (ps_set (i := 7) scLaw.nd rfl (.inl rfl) (pe_call GJ hr (by rfl) gJ kJ bJ .nil passL (pa_cons (pv 6) pa_nil)))
      (pss_cons (ps_if (PW.pt (pw_or (pt_cmpR (op_neD hr.units) (pv 6) (pv 1) (nomark _)) (pw_or (pt_not (pt_val (pe_callB call_isi (by rfl) mI (by decide +kernel) (pa_cons (pv 7) (pa_cons (pe_bltn (v := .ty "str") (by rfl) mS (by decide +kernel) rfl) pa_nil))))) (pw_or1 (pt_cmpR op_ne (pv 7) (pv 4) (nomark _)))))) (pss_one (ps_ret pe_bl)) pss_nil)
      (pss_one (ps_ret (pe_and (pe_call GA r2 (by rfl) gA kA bA .nil passL (pa_cons (pe_call GP hr (by rfl) gP kP bP .nil passL (pa_cons (pv 3) pa_nil)) (pa_cons (pv 1) pa_nil)))
        (pe_one (pe_call GA r2 (by rfl) gA kA bA .nil passL (pa_cons (pe_call GP hr (by rfl) gP kP bP .nil passL (pa_cons (pv 7) pa_nil)) (pa_cons (pv 1) pa_nil)))))))))))))))), ?_⟩
    -- the words
    have hc0 : 0 ≤ cellOf ns 0 % 12 ∧ cellOf ns 0 % 12 < 12 := ⟨Int.emod_nonneg _ (by decide), Int.emod_lt_of_pos _ (by decide)⟩
    have hc1 : 0 ≤ cellOf ns 1 % 3 ∧ cellOf ns 1 % 3 < 3 := ⟨Int.emod_nonneg _ (by decide), Int.emod_lt_of_pos _ (by decide)⟩
    refine ⟨_, rfl, a, ns, 0, rfl, hS, _, _, rfl, rfl, (by show (0 : Int) < 12; decide), _, rfl, by omega, by omega, fun D nD => ?_⟩
    refine lc_range (lo := 0) (n := (cellOf ns 0 % 12).toNat) (fun i H' => Same H H' ∧ H' D = some (.lst (((List.range i).map fun k => wordOf (cellOf ns (2 + k) + 97 * (0 + (k : Int)))).map V.str))) ⟨same_upd nD, upd_same⟩ (fun i H' hi hp => ?_) (fun H1 hp => ?_)
    · obtain ⟨sm, hD⟩ := hp
      refine ⟨rfl, yesT ?_⟩
      refine ⟨_, rfl, _, rfl, _, _, rfl, rfl, a, ns, 2 + i, congrArg (fun t : Int => [V.ref a, V.int t]) (show (2 : Int) + (0 + (i : Int)) = ((2 + i : Nat) : Int) by omega), sm.seq hS, _, rfl, _, _, rfl, rfl, .inl (by decide), _, _, rfl, rfl, _, rfl, fun H2 sm2 => ?_⟩
      refine ⟨_, sm2 _ _ hD, ?_, fun b o e => ?_, ?_⟩
      · rw [List.length_map, List.length_map, List.length_range]
        exact Nat.lt_of_lt_of_le (show i < 1000 by omega) (by decide)
      · rw [upd_ne (ne_of_none e nD)]
        exact sm2 b o (sm b o e)
      · rw [upd_same, List.range_succ, List.map_append, List.map_append]
        rfl
    obtain ⟨sm1, hD1⟩ := hp
    have hS1 := sm1.seq hS
    refine ⟨fun σ' H' => ∃ D ws, σ' = [some (.ref a), some (.ref D), none, none, none, none, none, none] ∧ H' D = some (.lst ((ws : List Str).map V.str)) ∧ (∀ x ∈ ws, wordB x = true) ∧ ws.length ≤ 120 ∧ Kp Ps H H', ?_, fun σ1 H3 hM => ?_⟩
    · refine ⟨_, rfl, a, ns, 0, rfl, hS1, _, _, rfl, rfl, ⟨by decide, by decide⟩, _, _, rfl, rfl, (by show (0 : Int) < 6; decide), rfl, _, rfl, ite2 (fun e => ?_) (fun e => ?_)⟩
      · refine ⟨_, rfl, a, ns, 1, rfl, hS1, _, _, rfl, rfl, (by show (0 : Int) < 3; decide), _, _, rfl, rfl, _, rfl, by omega, by omega, fun D2 nD2 => ?_⟩
        refine lc_range (lo := 0) (n := (118 + cellOf ns 1 % 3).toNat) (fun i H' => Same H1 H' ∧ H' D2 = some (.lst ((List.replicate i (wordOf (cellOf ns 2))).map V.str))) ⟨same_upd nD2, upd_same⟩ (fun i H' hi hp => ?_) (fun H2 hp => ?_)
        · obtain ⟨sm, hD⟩ := hp
          refine ⟨rfl, yesT ?_⟩
          refine ⟨_, rfl, a, ns, 2, rfl, sm.seq hS1, _, rfl, fun H2 sm2 => ?_⟩
          refine ⟨_, sm2 _ _ hD, ?_, fun b o e => ?_, ?_⟩
          · rw [List.length_map, List.length_replicate]
            exact Nat.lt_of_lt_of_le (show i < 1000 by omega) (by decide)
          · rw [upd_ne (ne_of_none e nD2)]
            exact sm2 b o (sm b o e)
          · rw [upd_same, List.replicate_succ', List.map_append]
            rfl
        · obtain ⟨sm, hD⟩ := hp
          refine ⟨D2, _, rfl, hD, fun x hx => ?_, ?_, Kp.same ht (sm1.trans sm)⟩
          · rw [(List.mem_replicate.mp hx).2]
            exact wordOf_ok _
          · rw [List.length_replicate]
            omega
      · refine ⟨D, _, rfl, hD1, fun x hx => ?_, ?_, Kp.same ht sm1⟩
        · obtain ⟨k, _, rfl⟩ := List.mem_map.mp hx
          exact wordOf_ok _
        · rw [List.length_map, List.length_range]
          omega
    obtain ⟨D, ws, rfl, hD, hw, hl, k3⟩ := hM
    -- the line's ends
    refine ⟨by show 4 ≤ sizeLine; decide, fun L nL => ?_⟩
    have k4 : Kp Ps H (upd H3 L (.lst (endsL.map V.str))) := k3.trans (Kp.new k3.1 nL)
    have hL4 : (upd H3 L (.lst (endsL.map V.str))) L = some (.lst (endsL.map V.str)) := upd_same
    have hD4 : (upd H3 L (.lst (endsL.map V.str))) D = some (.lst (ws.map V.str)) := by
      rw [upd_ne (ne_of_none hD nL)]
      exact hD
    have hS4 := k4.seq ht hS
    obtain ⟨g, hg, hgb, hgl⟩ := ends_ok _ (mod_lt (c := cellOf ns 1 / 3) (n := 4) (by decide))
    refine ⟨_, rfl, _, rfl, a, ns, 1, rfl, hS4, _, _, rfl, rfl, ⟨by decide, by decide⟩, _, _, rfl, rfl, (by show (0 : Int) < 4; decide), L, endsL.map V.str, _, .str g, rfl, rfl, .inl (.inl hL4), mod_at (n := 4) (by decide) (by rw [List.getElem?_map, hg]; rfl), ?_⟩
    refine ⟨_, rfl, D, _, rfl, .inl (.inl (.inl hD4)), _, rfl, by rw [List.length_map]; omega, by rw [List.length_map]; omega, ?_⟩
    have en : (((ws.map V.str).length : Nat) : Int).toNat = ws.length := by rw [List.length_map]; omega
    rw [en]
    refine for_range (lo := 0) (n := ws.length) (fun i σ' H' => ∃ line plain y5, σ' = [some (.ref a), some (.ref D), some (.ref L), some (.str line), some (.str plain), y5, none, none] ∧ H' L = some (.lst (endsL.map V.str)) ∧ H' D = some (.lst (ws.map V.str)) ∧ Kp Ps H H' ∧
      LineAt ws i line ∧ line.length ≤ 3 + 43 * i ∧ LineAt ws i plain ∧ plain = Txt.join " " (ws.take i)) ⟨g, Str.empty, none, rfl, hL4, hD4, k4, line_start hgb, by omega, line_start (fun c hc => by cases hc), (join_none _).symm⟩ (fun i σ' H' hi hp => ?_) (fun σ' H' hp => ?_)
    · obtain ⟨line, plain, y5, rfl, hL, hD, k5, n1, n2, n3, n4⟩ := hp
      obtain ⟨x, hx⟩ : ∃ x, ws[i]? = some x := ⟨ws[i], List.getElem?_eq_getElem hi⟩
      have hwx := hw x (List.mem_of_getElem? hx)
      have hlx := wordB_len hwx
      have hlp : plain.length ≤ 41 * i := by
        have h1 := join_len (ws := ws.take i) fun a ha => hw a (List.mem_of_mem_take ha)
        rw [List.length_take] at h1
        rw [n4]
        omega
      have etk : ws.take (i + 1) = ws.take i ++ [x] := by rw [List.take_add_one, hx]; rfl
      refine ⟨fun σ' H' => ∃ line2 plain2, σ' = [some (.ref a), some (.ref D), some (.ref L), some (.str line2), some (.str plain2), some (.int (0 + (i : Int))), none, none] ∧ H' L = some (.lst (endsL.map V.str)) ∧ H' D = some (.lst (ws.map V.str)) ∧ Kp Ps H H' ∧
        LineAt ws (i + 1) (line2 ++ x) ∧ line2.length ≤ 3 + 43 * i + 3 ∧ LineAt ws (i + 1) (plain2 ++ x) ∧ plain2 ++ x = Txt.join " " (ws.take (i + 1)) ∧ plain2.length ≤ 41 * i + 1, ?_, fun σ2 H6 hM => ?_⟩
      · refine ⟨_, rfl, _, _, rfl, rfl, _, rfl, ite2 (fun e => ?_) (fun e => ?_)⟩
        · have e1 : (0 : Int) < 0 + (i : Int) := of_decide_eq_true e
          have hi0 : 0 < i := by omega
          refine ⟨_, rfl, _, rfl, _, rfl, _, _, rfl, rfl, a, ns, 14 + i, congrArg (fun t : Int => [V.ref a, V.int t]) (show (14 : Int) + (0 + (i : Int)) = ((14 + i : Nat) : Int) by omega), k5.seq ht hS, _, rfl, fun H7 gp sm hgp => ?_⟩
          obtain ⟨gp', hgp', hb, hg1, hg3⟩ := gaps_ok _ (mod_lt (c := cellOf ns (14 + i)) (n := 6) (by decide))
          obtain rfl : gp = gp' := Option.some.inj (hgp.symm.trans hgp')
          refine ⟨_, _, rfl, rfl, small_line (by omega), ?_⟩
          have e1s : (" " : Str).length = 1 := by decide +kernel
          refine ⟨_, rfl, _, _, rfl, rfl, small_line (by rw [e1s]; omega), ?_⟩
          have hne : ws.take i ≠ [] := fun z => by
            have := congrArg List.length z
            rw [List.length_take, List.length_nil] at this
            omega
          refine ⟨line ++ gp, plain ++ " ", rfl, sm _ _ hL, sm _ _ hD, k5.trans (Kp.same k5.1 sm), line_next n1 hi0 hx hw hb hg1, ?_, line_next n3 hi0 hx hw (by show Blank (" " : Str); unfold Blank; decide +kernel) (by rw [e1s]; omega), ?_, ?_⟩
          · rw [Str.length_append]
            omega
          · rw [etk, join_snoc _ _ hne, n4]
          · rw [Str.length_append, e1s]
            omega
        · have hi0 : i = 0 := by
            have e1 : ¬ (0 : Int) < 0 + (i : Int) := fun z => e (decide_eq_true z)
            omega
          subst hi0
          refine ⟨line, plain, rfl, hL, hD, k5, line_first n1 hx hwx, by omega, line_first n3 hx hwx, ?_, by omega⟩
          rw [etk, n4]
          show Txt.join " " [] ++ x = Txt.join " " [x]
          rw [join_none, join_one, emp_app]
      · obtain ⟨line2, plain2, rfl, hL, hD, k6, p1, p2, p3, p4, p5⟩ := hM
        have hat : atI (ws.map V.str) (0 + (i : Int)) = some (V.str x) := at_of (j := i) (by omega) (by rw [List.getElem?_map, hx]; rfl)
        refine ⟨_, rfl, _, rfl, _, rfl, D, _, _, _, rfl, rfl, .inl (.inl hD), hat, _, _, rfl, rfl, small_line (by omega), ?_⟩
        refine ⟨_, rfl, _, rfl, _, rfl, D, _, _, _, rfl, rfl, .inl (.inl hD), hat, _, _, rfl, rfl, small_line (by omega), ?_⟩
        refine ⟨line2 ++ x, plain2 ++ x, _, rfl, hL, hD, k6, p1, ?_, p3, p4⟩
        rw [Str.length_append]
        omega
    · obtain ⟨line, plain, y5, rfl, hL, hD, k5, n1, n2, n3, n4⟩ := hp
      have hall : ws.take ws.length = ws := List.take_of_length_le (Nat.le_refl _)
      rw [hall] at n4
      obtain ⟨ge, hge, heb, hel⟩ := ends_ok _ (mod_lt (c := cellOf ns 1 / 12) (n := 4) (by decide))
      refine ⟨_, rfl, _, rfl, _, rfl, a, ns, 1, rfl, k5.seq ht hS, _, _, rfl, rfl, ⟨by decide, by decide⟩, _, _, rfl, rfl, (by show (0 : Int) < 4; decide), L, endsL.map V.str, _, .str ge, rfl, rfl, .inl (.inl hL), mod_at (n := 4) (by decide) (by rw [List.getElem?_map, hge]; rfl), _, _, rfl, rfl, small_line (by omega), ?_⟩
      refine ⟨_, rfl, D, _, rfl, .inl (.inl (.inl hD)), fun M nM => ?_⟩
      have k6 : Kp Ps H (upd H' M (.lst (ws.map V.str))) := k5.trans (Kp.new k5.1 nM)
      have hM6 : (upd H' M (.lst (ws.map V.str))) M = some (.lst (ws.map V.str)) := upd_same
      have hD6 : (upd H' M (.lst (ws.map V.str))) D = some (.lst (ws.map V.str)) := by
        rw [upd_ne (ne_of_none hD nM)]
        exact hD
      refine ⟨_, rfl, M, ws, rfl, .inl (.inl hM6), hw, hl, k6.1, fun H7 k7 => ?_⟩
      have hM7 := k7.at k6.1 hM6 fun _ z => by cases z
      have hD7 := k7.at k6.1 hD6 fun _ z => by cases z
      have hok : ∀ a ∈ ws, PyData.strOk a = true := fun a ha => strOk_of (hw a ha)
      have hsh := shaped_strs hok
      refine ⟨_, rfl, _, rfl, _, _, .lst (.inl (.inl hM7)) (dps H7 K ws), .lst (.inl (.inl hD7)) (dps H7 K ws), hsh, hsh, _, rfl, ?_⟩
      rw [SeqAt.eqv_refl _ (SeqAt.canLay_of_shaped hsh)]
      refine iteF ⟨_, rfl, _, .ty "str", _, _, true, rfl, .ty _, .base (.str _), kit_ty (by decide +kernel), true, rfl, iteF ?_⟩
      refine ⟨_, rfl, _, rfl, rfl, _, rfl, ?_⟩
      rw [n4]
      refine iteNS rfl ?_
      have w1 : Txt.words (line ++ ge) = ws := line_end n1 hw heb
      have w2 : Txt.words (Txt.join " " ws) = ws := by
        have h1 := line_end n3 hw (g := Str.empty) (fun c hc => by cases hc)
        rw [app_emp, n4] at h1
        exact h1
      have hpl := join_len hw
      have k8 := k6.trans k7
      refine ⟨_, rfl, _, rfl, by rw [Str.length_append]; omega, by rw [w1]; exact hw, by rw [w1]; exact hl, k8.1, fun H8 p k9 np hp => ?_⟩
      rw [w1] at hp
      have hD8 := k9.at k8.1 hD7 fun _ z => by cases z
      refine ⟨_, rfl, p, D, ws, rfl, .inl (.inl hp), .inl (.inl hD8), by omega, hok, fun H9 s9 => ⟨_, rfl, iteT ?_⟩⟩
      have k10 := k8.trans (k9.trans (Kp.same k9.1 s9))
      refine ⟨_, rfl, _, rfl, by omega, by rw [w2]; exact hw, by rw [w2]; exact hl, k10.1, fun H10 p2 k11 np2 hp2 => ?_⟩
      rw [w2] at hp2
      have hD10 := k11.at k10.1 (s9 _ _ hD8) fun _ z => by cases z
      exact ⟨_, rfl, p2, D, ws, rfl, .inl (.inl hp2), .inl (.inl hD10), by omega, hok, fun H11 s11 => q H11⟩
end
/-! ### the head: facts by names, the run -/
def dd (x : Str) (i : Nat) : He.DefD := ⟨(x, none), x, x, defArgs (top i), defBody (top i), defScope (top i), [], []⟩
def fn : List He.DefD := [dd "is_sign" 7, dd "is_word" 8, dd "check_words" 9, dd "check_length" 10, dd "check_text" 11, dd "parted" 12, dd "joined" 13, dd "_law_cell_at" 15, dd "_law_sign_by" 16, dd "_law_word_by" 17, dd "_law_alike" 18, dd "_law_gap" 19, dd "law" 20]
def fa : List He.Fa := [.glo "is_sign", .glo "is_word", .glo "check_words", .glo "check_length", .glo "check_text", .glo "parted", .glo "joined", .glo "_law_cell_at", .glo "_law_sign_by", .glo "_law_word_by", .glo "_law_alike", .glo "_law_gap", .glo "law",
  .int "LONGEST" 40, .int "MOST" 120, .free "isinstance", .free "str", .free "len", .free "all", .free "list", .free "enumerate", .free "range"]
def tf : List He.Defn := [("is_word", none)]
abbrev R : PySem.W.OpenRow := PySem.W.OpenLaw.row PySem.Challenge.rw_redraft_k01_words_of_a_line
abbrev hk : PySem.W.Hook := He.hookX 4 fa fn [] tf (fun _ => true)
def ob (s : PySem.W.SharedT) : He.AlX := He.obsX 4 fa fn [] tf (fun _ => true) (HandSHeadRun.getT s)
theorem ob_eq (s : PySem.W.SharedT) : ob s = hk.obs s.abs := He.obsX_eq (HandSHeadRun.getT_eq s)
abbrev loose : List Str := ["RedraftError", "NoWord", "TooLong", "LONGEST", "MOST", "is_sign", "is_word", "check_words", "check_length", "check_text", "parted", "joined", "_law_cell_at", "_law_sign_by", "_law_word_by", "_law_alike", "_law_gap"]
theorem run (w : World) : HandSHeadRun.RunEq R (PySem.W.view R.prog [20]) hk ob 4000 loose w := by
  intro os
  kernel_rfl
theorem facts {w : World} {h : Heap} {K : PySem.W.Frag} {mg : Str → Option Value} {f : Addr} (X : K.In h) (G : h.Ns mainGlobals mg) (hfa : mg ("law" : Str) = some (.ref f)) (c : He.SaysX fa fn [] tf (fun _ => true) w h K) :
    LamX.LawAtS PySem.Challenge.rw_redraft_k01_words_of_a_line w K (L2.CX PySem.Challenge.rw_redraft_k01_words_of_a_line.prog w) 7 63 "_law_script" mg f h := by
  have d := c.t.d
  obtain ⟨d0, F0⟩ := d.def_ 0 (d := dd "is_sign" 7) rfl
  obtain ⟨d1, F1⟩ := d.def_ 1 (d := dd "is_word" 8) rfl
  obtain ⟨d2, F2⟩ := d.def_ 2 (d := dd "check_words" 9) rfl
  obtain ⟨d3, F3⟩ := d.def_ 3 (d := dd "check_length" 10) rfl
  obtain ⟨d4, F4⟩ := d.def_ 4 (d := dd "check_text" 11) rfl
  obtain ⟨d5, F5⟩ := d.def_ 5 (d := dd "parted" 12) rfl
  obtain ⟨d6, F6⟩ := d.def_ 6 (d := dd "joined" 13) rfl
  obtain ⟨d7, F7⟩ := d.def_ 7 (d := dd "_law_cell_at" 15) rfl
  obtain ⟨d8, F8⟩ := d.def_ 8 (d := dd "_law_sign_by" 16) rfl
  obtain ⟨d9, F9⟩ := d.def_ 9 (d := dd "_law_word_by" 17) rfl
  obtain ⟨d10, F10⟩ := d.def_ 10 (d := dd "_law_alike" 18) rfl
  obtain ⟨d11, F11⟩ := d.def_ 11 (d := dd "_law_gap" 19) rfl
  obtain ⟨d12, F12⟩ := d.def_ 12 (d := dd "law" 20) rfl
  have e := hfa.symm.trans (He.glo_ok X G (d.fact 12 (f := .glo "law") rfl))
  cases e
  obtain ⟨tL, mN⟩ := He.int_ok X G (d.fact 13 (f := .int "LONGEST" 40) rfl)
  obtain ⟨tM, mM⟩ := He.int_ok X G (d.fact 14 (f := .int "MOST" 120) rfl)
  have g0 := He.glo_ok X G (d.fact 0 (f := .glo "is_sign") rfl)
  have g1 := He.glo_ok X G (d.fact 1 (f := .glo "is_word") rfl)
  have g2 := He.glo_ok X G (d.fact 2 (f := .glo "check_words") rfl)
  have g3 := He.glo_ok X G (d.fact 3 (f := .glo "check_length") rfl)
  have g4 := He.glo_ok X G (d.fact 4 (f := .glo "check_text") rfl)
  have g5 := He.glo_ok X G (d.fact 5 (f := .glo "parted") rfl)
  have g6 := He.glo_ok X G (d.fact 6 (f := .glo "joined") rfl)
  have g7 := He.glo_ok X G (d.fact 7 (f := .glo "_law_cell_at") rfl)
  have g8 := He.glo_ok X G (d.fact 8 (f := .glo "_law_sign_by") rfl)
  have g9 := He.glo_ok X G (d.fact 9 (f := .glo "_law_word_by") rfl)
  have g10 := He.glo_ok X G (d.fact 10 (f := .glo "_law_alike") rfl)
  have g11 := He.glo_ok X G (d.fact 11 (f := .glo "_law_gap") rfl)
  have mI := He.free_ok X G (d.fact 15 (f := .free "isinstance") rfl)
  have mS := He.free_ok X G (d.fact 16 (f := .free "str") rfl)
  have mL := He.free_ok X G (d.fact 17 (f := .free "len") rfl)
  have mA := He.free_ok X G (d.fact 18 (f := .free "all") rfl)
  have mT := He.free_ok X G (d.fact 19 (f := .free "list") rfl)
  have mE := He.free_ok X G (d.fact 20 (f := .free "enumerate") rfl)
  have mR := He.free_ok X G (d.fact 21 (f := .free "range") rfl)
  have b0 : Binds K d0 ["sign"] [] := F0.bindsN fun _ _ _ _ _ _ us hl => match us, hl with | [_], _ => rfl
  have b1 : Binds K d1 ["word"] [] := F1.bindsN fun _ _ _ _ _ _ us hl => match us, hl with | [_], _ => rfl
  have b2 : Binds K d2 ["words"] [] := F2.bindsN fun _ _ _ _ _ _ us hl => match us, hl with | [_], _ => rfl
  have b3 : Binds K d3 ["words"] [] := F3.bindsN fun _ _ _ _ _ _ us hl => match us, hl with | [_], _ => rfl
  have b4 : Binds K d4 ["words"] [] := F4.bindsN fun _ _ _ _ _ _ us hl => match us, hl with | [_], _ => rfl
  have b5 : Binds K d5 ["line"] [] := F5.bindsN fun _ _ _ _ _ _ us hl => match us, hl with | [_], _ => rfl
  have b6 : Binds K d6 ["words"] [] := F6.bindsN fun _ _ _ _ _ _ us hl => match us, hl with | [_], _ => rfl
  have b7 : Binds K d7 ["_law_script", "_law_k"] [] := F7.bindsN fun _ _ _ _ _ _ us hl => match us, hl with | [_, _], _ => rfl
  have b8 : Binds K d8 ["_law_cell"] [] := F8.bindsN fun _ _ _ _ _ _ us hl => match us, hl with | [_], _ => rfl
  have b9 : Binds K d9 ["_law_cell"] [] := F9.bindsN fun _ _ _ _ _ _ us hl => match us, hl with | [_], _ => rfl
  have b10 : Binds K d10 ["_law_found", "_law_due"] [] := F10.bindsN fun _ _ _ _ _ _ us hl => match us, hl with | [_, _], _ => rfl
  have b11 : Binds K d11 ["_law_cell"] [] := F11.bindsN fun _ _ _ _ _ _ us hl => match us, hl with | [_], _ => rfl
  have bL := FunD.bindsA (ps := ["_law_script"]) F12 fun _ _ _ _ _ _ us hl => match us, hl with | [_], _ => rfl
  have hdT := c.hd ("is_word", none) List.mem_cons_self
  refine ⟨d12, [He.cT K ("is_word", none)], spLaw K [(He.cT K ("is_word", none)).2], fun p hp => ?_, fun p hp => ?_, fun p hp => ?_, fun s u => bL s [u] rfl, fun H a ns hl _ hT hS => ⟨a, ns, rfl, hS, fun P hP => ?_, fun _ => rfl⟩, fun base KB GB TBs => ?_⟩
  · obtain rfl := List.mem_singleton.mp hp
    exact c.empty _ List.mem_cons_self
  · obtain rfl := List.mem_singleton.mp hp
    exact c.out _ List.mem_cons_self
  · obtain rfl := List.mem_singleton.mp hp
    exact PySem.W.codeHd_of_K X hdT
  · obtain rfl := List.mem_singleton.mp hP
    exact ⟨#[], hT _ List.mem_cons_self, trivial⟩
  · have tb := TBs _ List.mem_cons_self
    have TB : GxR.TabB base mg (He.codeOf K ("is_word", none)) (He.cT K ("is_word", none)).2 := ⟨tb.code, tb.bm, tb.gP⟩
    have GW := ok_is_word (Ps := [(He.cT K ("is_word", none)).2]) (P := PySem.Challenge.rw_redraft_k01_words_of_a_line.prog) (w := w) (mg := mg) (base := base) F1 rfl List.mem_cons_self TB F0 b0 g0 mI mS mL mA mN
    have GC := ok_check_words F2 GW F1.kp b1 g1 mI mT mE
    have GT := ok_check_text F4 GC F2.kp b2 g2 (ok_check_length F3 mL mM) F3.kp b3 g3
    exact ok_law F12 (ok_cell_at F7 mL) F7.kp b7 g7 (ok_word_by F9 F8 b8 g8 mR) F9.kp b9 g9 (ok_gap F11) F11.kp b11 g11 (ok_alike F10 mI mS mT mL mA) F10.kp b10 g10 (ok_joined F6 GT F4.kp b4 g4) F6.kp b6 g6 (ok_parted F5 GT F4.kp b4 g4) F5.kp b5 g5 mI mS mT mL mR
end Rd
open PySem PySem.W PySem.Calls PyProof.Rows
set_option maxHeartbeats 0 in
theorem PySem.Challenge.cw_redraft_k01_words_of_a_line_holds : PySem.Challenge.rw_redraft_k01_words_of_a_line.Holds := by
  w_on; o_law
  refine HandSHeadRun.head_any (r := OpenLaw.row PySem.Challenge.rw_redraft_k01_words_of_a_line) (q := view (OpenLaw.row PySem.Challenge.rw_redraft_k01_words_of_a_line).prog [20]) (H := Rd.hk) (ob := Rd.ob) (M := 4000) (loose := Rd.loose) (d := HandSHeadRun.topDef (OpenLaw.row PySem.Challenge.rw_redraft_k01_words_of_a_line).prog 20) (kwd := []) Rd.ob_eq
    (by kernel_rfl) (fun s => by kernel_rfl) Rd.run (by kernel_rfl) (by kernel_rfl) (by kernel_rfl) (by rfl) (by first | assumption | decide +kernel) (by decide +kernel) ⟨rfl, rfl, rfl, rfl, rfl, by decide +kernel⟩ ?hw ?hc
  case hw => w_witness2
  case hc =>
    refine LamX.walk_ofTsE (l := PySem.Challenge.rw_redraft_k01_words_of_a_line) (n := 63) (k := 7) (x := "_law_script") (CX := fun w => L2.CX PySem.Challenge.rw_redraft_k01_words_of_a_line.prog w) rfl (by decide) (by kernel_rfl) ⟨rfl, by decide, by decide⟩ ?F fun w H s e s' z => ?z
    case z =>
      obtain ⟨_, _, _, _, _, _, _, _, _, _, _, _, z⟩ := z
      exact z
    case F =>
      intro w mg fa h Y G hmg0
      obtain ⟨K, KX, c⟩ := Y
      have hmg : mg ("law" : PySem.Str) = some (.ref fa) := by
        have e : (HandSHeadRun.topDef (OpenLaw.row PySem.Challenge.rw_redraft_k01_words_of_a_line).prog 20).name = ("law" : PySem.Str) := by kernel_rfl
        rw [← e]
        exact hmg0
      exact ⟨K, KX, Rd.facts KX G hmg c⟩

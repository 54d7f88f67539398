import PyProof.Rows.All
import Wide.All
import OpenK.AllK
import Wide.FinOn
import HandS.ForMost
import HandS.ForExc
import HandS.AnyAll
import HandS.GenOver
import HandS.GenList
import HandS.More
import HandS.Defaults
import HandS.HeadHook4
import HandS.IsInst
import HandS.Iter
import HandS.Text
import HandS.Rev
import HandS.RevTup
import HandS.Deep
import HandS.List
import KE.GoesEnum
import PyProof.DictMoreH
import HandS.Base
import HandS.Call
import HandS.Dict
import HandS.SetKeys
import HandS.DictTup
import HandS.TupSets
import HandS.SetBool
import PyProof.StrOps2
import HandS.Head0
import HandS.Head1
import HandS.Head2
import HandS.HeadEnd
import HandS.HeadHook1
import HandS.HeadHook2
import HandS.HeadHook3
import HandS.HeadWalk
import HandS.LawCells
import HandS.Codes
import HandS.TupMul
import HandS.FStr
import HandS.RaiseMore
import HandS.TupAny
import HandS.SortRule
import HandS.TryMany
import HandS.ExcIs
import PySem.Challenge.RW_redraft_k02_words_refused
set_option Elab.async false
set_option linter.all false
set_option maxRecDepth 100000
set_option maxHeartbeats 4000000
/-! all(elt for x in iter if ..), any(..): the element any expression that the layer reads (calls of defs, too), the walked thing any that the layer walks -/
namespace Rd
open PySem PySem.Spec PyProof.Rows L2 GxR

/-- the frame of a generator expression of X, made at s -/
abbrev gcx (X : Cx) (s : Shared) (H : Hp) (sc : Scope) (ce : Env) (fp : List Addr) (a : Addr) (o : Obj) (B : Around) : Cx :=
  { X with A := B, s_0 := s, H_0 := H, env := ce, outer := X.stack, stack := ce :: X.stack, ex := fp, fn := fun x => sc.names.lookup x == some .cell, calm := true, pn := [(a, o)], xe := fun _ _ => False }

theorem not_in_frs {X : Cx} {pins : List (Addr × Obj)} {σ : L2.St} {H : Hp} {s : Shared} (I : Inv X pins σ H s) {b : Addr} (hb : s.heap.objs.size ≤ b) : b ∉ frs X.stack := fun hm => by
  obtain ⟨_, o, ho, _⟩ := I.stack.mem hm
  exact Nat.lt_irrefl _ (Nat.lt_of_lt_of_le (Heap.lt_size ho) hb)

theorem gen_start {X : Cx} {pins : List (Addr × Obj)} {σ : L2.St} {H : Hp} {s s' : Shared} {sc : Scope} {own : List (Str × Nat)} {fp : List Addr} {ce : Env} {a : Addr} {o : Obj} {B : Around}
    (I : Inv X pins σ H s) (ok : BlkOk X.N X.env.scope sc own) (nc : ∀ y ∈ sc.names, y.2 ≠ .cell) (hN : X.N.Nodup) (hfp : ∀ b ∈ fp, FpOk X pins H b ∧ b < s.heap.objs.size)
    (e1 : ce.scope = sc) (e2 : ce.locals = s.heap.objs.size) (e3 : ce.globals = X.env.globals) (e4 : ce.builtins = builtinsNs) (e5 : ce.cells = cloFrom X.env.cells sc.names []) (e6 : ce.frame = some s.heap.objs.size)
    (hB : B.frames = some (ce :: X.stack)) (hh : B.handled = none)
    (os : s'.os = s.os) (gb : AllBare s'.gens) (kp : ∀ b u, s.heap.get? b = some u → s'.heap.get? b = some u) (ns : ∃ m, s'.heap.Ns s.heap.objs.size m) (ha : s'.heap.get? a = some o) (hlt : s.heap.objs.size < a) (hod : ∀ v, o.data ≠ .cell v) :
    Inv (gcx X s H sc ce fp a o B) [] (wipe σ (own.map (·.2))) H s' := by
  have nocell : ∀ y, sc.names.lookup y ≠ some .cell := fun y z => nc _ (PySem.mem_of_lookup z) rfl
  have clo : ∀ {y c}, ce.cells.lookup y = some c → X.env.cells.lookup y = some c ∧ c < s.heap.objs.size := fun {y c} e => by
    rw [e5] at e
    rcases cloFrom_mem (PySem.mem_of_lookup e) with hm | ⟨hy, rfl⟩
    · cases hm
    · have h1 : ∃ c, X.env.cells.lookup y = some c := by
        rcases ok.free _ hy rfl with k | k
        · exact I.ok.has _ (.inl k)
        · exact I.ok.has _ (.inr k)
      obtain ⟨c1, h2⟩ := h1
      rw [h2]
      obtain ⟨v, z⟩ := I.cell _ _ h2
      exact ⟨rfl, z.lt⟩
  have has : ∀ {y}, sc.names.lookup y = some .free → ∃ c, ce.cells.lookup y = some c := fun {y} hy => by
    obtain ⟨c, hc⟩ := mem_lookup (cloFrom_has (cells := X.env.cells) (acc := []) (PySem.mem_of_lookup hy))
    exact ⟨c, by rw [e5]; exact hc⟩
  have okB : (gcx X s H sc ce fp a o B).Ok := by
    refine ⟨I.ok.mod, ?_, ?_, e4, ?_, fun y z c h1 h2 => I.ok.inj y z c (clo h1).1 (clo h2).1, fun y hy => ?_, fun y c z _ => ?_, fun _ => hh, hB, .inr ⟨rfl, ?_⟩, fun b hb => ⟨?_, fun y c e z => ?_⟩, I.bs, Nat.le_trans I.ok.bsz I.sz, fun b u e hb => ?_, fun b hb z => ?_, I.stack, I.stkFree⟩
    · show ce.scope.kind = _
      rw [e1]
      exact ok.kind
    · show ce.globals = _
      rw [e3]
      exact I.ok.glob
    · show s.heap.objs.size ≤ ce.locals
      rw [e2]
      exact Nat.le_refl _
    · show ∃ c, ce.cells.lookup y = some c
      rcases hy with hy | hy
      · have hy : ce.scope.names.lookup y = some .cell := hy
        rw [e1] at hy
        exact absurd hy (nocell y)
      · have hy : ce.scope.names.lookup y = some .free := hy
        rw [e1] at hy
        exact has hy
    · have z : (sc.names.lookup y == some NameKind.cell) = true := z
      exact absurd (by simpa using z) (nocell y)
    · show ce.frame = some ce.locals
      rw [e6, e2]
    · show b ≠ ce.locals
      rw [e2]
      exact Nat.ne_of_lt (hfp b hb).2
    · exact (hfp b hb).1.2.2.2.2.1 y c (clo e).1 z
    · rcases (hfp b hb).1.2.2.2.1 with z | z
      · exact I.ok.noex b u e z
      · exact absurd (Nat.lt_of_lt_of_le (Heap.lt_size e) (Nat.le_trans I.ok.bsz z)) (Nat.lt_irrefl _)
    · rcases List.mem_cons.mp (I.stkSub b z) with z | z
      · exact (hfp b hb).1.2.1 z
      · exact (hfp b hb).1.2.2.1 z
  obtain ⟨m1, hm1⟩ := ns
  refine ⟨okB, os, gb, Un.kept kp, ⟨m1, ?_, fun i y av q1 q2 q3 => ?_⟩, fun y c e => ?_, ?_, fun y c e => I.freeC y c (clo e).1, fun p hp => ?_, I.hok.kept kp, by rw [wipe_length]; exact I.len⟩
  · show Heap.Ns _ ce.locals _
    rw [e2]
    exact hm1
  · obtain ⟨q2, hne⟩ := wipe_some q2
    have q3 : Vis ce.scope y := q3
    rw [e1] at q3
    have q1 : X.N[i]? = some y := q1
    have no : ∀ k, sc.names.lookup y = some k → k = .local ∨ k = .cell → False := fun k e hk => by
      rcases ok.own _ (PySem.mem_of_lookup e) hk with z | z
      · obtain ⟨p, hp, hpy⟩ := List.mem_map.mp z
        have z2 := ok.ix p hp
        have hpy : p.1 = y := hpy
        rw [hpy] at z2
        exact hne (List.mem_map.mpr ⟨p, hp, nodup_ix hN z2 q1⟩)
      · exact z (List.mem_of_getElem? q1)
    have hf : sc.names.lookup y = some .free := by
      rcases q3 with z | z | z
      · exact (no _ z (.inl rfl)).elim
      · exact (no _ z (.inr rfl)).elim
      · exact z
    obtain ⟨m, hn, hl⟩ := I.loc
    have hk := ok.free _ (PySem.mem_of_lookup hf) rfl
    obtain ⟨u, r, q⟩ := hl i y av q1 q2 (hk.elim (fun k => .inr (.inl k)) fun k => .inr (.inr k))
    refine ⟨u, r, .inr ⟨.inr ?_, ?_⟩⟩
    · show ce.scope.names.lookup y = some .free
      rw [e1]
      exact hf
    · obtain ⟨c, hc⟩ := has hf
      rcases q with ⟨k, _⟩ | ⟨_, c', e', z⟩
      · have k : X.env.scope.names.lookup y = some .local := k
        rcases hk with hk | hk <;> rw [show X.env.scope.names.lookup y = _ from hk] at k <;> cases k
      · have hc' := (clo hc).1
        rw [hc'] at e'
        cases e'
        exact ⟨c, hc, z.keeps kp⟩
  · obtain ⟨v, z⟩ := I.cell y c (clo e).1
    exact ⟨v, z.keeps kp⟩
  · show H ce.locals = none
    rw [e2]
    exact I.hok.fresh (Nat.le_refl _)
  · have hp : p = (a, o) := by simpa using hp
    subst hp
    refine ⟨ha, I.hok.fresh (Nat.le_of_lt hlt), ?_, not_in_frs I (Nat.le_of_lt hlt), hod⟩
    show a ≠ ce.locals
    rw [e2]
    exact Nat.ne_of_gt hlt

theorem inv_gens {X : Cx} {pins : List (Addr × Obj)} {σ : L2.St} {H : Hp} {s : Shared} {G : Array GenState} (I : Inv X pins σ H s) (hG : AllBare G) : Inv X pins σ H { s with gens := G } :=
  ⟨I.ok, I.os, hG, I.base, I.loc, I.cell, I.free, I.freeC, I.pin, I.hok, I.len⟩

/-- the reading: J what is walked, k the answer that goes on (True for all, False for any) -/
def tGen (k : Bool) (P : Addr) (wi : TI) (g : TG) (tt : TT) (te : TE) (vs : List Nat) : TE := fun σ H Q => wi σ H fun J H1 => TabG H1 P ∧ ∀ H2, Tabbed P H1 H2 →
  ∃ W : Nat → Nat → Hp → Prop, (∃ m, W 0 m H2) ∧ ∀ i m H, W i m H →
    (J.stop i H ∧ Q (.bl k) H) ∨ (J.go i H ∧ ∃ Nx : Hp → Prop, (∀ H', Nx H' → ∃ m', m' < m ∧ W (i + 1) m' H') ∧ ∀ x H', J.yld i H x H' → g x (wipe σ vs) H' fun σ2 H2 => wipe σ2 vs = wipe σ vs ∧ tt σ2 H2 fun b H3 =>
      if b = true then te σ2 H3 fun y H4 => ∃ c, y = .bl c ∧ (c = k → Nx H4) ∧ (c = (!k) → Q (.bl (!k)) H4) else Nx H3)

/-- the answer is known -/
def Fin (X : Cx) (pins : List (Addr × Obj)) (σ : L2.St) (Q : VK) (b : Bool) (s : Shared) : Prop := ∃ H, Inv X pins σ H s ∧ Q (.bl b) H
theorem Fin.gens {X : Cx} {pins : List (Addr × Obj)} {σ : L2.St} {Q : VK} {b : Bool} {s : Shared} {G : Array GenState} (h : Fin X pins σ Q b s) (hG : AllBare G) : Fin X pins σ Q b { s with gens := G } :=
  let ⟨H, I, q⟩ := h; ⟨H, inv_gens I hG, q⟩
theorem Fin.kept {X : Cx} {pins : List (Addr × Obj)} {σ : L2.St} {Q : VK} {b : Bool} {s : Shared} {h' : Heap} (h : Fin X pins σ Q b s) (k : ∀ c u, s.heap.get? c = some u → h'.get? c = some u) : Fin X pins σ Q b { s with heap := h' } :=
  let ⟨H, I, q⟩ := h; ⟨H, I.kept (t' := s.toks) k, q⟩
/-- the generator's end -/
abbrev GR1 (X : Cx) (pins : List (Addr × Obj)) (σ : L2.St) (Q : VK) (k : Bool) : GenEnd := fun _ _ r s => r = .ok .next ∧ (AllBare s.gens ∧ Fin X pins σ Q k s)
/-- an item comes out -/
abbrev GY1 (X : Cx) (pins : List (Addr × Obj)) (σ : L2.St) (Q : VK) (k : Bool) (a : Addr) (g : Nat) : Protocol := fun _ _ v s kap =>
  ∃ b, v = .bool b ∧ s.heap.IsGen a g ∧ s.heap.NoLimit ∧ AllBare s.gens ∧ (b = (!k) → Fin X pins σ Q (!k) s) ∧ (b = k → ∀ G, AllBare G → kap (.send .none) { s with gens := G })
/-- a generator that is to be asked -/
def Live (X : Cx) (pins : List (Addr × Obj)) (σ : L2.St) (Q : VK) (k : Bool) (a : Addr) (g n : Nat) (s : Shared) : Prop :=
  s.heap.IsGen a g ∧ s.heap.NoLimit ∧ AllBare s.gens ∧ ∃ gs, s.gens[g]? = some gs ∧ gs.Goes (model X.prog X.w) X.A.in1.in1 (GR1 X pins σ Q k) (GY1 X pins σ Q k a g) n (.send .none) (s.setGen g .running)

section
variable {X : Cx} {pins : List (Addr × Obj)} {σ : L2.St} {Q : VK} {a : Addr} {g : Nat}
/-- what a step of the consumer finds -/
theorem next_live {k : Bool} {n : Nat} {s : Shared} {Q' : Option Value → Shared → Prop} {E : Value → Shared → Prop} (hh : X.A.handled = none) (hd : X.A.depth < recursionLimit) (h : Live X pins σ Q k a g n s)
    (hy : ∀ (b : Bool) (s' : Shared), (b = (!k) → Fin X pins σ Q (!k) s') → (b = k → ∃ m, m < n ∧ Live X pins σ Q k a g m s') → Q' (some (.bool b)) s') (he : ∀ s', Fin X pins σ Q k s' → Q' none s') :
    wpAny (model X.prog X.w) X.A.in1 (pyNext (.ref a)) Q' E s := by
  obtain ⟨hg, hl, hb0, gs, hgs, hgo⟩ := h
  have hgl : g < s.gens.size := (Array.getElem?_eq_some_iff.mp hgs).1
  refine GenW.wpAny_gsz (n := g + 1) hgl (wpAny_pyNext_genexpQ (A := X.A.in1) (P := fun _ _ s => AllBare s.gens ∧ Fin X pins σ Q k s) hh hl hd hg hgs hgo (fun v s1 gs1 hbare hv => ?_) fun s1 hp h1 hk => ?_)
  · intro hsz
    obtain ⟨b, rfl, hg1, hl1, hb1, q1, q2⟩ := hv
    have hG : AllBare (s1.setGen g gs1).gens := allBare_setGen hb1 hbare
    have es : s1.setGen g gs1 = { s1 with gens := (s1.setGen g gs1).gens } := rfl
    refine hy b _ (fun e => by rw [es]; exact (q1 e).gens hG) fun e => ?_
    have hsz1 : g < s1.gens.size := by
      have z : (s1.setGen g gs1).gens.size = s1.gens.size := GenW.setGen_size _ _ _
      have z2 : g + 1 ≤ (s1.setGen g gs1).gens.size := hsz
      omega
    cases n with
    | zero => exact False.elim (q2 e s1.gens hb1)
    | succ m =>
      refine ⟨m, Nat.lt_succ_self m, hg1, hl1, hG, gs1, setGen_at hsz1, ?_⟩
      exact q2 e ((s1.setGen g gs1).setGen g .running).gens (allBare_setGen hG rfl)
  · intro _
    have z := (Fin.gens (G := (s1.setGen g .finished).gens) hp.2 (allBare_setGen hp.1 rfl)).kept hk
    exact he _ z

theorem all_loop {R : Result → Shared → Prop} (hh : X.A.handled = none) (hd : X.A.depth < recursionLimit) (hR : ∀ b s, Fin X pins σ Q b s → R (.ok (.ret (.bool b))) s) :
    ∀ (n : Nat) (s : Shared), Live X pins σ Q true a g n s → codeAny (model X.prog X.w) X.A (.builtin "all.loop" ⟨[.ref a], []⟩) R s := by
  intro n
  induction n using Nat.strongRecOn with
  | ind n ih =>
    intro s h
    refine codeAny_builtin F.entry_all_loop ?_
    rw [Around.under_plainId F.plain_all_loop _]
    show wpAny _ X.A.in1 (pyNext (.ref a) >>= _) _ _ s
    refine wpAny_bind (next_live hh hd h (fun b s1 q1 q2 => ?_) fun s1 q => ?_)
    · refine wpAny_bind (wpAny_holding (wpAny_truthy_bool ?_))
      refine wpAny_bind (wpAny_letGo ?_)
      cases b with
      | true =>
        simp only [if_true]
        obtain ⟨m, hm, hL⟩ := q2 rfl
        exact wpAny_pure ⟨plainId_quiet F.plain_all_loop _, ih m hm _ hL⟩
      | false =>
        simp only [Bool.false_eq_true, if_false]
        exact wpAny_bind (wpAny_rule (wpAny_pure (hR _ _ (q1 rfl))))
    · exact wpAny_bind (wpAny_rule (wpAny_pure (hR _ _ q)))
theorem any_loop {R : Result → Shared → Prop} (hh : X.A.handled = none) (hd : X.A.depth < recursionLimit) (hR : ∀ b s, Fin X pins σ Q b s → R (.ok (.ret (.bool b))) s) :
    ∀ (n : Nat) (s : Shared), Live X pins σ Q false a g n s → codeAny (model X.prog X.w) X.A (.builtin "any.loop" ⟨[.ref a], []⟩) R s := by
  intro n
  induction n using Nat.strongRecOn with
  | ind n ih =>
    intro s h
    refine codeAny_builtin F.entry_any_loop ?_
    rw [Around.under_plainId F.plain_any_loop _]
    show wpAny _ X.A.in1 (pyNext (.ref a) >>= _) _ _ s
    refine wpAny_bind (next_live hh hd h (fun b s1 q1 q2 => ?_) fun s1 q => ?_)
    · refine wpAny_bind (wpAny_holding (wpAny_truthy_bool ?_))
      refine wpAny_bind (wpAny_letGo ?_)
      cases b with
      | false =>
        simp only [Bool.false_eq_true, if_false]
        obtain ⟨m, hm, hL⟩ := q2 rfl
        exact wpAny_pure ⟨plainId_quiet F.plain_any_loop _, ih m hm _ hL⟩
      | true =>
        simp only [if_true]
        exact wpAny_bind (wpAny_rule (wpAny_pure (hR _ _ (q1 rfl))))
    · exact wpAny_bind (wpAny_rule (wpAny_pure (hR _ _ q)))
theorem call_all_live {n : Nat} {s : Shared} {Q' : Value → Shared → Prop} {E : Value → Shared → Prop} (hh : X.A.handled = none) (hd : X.A.depth < recursionLimit) (h : Live X pins σ Q true a g n s) (hQ : ∀ b s', Fin X pins σ Q b s' → Q' (.bool b) s') :
    wpAny (model X.prog X.w) X.A (call (.builtin "all") [.ref a]) Q' E s := by
  refine call_function_tree F.kind_all F.plain_all F.entry_all (F.args_all1 _) ?_
  unfold Builtin.«all»
  refine wpAny_bind (m := oneArg "all" _) (wpAny_pure ?_)
  refine wpAny_bind (wpAny_pyIter_gen h.1 ?_)
  exact wpAny_pure ⟨plainId_quiet F.plain_all_loop _, all_loop hh hd (fun b s' q => hQ b s' q) n s h⟩
theorem call_any_live {n : Nat} {s : Shared} {Q' : Value → Shared → Prop} {E : Value → Shared → Prop} (hh : X.A.handled = none) (hd : X.A.depth < recursionLimit) (h : Live X pins σ Q false a g n s) (hQ : ∀ b s', Fin X pins σ Q b s' → Q' (.bool b) s') :
    wpAny (model X.prog X.w) X.A (call (.builtin "any") [.ref a]) Q' E s := by
  refine call_function_tree F.kind_any F.plain_any F.entry_any (F.args_any1 _) ?_
  unfold Builtin.«any»
  refine wpAny_bind (m := oneArg "any" _) (wpAny_pure ?_)
  refine wpAny_bind (wpAny_pyIter_gen h.1 ?_)
  exact wpAny_pure ⟨plainId_quiet F.plain_any_loop _, any_loop hh hd (fun b s' q => hQ b s' q) n s h⟩
end

/-! ### the generator's own turns -/
theorem mono_no {α : Type} {t : Sem α} {Q Q' : α → Shared → Prop} {M : Model} {A : Around} {E : Value → Shared → Prop} {s : Shared} (h : wpAny M A t Q (fun _ _ => False) s) (hQ : ∀ a s, Q a s → Q' a s) : wpAny M A t Q' E s :=
  wpAny_mono h hQ fun _ _ z => False.elim z

section
variable {X : Cx} {pins : List (Addr × Obj)} {σ : L2.St} {Q : VK} {k : Bool} {a : Addr} {g : Nat} {o : Obj} {s4 : Shared} {H3 : Hp} {sc : Scope} {own : List (Str × Nat)} {ce : Env} {fp : List Addr} {it : Addr} {tn : Nat → Heap → Prop} {J : It} {B : Around}
  {elt tg iter : Expr} {ifs : List Expr} {pos : Pos} {gt : TG} {tt : TT} {te : TE} {W : Nat → Nat → Hp → Prop}
theorem gen_turns (hB : B = X.A.in1.in1.over (.compLoop (.GeneratorExp elt [⟨tg, iter, ifs, 0⟩] sc pos) 0 (.ref it) .none ce) []) (hco : ce.scope.isCoroutine = false)
    (I4 : Inv X pins σ H3 s4) (T : Turn X.prog X.w X.K tg J fp it tn) (ffp : ∀ b ∈ fp, FpOk X pins H3 b) (hafp : ∀ b ∈ fp, b ≠ a) (hgo : ∃ nm qn, o.cls = .type "generator" ∧ o.data = .fields #[.int g 0, nm, qn] ∧ o.slots = #[])
    (pg : PG (gcx X s4 H3 sc ce fp a o B) tg gt) (pt : PTs (gcx X s4 H3 sc ce fp a o B) ifs tt) (pe : PE (gcx X s4 H3 sc ce fp a o B) elt te)
    (turn : ∀ i m H, W i m H → (J.stop i H ∧ Q (.bl k) H) ∨ (J.go i H ∧ ∃ Nx : Hp → Prop, (∀ H', Nx H' → ∃ m', m' < m ∧ W (i + 1) m' H') ∧ ∀ x H', J.yld i H x H' → gt x (wipe σ (own.map (·.2))) H' fun σ2 H2 => wipe σ2 (own.map (·.2)) = wipe σ (own.map (·.2)) ∧ tt σ2 H2 fun b H3 =>
      if b = true then te σ2 H3 fun y H4 => ∃ c, y = .bl c ∧ (c = k → Nx H4) ∧ (c = (!k) → Q (.bl (!k)) H4) else Nx H3)) :
    ∀ (m n i : Nat) (s0 s : Shared) (H : Hp), m < n → Inv (gcx X s4 H3 sc ce fp a o B) [] (wipe σ (own.map (·.2))) H s → tn i s.heap → (∀ b ∈ fp, H b = none) → W i m H →
      Seg (model X.prog X.w) X.A.in1.in1 (GR1 X pins σ Q k) (GY1 X pins σ Q k a g) n s0 (.compLoop (.GeneratorExp elt [⟨tg, iter, ifs, 0⟩] sc pos) 0 (.ref it) .none ce)
        ((model X.prog X.w).den (.compLoop (.GeneratorExp elt [⟨tg, iter, ifs, 0⟩] sc pos) 0 (.ref it) .none ce)) [] s := by
  have stat : ∀ {σ' : L2.St} {H' : Hp} {s' : Shared}, Inv (gcx X s4 H3 sc ce fp a o B) [] σ' H' s' → (∀ b ∈ fp, H' b = none) → ∀ b ∈ fp, FpOk (gcx X s4 H3 sc ce fp a o B) [] H' b := fun {σ' H' s'} I' hn b hb =>
    ⟨hn b hb, (I'.ok.exf b hb).1, I'.ok.exfs b hb, .inl hb, fun x c e => (I'.ok.exf b hb).2 x c e, fun p hp z => by
      have hp : p = (a, o) := by simpa using hp
      subst hp
      exact hafp b hb z.symm⟩
  -- back in the def's context
  have back : ∀ {σ' : L2.St} {H' : Hp} {s' : Shared} {ps : List (Addr × Obj)}, Inv (gcx X s4 H3 sc ce fp a o B) ps σ' H' s' → Inv X pins σ H' s' := fun {σ' H' s' ps} I6 =>
    I4.call' (ch := fp) I6.os I6.base I6.hok I6.bare fun b hb => ⟨(ffp b hb).2.2.2.1, (ffp b hb).2.1, (ffp b hb).2.2.2.2.1, (ffp b hb).2.2.2.2.2⟩
  have isg : ∀ {σ' : L2.St} {H' : Hp} {s' : Shared} {ps : List (Addr × Obj)}, Inv (gcx X s4 H3 sc ce fp a o B) ps σ' H' s' → s'.heap.IsGen a g := fun {σ' H' s' ps} I6 => by
    obtain ⟨nm, qn, h1, h2, h3⟩ := hgo
    exact ⟨o, nm, qn, (I6.pin (a, o) (by simp)).1, h1, h2, h3⟩
  have hy : ∀ v, yieldOut ce v = yieldValue v := fun v => by simp only [yieldOut, hco, Bool.false_eq_true, if_false]
  intro m
  induction m using Nat.strongRecOn with
  | ind m ih =>
    intro n i s0 s H hmn I st nf w
    show Seg _ X.A.in1.in1 _ _ _ s0 _ ((compTurn (.GeneratorExp elt [⟨tg, iter, ifs, 0⟩] sc pos) 0 (.ref it) .none ce).onRaise (leaving ce)) [] s
    rw [compTurn_gen, Sem.onRaise_eq_wrap]
    refine seg_bind_wrap (wpAny_standAt ?_)
    rcases turn i m H w with ⟨stop, q⟩ | ⟨go, Nx, hNx, step⟩
    · refine seg_bind_wrap ?_
      rw [← hB]
      refine mono_no (T.done (gcx X s4 H3 sc ce fp a o B) rfl rfl rfl rfl i [] s _ H (fun _ _ => False) I (stat I nf) st stop) fun r s6 hr => ?_
      obtain ⟨hr, I6⟩ := hr
      subst hr
      exact seg_end (.ok .next) ⟨rfl, I6.bare, H, back I6, q⟩
    · refine seg_bind_wrap ?_
      rw [← hB]
      refine mono_no (T.item (gcx X s4 H3 sc ce fp a o B) rfl rfl rfl rfl i [] s _ H (fun _ _ => False) I (stat I nf) st go) fun r s6 hr => ?_
      obtain ⟨u, hr, h6⟩ := hr
      subst hr
      refine seg_bind_wrap ?_
      rw [← hB]
      refine mono_no h6 fun _ s7 h7 => ?_
      obtain ⟨x, H7, I7, r7, y7, st7, n7⟩ := h7
      have I7' := I7.pinned (stat I7 n7) (T.obj _ _ st7)
      refine seg_bind_wrap ?_
      rw [← hB]
      refine mono_no (pg.run _ s7 _ H7 x u _ I7' r7 (step x H7 y7)) fun _ s8 h8 => ?_
      obtain ⟨σ8, H8, I8, hw8, q8⟩ := h8
      refine seg_bind_wrap ?_
      rw [← hB]
      refine mono_no (pt.run _ s8 σ8 H8 _ I8 q8) fun b s9 h9 => ?_
      obtain ⟨H9, I9, q9⟩ := h9
      -- the turn's end
      have fin : ∀ {s' : Shared} {H' : Hp}, Inv (gcx X s4 H3 sc ce fp a o B) ([] ++ pinsAt fp s7.heap) σ8 H' s' → Nx H' → ∃ m', m' < m ∧ Inv (gcx X s4 H3 sc ce fp a o B) [] (wipe σ (own.map (·.2))) H' s' ∧ tn (i + 1) s'.heap ∧ (∀ b ∈ fp, H' b = none) ∧ W (i + 1) m' H' := fun {s' H'} I' nx => by
        obtain ⟨m', hm, w'⟩ := hNx H' nx
        have pin' : ∀ b ∈ fp, ∀ ob, s7.heap.get? b = some ob → s'.heap.get? b = some ob ∧ H' b = none := fun b hb ob e => by
          have z := I'.pin (b, ob) (List.mem_append_right _ (List.mem_append_right _ (mem_pinsAt hb e)))
          exact ⟨z.1, z.2.1⟩
        have hl : (wipe σ (own.map (·.2))).length = σ8.length := by rw [← hw8, wipe_length]
        refine ⟨m', hm, (I'.unpinned (pins := [])).weak hl (fun j v e => ?_), T.keep _ _ _ st7 fun b hb ob e => (pin' b hb ob e).1, fun b hb => ?_, w'⟩
        · rw [← hw8] at e
          exact (wipe_some e).1
        · obtain ⟨ob, e, _⟩ := T.obj _ _ st7 b hb
          exact (pin' b hb ob e).2
      cases b with
      | false =>
        simp only [Bool.false_eq_true, if_false] at q9 ⊢
        obtain ⟨m', hm, J1, J2, J3, J4⟩ := fin I9 q9
        exact seg_again rfl (ih m' hm n (i + 1) s0 s9 H9 (Nat.lt_trans hm hmn) J1 J2 J3 J4)
      | true =>
        simp only [if_true] at q9 ⊢
        simp only [hy]
        rw [Sem.bind_eq_wrap', Sem.bind_eq_wrap', Sem.wrap_wrap, Sem.wrap_wrap]
        refine seg_wrap ?_
        rw [← hB]
        refine mono_no (pe.run _ s9 σ8 H9 _ I9 q9) fun z s10 h10 => ?_
        obtain ⟨y, H10, I10, r10, c, rfl, c1, c2⟩ := h10
        obtain rfl : z = Value.bool c := r10
        obtain ⟨n', rfl⟩ : ∃ n', n = n' + 1 := ⟨n - 1, by omega⟩
        refine seg_at (seg_yield rfl rfl rfl ⟨c, rfl, isg I10, I10.nolimit, I10.bare, fun e => ⟨H10, back I10, c2 e⟩, fun e G hG => ?_⟩)
        obtain ⟨m', hm, J1, J2, J3, J4⟩ := fin I10 (c1 e)
        exact seg_again rfl (ih m' hm n' (i + 1) _ _ H10 (by omega) (inv_gens J1 hG) J2 J3 J4)

/-- .. from its start -/
theorem gen_begins (hB : B = X.A.in1.in1.over (.compLoop (.GeneratorExp elt [⟨tg, iter, ifs, 0⟩] sc pos) 0 (.ref it) .none ce) []) (hco : ce.scope.isCoroutine = false)
    (I4 : Inv X pins σ H3 s4) (T : Turn X.prog X.w X.K tg J fp it tn) (ffp : ∀ b ∈ fp, FpOk X pins H3 b) (hafp : ∀ b ∈ fp, b ≠ a) (hgo : ∃ nm qn, o.cls = .type "generator" ∧ o.data = .fields #[.int g 0, nm, qn] ∧ o.slots = #[])
    (pg : PG (gcx X s4 H3 sc ce fp a o B) tg gt) (pt : PTs (gcx X s4 H3 sc ce fp a o B) ifs tt) (pe : PE (gcx X s4 H3 sc ce fp a o B) elt te)
    (turn : ∀ i m H, W i m H → (J.stop i H ∧ Q (.bl k) H) ∨ (J.go i H ∧ ∃ Nx : Hp → Prop, (∀ H', Nx H' → ∃ m', m' < m ∧ W (i + 1) m' H') ∧ ∀ x H', J.yld i H x H' → gt x (wipe σ (own.map (·.2))) H' fun σ2 H2 => wipe σ2 (own.map (·.2)) = wipe σ (own.map (·.2)) ∧ tt σ2 H2 fun b H3 =>
      if b = true then te σ2 H3 fun y H4 => ∃ c, y = .bl c ∧ (c = k → Nx H4) ∧ (c = (!k) → Q (.bl (!k)) H4) else Nx H3))
    {m : Nat} {s0 s : Shared} {H : Hp} (I : Inv (gcx X s4 H3 sc ce fp a o B) [] (wipe σ (own.map (·.2))) H s) (st : tn 0 s.heap) (nf : ∀ b ∈ fp, H b = none) (w : W 0 m H) :
      Seg (model X.prog X.w) X.A.in1.in1 (GR1 X pins σ Q k) (GY1 X pins σ Q k a g) (m + 1) s0 (.compStart (.GeneratorExp elt [⟨tg, iter, ifs, 0⟩] sc pos) 0 (.ref it) .none ce)
        ((model X.prog X.w).den (.compStart (.GeneratorExp elt [⟨tg, iter, ifs, 0⟩] sc pos) 0 (.ref it) .none ce)) [] s := by
  have loop := gen_turns (W := W) hB hco I4 T ffp hafp hgo pg pt pe turn m (m + 1) 0 s0 s H (Nat.lt_succ_self m) I st nf w
  show Seg _ X.A.in1.in1 _ _ _ s0 _ ((compStart (.GeneratorExp elt [⟨tg, iter, ifs, 0⟩] sc pos) 0 (.ref it) .none ce).onRaise (leaving ce)) [] s
  unfold compStart
  rw [Sem.onRaise_eq_wrap]
  show Seg _ X.A.in1.in1 _ _ _ s0 _ ((ask >>= _).wrap _ _ _ _) [] s
  refine seg_bind_wrap (wpAny_askSetting ?_)
  split
  · exact seg_again rfl loop
  · first
      | exact seg_bind_wrap (wpAny_rule (seg_bind_wrap (wpAny_standAt (seg_bind_wrap (T.self _ 0 s _ _ st (seg_again rfl loop))))))
      | (refine seg_bind_wrap (wpAny_rule ?_); show Seg _ X.A.in1.in1 _ _ _ s0 _ ((standAt iter.pos >>= _).wrap _ _ _ _) [] s; exact seg_bind_wrap (wpAny_standAt (seg_bind_wrap (T.self _ 0 s _ _ st (seg_again rfl loop)))))
end

/-- the generator expression's own scope -/
structure GScp (X : Cx) (sc : Scope) (own : List (Str × Nat)) : Prop where
  co : sc.isCoroutine = false
  cell : ∀ y ∈ sc.names, y.2 ≠ .cell
  dot : sc.names.lookup (".0" : Str) = some NameKind.local
  blk : BlkOk X.N X.env.scope sc own

section
variable {X : Cx} {pins : List (Addr × Obj)} {σ : L2.St} {H : Hp} {s : Shared} {Q : VK} {k : Bool} {j : Nat} {c P : Addr} {sc : Scope} {own : List (Str × Nat)} {elt tg iter : Expr} {ifs : List Expr} {gpos p pos : Pos} {wi : TI} {gt : TG} {tt : TT} {te : TE}
theorem gen_room {X : Cx} {j : Nat} {code : Code} (hr : Room (j + 1) X.A) (h1 : code.weight = 1) (h2 : code.cUnits ≤ 3) : Room j (X.A.in1.in1.over code []) := by
  refine ⟨hr.hd, ?_, ?_⟩
  · have e : (X.A.in1.in1.over code []).depth = X.A.depth + 0 + code.weight := rfl
    have := hr.dp
    rw [e, h1]
    omega
  · have e : (X.A.in1.in1.over code []).units = X.A.units + 1 + 1 + 0 + code.cUnits := rfl
    have := hr.un
    rw [e]
    omega
theorem gen_frames {A : Around} {l : List Env} {ce : Env} {iv acc : Value} (h : A.frames = some l) : (A.in1.in1.over (.compLoop (.GeneratorExp elt [⟨tg, iter, ifs, 0⟩] sc gpos) 0 iv acc ce) []).frames = some (ce :: l) := by
  have e : A.in1.in1.frames = some l := h
  have e2 : (A.in1.in1.over (.compLoop (.GeneratorExp elt [⟨tg, iter, ifs, 0⟩] sc gpos) 0 iv acc ce) []).frames = pushEnvs (Code.envs (.compLoop (.GeneratorExp elt [⟨tg, iter, ifs, 0⟩] sc gpos) 0 iv acc ce)) (pushEnvs (envsOf []) A.in1.in1.frames) := rfl
  rw [e2, e]
  rfl
theorem gen_made {Q' : Value → Shared → Prop} (hr : Room (j + 1) X.A) (hN : X.N.Nodup) (TB : TabB X.base X.mg c P) (hcode : X.env.code = .ref c) (S : GScp X sc own) (hi : PI X tg iter wi)
    (hg : ∀ (s : Shared) (H : Hp) (cl : List (Str × Addr)) (C : Addr) (code : Value) (fp : List Addr) (a : Addr) (o : Obj) (B : Around), PG (gcx X s H sc (genEnv sc cl C code builtinsNs X.env) fp a o B) tg gt)
    (ht : ∀ (s : Shared) (H : Hp) (cl : List (Str × Addr)) (C : Addr) (code : Value) (fp : List Addr) (a : Addr) (o : Obj) (B : Around), Room j B → PTs (gcx X s H sc (genEnv sc cl C code builtinsNs X.env) fp a o B) ifs tt)
    (he : ∀ (s : Shared) (H : Hp) (cl : List (Str × Addr)) (C : Addr) (code : Value) (fp : List Addr) (a : Addr) (o : Obj) (B : Around), Room j B → PE (gcx X s H sc (genEnv sc cl C code builtinsNs X.env) fp a o B) elt te)
    (hs : ∀ v, genFold iter X.env v = pure v) (I : Inv X pins σ H s) (h : tGen k P wi gt tt te (own.map (·.2)) σ H Q) (hQ : ∀ a g n s5, Live X pins σ Q k a g n s5 → Q' (.ref a) s5) :
    wpAny (model X.prog X.w) X.A (eval (.GeneratorExp elt [⟨tg, iter, ifs, 0⟩] sc gpos) X.env) Q' X.xe s := by
  have hfree : ∀ y ∈ sc.names, y.2 = .free → ∃ c, X.env.cells.lookup y.1 = some c := fun y hy e => by
    rcases S.blk.free y hy e with k | k
    · exact I.ok.has _ (.inl k)
    · exact I.ok.has _ (.inr k)
  refine wpAny_GeneratorExp_make S.co (closure_ok hfree) S.cell S.dot S.blk.kind (by have := hr.dp; omega) ?_ hs
  refine thn (hi.run pins s σ H _ I h) fun xv s1 hx => thn hx fun itv s2 h2 => ?_
  obtain ⟨it, fp, tn, J, H2, rfl, I2, T, st2, f2, ⟨ps, hP, hTr⟩, q⟩ := h2
  have hPs : s2.heap.get? P = some { cls := .none, data := .fields ps } := I2.hok P _ hP
  have cd : PySem.W.CodeHd s2.heap c P := TB.code.keeps fun b u e => I2.bk b u e
  refine ⟨I2.nolimit, ?_⟩
  have nP : ∀ b, H2 b = none → b ≠ P := fun b e z => by
    rw [z, hP] at e
    cases e
  have szf : ∀ b ∈ fp, b < s2.heap.objs.size := fun b hb => by
    obtain ⟨u, e, _⟩ := T.obj _ _ st2 b hb
    exact Heap.lt_size e
  have cont : ∀ (code : Value) (h3 : Heap) (tk : Nat) (ps' : Array Value), Heap.ExtBut P s2.heap h3 → s2.heap.objs.size ≤ h3.objs.size → h3.get? P = some { cls := .none, data := .fields ps' } → (∃ more, ps' = ps ++ more) → TriplesOk ps'.toList →
      wpAny (model X.prog X.w) X.A (builtinsFor X.env.globals X.env.builtins) (fun bi s₄ =>
        ∀ h', h'.Ns s₄.heap.objs.size (fun y => if y = ".0" then some (.ref it) else none) → Heap.SameBut s₄.heap.objs.size (s₄.heap.push { cls := .type "frame", data := .dict #[] }) h' →
          Q' (.ref h'.objs.size) { s₄ with
            gens := s₄.gens.push (.fresh (.compStart (.GeneratorExp elt [⟨tg, iter, ifs, 0⟩] sc gpos) 0 (.ref it) .none (genEnv sc (cloFrom X.env.cells sc.names []) s₄.heap.objs.size code bi X.env))),
            toks := s₄.toks + 1 + 1 + 1,
            heap := h'.push { cls := .type "generator", data := .fields #[.int s₄.gens.size 0, .str "<genexpr>" (s₄.toks + 1), .str (X.env.qual ++ "<genexpr>") (s₄.toks + 1 + 1)] } }) X.xe { s2 with heap := h3, toks := tk } := by
    intro code h3 tk ps' hx3 hsz3 hP3 hmore ht3
    have I3 : Inv X pins σ (upd H2 P (.tbl ps')) { s2 with heap := h3, toks := tk } := by
      obtain ⟨more, rfl⟩ := hmore
      exact inv_tab (more := more) (h' := h3) (g' := s2.gens) (d' := s2.drawn) (t' := tk) I2 hP (fun b u hb e => hx3 b u hb e) hP3 I2.bare
    generalize hH3 : upd H2 P (.tbl ps') = H3 at I3
    have hT3 : Tabbed P H2 H3 := by
      rw [← hH3]
      exact ⟨⟨ps', upd_same, ht3⟩, fun b hb => upd_ne hb⟩
    obtain ⟨W, ⟨m0, w0⟩, turn⟩ := q H3 hT3
    obtain ⟨bm, ob, e1, e2, e3, e4, e5, e6, e7, e8⟩ := TB.bm
    refine wpAny_builtinsFor (m := X.mg) (by rw [I3.ok.glob]; exact I3.mod.glob.keeps I3.bk) e1 e2 (I3.bk _ _ e5) e6 e7 e8 ?_
    intro h' hn' hs'
    have hsz : h'.objs.size = h3.objs.size + 1 := by
      rw [hs'.1, Heap.size_push]
    have keep' : ∀ b u, h3.get? b = some u → h'.get? b = some u := fun b u e => hs'.extBut b u (Nat.ne_of_lt (Heap.lt_size e)) (Heap.get?_push_of_some _ e)
    have hlt : h3.objs.size < h'.objs.size := by
      have hsz' : h'.objs.size = h3.objs.size + 1 := hsz
      omega
    have f3 : ∀ b ∈ fp, FpOk X pins H3 b := fun b hb => by
      have z := f2 b hb
      exact ⟨(hT3.2 b (nP b z.1)).trans z.1, z.2⟩
    have st3 : tn 0 h3 := T.keep _ _ _ st2 fun b hb u e => hx3 b u (nP b (f2 b hb).1) e
    have gb : AllBare (s2.gens.push (.fresh (.compStart (.GeneratorExp elt [⟨tg, iter, ifs, 0⟩] sc gpos) 0 (.ref it) .none (genEnv sc (cloFrom X.env.cells sc.names []) h3.objs.size code builtinsNs X.env)))) := I2.bare.push rfl
    have hsz2 : ∀ b ∈ fp, b < h3.objs.size := fun b hb => Nat.lt_of_lt_of_le (szf b hb) hsz3
    have keep5 : ∀ (u : Obj) b v, h3.get? b = some v → (h'.push u).get? b = some v := fun u b v e => Heap.get?_push_of_some _ (keep' b v e)
    refine hQ _ s2.gens.size (m0 + 1) _ ⟨⟨_, _, _, Heap.get?_push_size _ rfl, rfl, rfl, rfl⟩, I3.nolimit.keeps (keep5 _), gb, _, Array.getElem?_push_size .., rfl, ?_⟩
    refine gen_begins (own := own) (fp := fp) (tn := tn) (J := J) (W := W) (H3 := H3) (s4 := { s2 with heap := h3, toks := tk }) rfl S.co I3 T f3 (fun b hb z => ?_) ⟨_, _, rfl, rfl, rfl⟩ (hg _ _ _ _ _ _ _ _ _) (ht _ _ _ _ _ _ _ _ _ (gen_room hr rfl (by show (3 : Nat) ≤ 3; decide))) (he _ _ _ _ _ _ _ _ _ (gen_room hr rfl (by show (3 : Nat) ≤ 3; decide))) turn
      (inv_gens (gen_start (s' := { s2 with heap := h'.push _, toks := tk + 1 + 1 + 1, gens := s2.gens.push _ }) (a := h'.objs.size) I3 S.blk S.cell hN (fun b hb => ⟨f3 b hb, hsz2 b hb⟩) rfl rfl rfl rfl rfl rfl ?_ hr.hd rfl gb (keep5 _) ⟨_, Heap.Ns.push hn' _⟩ (Heap.get?_push_size _ rfl) hlt (fun v z => by cases z)) (allBare_setGen (s := { s2 with heap := h'.push _, toks := tk + 1 + 1 + 1, gens := s2.gens.push _ }) gb rfl))
      (T.keep _ _ _ st3 fun b hb u e => keep5 _ b u e) (fun b hb => (f3 b hb).1) w0
    · have h1 := hsz2 b hb
      rw [z] at h1
      exact absurd (Nat.lt_trans h1 hlt) (Nat.lt_irrefl _)
    · exact gen_frames I3.ok.frames
  cases hf : codeAmong gpos ps.toList with
  | none =>
    refine wpAny_genexprCodeX hcode (cd.code hPs hTr) (cd.tab hPs) hf fun c' h' tk hx hge hlt hco' _ htab' _ => ?_
    obtain ⟨o1, vs, f1, tf, fl, tg1, inF, tx, tt1, op, _, _, _, _, _, _, _, _, _, htr, _⟩ := hco'
    exact cont _ h' tk _ hx (Nat.le_trans hge (Nat.le_of_lt hlt)) htab'.2 ⟨_, rfl⟩ htr
  | some cv =>
    refine wpAny_genexprCode_hit hcode (cd.code hPs hTr) hf ?_
    exact cont cv s2.heap s2.toks ps (Heap.ExtBut.refl _ _) (Nat.le_refl _) hPs ⟨#[], by simp⟩ hTr

/-- all(elt for tg in iter if ..) -/
theorem pe_allG (hr : Room (j + 1) X.A) (hN : X.N.Nodup) (hgl : Gl X "all") (hm : X.mg "all" = none) (hb : bootBuiltins "all" = some (.builtin "all")) (TB : TabB X.base X.mg c P) (hcode : X.env.code = .ref c) (S : GScp X sc own) (hi : PI X tg iter wi)
    (hg : ∀ (s : Shared) (H : Hp) (cl : List (Str × Addr)) (C : Addr) (code : Value) (fp : List Addr) (a : Addr) (o : Obj) (B : Around), PG (gcx X s H sc (genEnv sc cl C code builtinsNs X.env) fp a o B) tg gt)
    (ht : ∀ (s : Shared) (H : Hp) (cl : List (Str × Addr)) (C : Addr) (code : Value) (fp : List Addr) (a : Addr) (o : Obj) (B : Around), Room j B → PTs (gcx X s H sc (genEnv sc cl C code builtinsNs X.env) fp a o B) ifs tt)
    (he : ∀ (s : Shared) (H : Hp) (cl : List (Str × Addr)) (C : Addr) (code : Value) (fp : List Addr) (a : Addr) (o : Obj) (B : Around), Room j B → PE (gcx X s H sc (genEnv sc cl C code builtinsNs X.env) fp a o B) elt te)
    (hs : ∀ v, genFold iter X.env v = pure v := by intro _; rfl)
    (hst : starEach [.GeneratorExp elt [⟨tg, iter, ifs, 0⟩] sc gpos] X.env = (false, eval (.GeneratorExp elt [⟨tg, iter, ifs, 0⟩] sc gpos) X.env) :: starEach [] X.env := by rfl) :
    PE X (.Call (.Name "all" p) [.GeneratorExp elt [⟨tg, iter, ifs, 0⟩] sc gpos] [] pos) (tGen true P wi gt tt te (own.map (·.2))) := by
  refine ⟨fun pins s σ H Q I h => ?_⟩
  refine wpAny_Call_Name_kw (ld_blt I hgl hm hb ?_)
  refine PyProof.Rows.callWith_builtin1 ?_ hst (by rfl)
  rw [hst]
  show wpAny _ _ (spliced ((false, eval (.GeneratorExp elt [⟨tg, iter, ifs, 0⟩] sc gpos) X.env) :: backTo pos (starEach [] X.env))) _ _ s
  refine Calls.spliced_cons (gen_made hr hN TB hcode S hi hg ht he hs I h fun a g n s5 hL => ?_)
  refine Calls.spliced_nil ?_
  refine call_all_live hr.hd (by have := hr.dp; omega) hL fun b s' hf => ?_
  obtain ⟨H', I', q⟩ := hf
  exact ⟨.bl b, H', I', rfl, q⟩
/-- any(elt for tg in iter if ..) -/
theorem pe_anyG (hr : Room (j + 1) X.A) (hN : X.N.Nodup) (hgl : Gl X "any") (hm : X.mg "any" = none) (hb : bootBuiltins "any" = some (.builtin "any")) (TB : TabB X.base X.mg c P) (hcode : X.env.code = .ref c) (S : GScp X sc own) (hi : PI X tg iter wi)
    (hg : ∀ (s : Shared) (H : Hp) (cl : List (Str × Addr)) (C : Addr) (code : Value) (fp : List Addr) (a : Addr) (o : Obj) (B : Around), PG (gcx X s H sc (genEnv sc cl C code builtinsNs X.env) fp a o B) tg gt)
    (ht : ∀ (s : Shared) (H : Hp) (cl : List (Str × Addr)) (C : Addr) (code : Value) (fp : List Addr) (a : Addr) (o : Obj) (B : Around), Room j B → PTs (gcx X s H sc (genEnv sc cl C code builtinsNs X.env) fp a o B) ifs tt)
    (he : ∀ (s : Shared) (H : Hp) (cl : List (Str × Addr)) (C : Addr) (code : Value) (fp : List Addr) (a : Addr) (o : Obj) (B : Around), Room j B → PE (gcx X s H sc (genEnv sc cl C code builtinsNs X.env) fp a o B) elt te)
    (hs : ∀ v, genFold iter X.env v = pure v := by intro _; rfl)
    (hst : starEach [.GeneratorExp elt [⟨tg, iter, ifs, 0⟩] sc gpos] X.env = (false, eval (.GeneratorExp elt [⟨tg, iter, ifs, 0⟩] sc gpos) X.env) :: starEach [] X.env := by rfl) :
    PE X (.Call (.Name "any" p) [.GeneratorExp elt [⟨tg, iter, ifs, 0⟩] sc gpos] [] pos) (tGen false P wi gt tt te (own.map (·.2))) := by
  refine ⟨fun pins s σ H Q I h => ?_⟩
  refine wpAny_Call_Name_kw (ld_blt I hgl hm hb ?_)
  refine PyProof.Rows.callWith_builtin1 ?_ hst (by rfl)
  rw [hst]
  show wpAny _ _ (spliced ((false, eval (.GeneratorExp elt [⟨tg, iter, ifs, 0⟩] sc gpos) X.env) :: backTo pos (starEach [] X.env))) _ _ s
  refine Calls.spliced_cons (gen_made hr hN TB hcode S hi hg ht he hs I h fun a g n s5 hL => ?_)
  refine Calls.spliced_nil ?_
  refine call_any_live hr.hd (by have := hr.dp; omega) hL fun b s' hf => ?_
  obtain ⟨H', I', q⟩ := hf
  exact ⟨.bl b, H', I', rfl, q⟩
end
end Rd

namespace Rd
open PySem PySem.Spec PyProof.Rows L2 GxR

/-! ### heaps: all that was tracked is as it was, but for the tables of the defs that hold a generator expression -/
def Tb (Ps : List Addr) (H : Hp) : Prop := ∀ P ∈ Ps, TabG H P
def Kp (Ps : List Addr) (H H' : Hp) : Prop := Tb Ps H' ∧ ∀ b o, b ∉ Ps → H b = some o → H' b = some o
theorem Kp.refl {Ps : List Addr} {H : Hp} (t : Tb Ps H) : Kp Ps H H := ⟨t, fun _ _ _ e => e⟩
theorem Kp.trans {Ps : List Addr} {H H1 H2 : Hp} (a : Kp Ps H H1) (b : Kp Ps H1 H2) : Kp Ps H H2 := ⟨b.1, fun c o hc e => b.2 c o hc (a.2 c o hc e)⟩
theorem Tb.notin {Ps : List Addr} {H : Hp} (t : Tb Ps H) {b : Addr} {o : HO} (e : H b = some o) (ho : ∀ ps, o ≠ .tbl ps) : b ∉ Ps := fun hb => by
  obtain ⟨ps, h1, _⟩ := t b hb
  rw [e] at h1
  exact ho ps (Option.some.inj h1)
theorem Tb.none {Ps : List Addr} {H : Hp} (t : Tb Ps H) {b : Addr} (e : H b = Option.none) : b ∉ Ps := fun hb => by
  obtain ⟨ps, h1, _⟩ := t b hb
  rw [e] at h1
  cases h1
theorem Tb.same {Ps : List Addr} {H H' : Hp} (t : Tb Ps H) (s : Same H H') : Tb Ps H' := fun P hP => by
  obtain ⟨ps, h1, h2⟩ := t P hP
  exact ⟨ps, s _ _ h1, h2⟩
theorem Kp.same {Ps : List Addr} {H H' : Hp} (t : Tb Ps H) (s : Same H H') : Kp Ps H H' := ⟨t.same s, fun b o _ e => s b o e⟩
theorem Kp.at {Ps : List Addr} {H H' : Hp} (t : Tb Ps H) (k : Kp Ps H H') {b : Addr} {o : HO} (e : H b = some o) (ho : ∀ ps, o ≠ .tbl ps) : H' b = some o := k.2 b o (t.notin e ho) e
theorem Kp.seq {Ps : List Addr} {H H' : Hp} {K : PySem.W.Frag} {a : Addr} {xs : List V} (t : Tb Ps H) (k : Kp Ps H H') (h : SqL K H a xs) : SqL K H' a xs := by
  rcases h with (h | ⟨o, h⟩) | h
  · exact .inl (.inl (k.at t h fun _ z => by cases z))
  · exact .inl (.inr ⟨o, k.at t h fun _ z => by cases z⟩)
  · exact .inr h
theorem Kp.seqT {Ps : List Addr} {H H' : Hp} {K : PySem.W.Frag} {a : Addr} {xs : List V} (t : Tb Ps H) (k : Kp Ps H H') (h : SqT K H a xs) : SqT K H' a xs := by
  rcases h with (h | ⟨o, h⟩) | h
  · exact .inl (.inl (k.at t h fun _ z => by cases z))
  · exact .inl (.inr ⟨o, k.at t h fun _ z => by cases z⟩)
  · exact .inr h
theorem same_upd {H : Hp} {p : Addr} {o : HO} (h : H p = Option.none) : Same H (upd H p o) := fun b x e => by
  rw [upd_ne (ne_of_none e h)]
  exact e
theorem Kp.new {Ps : List Addr} {H : Hp} (t : Tb Ps H) {p : Addr} {o : HO} (h : H p = Option.none) : Kp Ps H (upd H p o) := Kp.same t (same_upd h)
theorem Kp.tab {Ps : List Addr} {P : Addr} {H H' : Hp} (t : Tb Ps H) (hP : P ∈ Ps) (h : Tabbed P H H') : Kp Ps H H' := by
  refine ⟨fun p hp => ?_, fun b o hb e => ?_⟩
  · by_cases z : p = P
    · rw [z]
      exact h.1
    · obtain ⟨ps, h1, h2⟩ := t p hp
      exact ⟨ps, (h.2 p z).trans h1, h2⟩
  · have z : b ≠ P := fun z => hb (by rw [z]; exact hP)
    exact (h.2 b z).trans e
/-- what was free before is free or new -/
theorem Kp.free {Ps : List Addr} {H H' : Hp} (t : Tb Ps H) (k : Kp Ps H H') {l : Addr} (h : H' l = Option.none) : H l = Option.none := by
  cases q : H l with
  | none => rfl
  | some o =>
    by_cases hl : l ∈ Ps
    · obtain ⟨ps, h1, _⟩ := k.1 l hl
      rw [h] at h1
      cases h1
    · rw [k.2 l o hl q] at h
      cases h

/-! ### a def whose code object is known -/
theorem okC {CX : CXT} {P : Program} {w : World} {K : PySem.W.Frag} {mg : Str → Option Value} {base : Heap} {x qual : Str} {params : Arguments} {body : List Stmt} {scope : Scope} {f : Addr} {fd : FuncData} {N ps : List Str} {k : Nat} {sp : Sp} {p : He.Defn}
    (F : FunD K x qual params body scope [] [] f fd) (hf : f = He.fAd K p) (S : FnScope N ps scope) (len : ∀ vs H Q E, sp vs H Q E → vs.length = ps.length)
    (hbody : ∀ (A : Around) (outer : List Env) (s : Shared) (H : Hp) (vs : List V) (Q : VK) (E : XK), Room k (A.deeper (envOfC qual scope s.heap.objs.size f (.ref (He.codeOf K p)))) → sp vs H Q E →
      ∃ t, PSs (cxOf CX P w K mg base N qual scope f (.ref (He.codeOf K p)) A outer s H E) body t ∧ t { nx := fun _ H' => Q .non H', rt := Q } (start N vs) H) : FnOk P w K mg base CX (k + 1) f fd ps sp := by
  obtain ⟨oc, od, dV, kV, doc, pm, an, cdv, ct, osl, rfl, lk, hcd, _, _⟩ := F.ex
  obtain ⟨c, rfl⟩ := He.codeIn_ref hcd
  have e : He.codeOf K p = c := He.codeOf_eq (by rw [← hf]; exact lk) rfl
  rw [e] at hbody
  exact fn_of lk hcd S len fun A outer s H vs Q E hr hsp => hbody A outer s H vs Q E hr hsp

/-! ### readings of generator expressions -/
theorem take_all {α : Type} {l : List α} {pb : α → Bool} {i : Nat} {x : α} (h : l[i]? = some x) (ht : (l.take i).all pb = true) : (l.take (i + 1)).all pb = pb x := by
  rw [List.take_add_one, List.all_append, ht, h]
  simp
theorem all_fail {α : Type} {l : List α} {pb : α → Bool} {i : Nat} {x : α} (h : l[i]? = some x) (hx : pb x = false) : l.all pb = false := by
  cases e : l.all pb with
  | false => rfl
  | true =>
    have := List.all_eq_true.mp e x (List.mem_of_getElem? h)
    rw [hx] at this
    cases this
/-- all(.. for x in text) -/
theorem read_all_str {x : Str} {pb : Nat → Bool} {Pv : Hp → Prop} {g : TG} {te : TE} {vs : List Nat} {σ : L2.St} {H2 : Hp} {Q : VK} (h0 : Pv H2)
    (he : ∀ (i c : Nat) (H : Hp) (R : V → Hp → Prop), x.cps.toList[i]? = some c → Pv H → (∀ H4, Pv H4 → R (.bl (pb c)) H4) → g (.str ⟨#[c]⟩) (wipe σ vs) H fun σ2 H2 => wipe σ2 vs = wipe σ vs ∧ te σ2 H2 R) (hd : ∀ H, Pv H → Q (.bl (x.cps.toList.all pb)) H) :
    ∃ W : Nat → Nat → Hp → Prop, (∃ m, W 0 m H2) ∧ ∀ i m H, W i m H →
      ((Its x).stop i H ∧ Q (.bl true) H) ∨ ((Its x).go i H ∧ ∃ Nx : Hp → Prop, (∀ H', Nx H' → ∃ m', m' < m ∧ W (i + 1) m' H') ∧ ∀ v H', (Its x).yld i H v H' → g v (wipe σ vs) H' fun σ2 H2 => wipe σ2 vs = wipe σ vs ∧ tYes σ2 H2 fun b H3 =>
        if b = true then te σ2 H3 fun y H4 => ∃ c, y = .bl c ∧ (c = true → Nx H4) ∧ (c = (!true) → Q (.bl (!true)) H4) else Nx H3) := by
  have esz : x.cps.size = x.cps.toList.length := by simp
  refine ⟨fun i m H => m = x.cps.size - i ∧ i ≤ x.cps.size ∧ Pv H ∧ (x.cps.toList.take i).all pb = true, ⟨x.cps.size, by simp, Nat.zero_le _, h0, rfl⟩, ?_⟩
  rintro i m H ⟨rfl, hi, hp, ha⟩
  by_cases hlt : i < x.cps.size
  · refine .inr ⟨hlt, fun H' => Pv H' ∧ (x.cps.toList.take (i + 1)).all pb = true, fun H' q => ⟨x.cps.size - (i + 1), by omega, rfl, hlt, q⟩, fun v H' y => ?_⟩
    obtain ⟨rfl, c, hc, rfl⟩ := y
    have hc' : x.cps.toList[i]? = some c := by rw [Array.getElem?_toList]; exact hc
    refine he i c H' _ hc' hp fun H4 p4 => ⟨pb c, rfl, fun z => ⟨p4, ?_⟩, fun z => ?_⟩
    · rw [take_all hc' ha]
      exact z
    · have z : pb c = false := z
      have q5 := hd H4 p4
      rw [all_fail hc' z] at q5
      exact q5
  · have e : i = x.cps.size := by omega
    subst e
    refine .inl ⟨Nat.le_refl _, ?_⟩
    have q := hd H hp
    rw [List.take_of_length_le (by omega)] at ha
    rw [ha] at q
    exact q
/-- all(.. for x in xs), xs a tuple -/
theorem read_all_tup {K : PySem.W.Frag} {a : Addr} {xs : List V} {pb : V → Bool} {Pv : Hp → Prop} {g : TG} {te : TE} {vs : List Nat} {σ : L2.St} {H2 : Hp} {Q : VK} (h0 : Pv H2) (hl : ∀ H, Pv H → SqT K H a xs)
    (he : ∀ (i : Nat) (v : V) (H : Hp) (R : V → Hp → Prop), xs[i]? = some v → Pv H → (∀ H4, Pv H4 → R (.bl (pb v)) H4) → g v (wipe σ vs) H fun σ2 H2 => wipe σ2 vs = wipe σ vs ∧ te σ2 H2 R) (hd : ∀ H, Pv H → Q (.bl (xs.all pb)) H) :
    ∃ W : Nat → Nat → Hp → Prop, (∃ m, W 0 m H2) ∧ ∀ i m H, W i m H →
      ((Itt K a).stop i H ∧ Q (.bl true) H) ∨ ((Itt K a).go i H ∧ ∃ Nx : Hp → Prop, (∀ H', Nx H' → ∃ m', m' < m ∧ W (i + 1) m' H') ∧ ∀ v H', (Itt K a).yld i H v H' → g v (wipe σ vs) H' fun σ2 H2 => wipe σ2 vs = wipe σ vs ∧ tYes σ2 H2 fun b H3 =>
        if b = true then te σ2 H3 fun y H4 => ∃ c, y = .bl c ∧ (c = true → Nx H4) ∧ (c = (!true) → Q (.bl (!true)) H4) else Nx H3) := by
  refine ⟨fun i m H => m = xs.length - i ∧ i ≤ xs.length ∧ Pv H ∧ (xs.take i).all pb = true, ⟨xs.length, by simp, Nat.zero_le _, h0, rfl⟩, ?_⟩
  rintro i m H ⟨rfl, hi, hp, ha⟩
  by_cases hlt : i < xs.length
  · refine .inr ⟨⟨xs, xs[i], hl H hp, List.getElem?_eq_getElem hlt⟩, fun H' => Pv H' ∧ (xs.take (i + 1)).all pb = true, fun H' q => ⟨xs.length - (i + 1), by omega, rfl, hlt, q⟩, fun v H' y => ?_⟩
    obtain ⟨rfl, y⟩ := y
    have hc' : xs[i]? = some v := y xs (hl H' hp)
    refine he i v H' _ hc' hp fun H4 p4 => ⟨pb v, rfl, fun z => ⟨p4, ?_⟩, fun z => ?_⟩
    · rw [take_all hc' ha]
      exact z
    · have z : pb v = false := z
      have q5 := hd H4 p4
      rw [all_fail hc' z] at q5
      exact q5
  · have e : i = xs.length := by omega
    subst e
    refine .inl ⟨⟨xs, hl H hp, Nat.le_refl _⟩, ?_⟩
    have q := hd H hp
    rw [List.take_of_length_le (Nat.le_refl _)] at ha
    rw [ha] at q
    exact q
end Rd

/-! list(reversed(text)) -/
namespace Rs
open PySem PySem.Spec PyProof.Rows RT
theorem norev_str : typeLookup (.type "str") "__reversed__" = pure none := by rw [typeLookup_type, builtinLookup_eq_fast]; kernel_rfl
theorem item_str : typeLookup (.type "str") "__getitem__" = pure (some (.builtin "str.__getitem__")) := by rw [typeLookup_type, builtinLookup_eq_fast]; kernel_rfl
theorem nolen_rev : typeLookup (.type "reversed") "__len__" = pure none := by rw [typeLookup_type, builtinLookup_eq_fast]; kernel_rfl
theorem hint_rev : typeLookup (.type "reversed") "__length_hint__" = pure (some (.builtin "reversed.__length_hint__")) := by rw [typeLookup_type, builtinLookup_eq_fast]; kernel_rfl
theorem slot_hint : Slot "reversed" "__length_hint__" "reversed.__length_hint__" :=
  .of (owner := "reversed") (n := "__length_hint__") hint_rev (by decide +kernel) (by decide +kernel) (by decide +kernel) (by first | exact .inl (by decide +kernel) | exact .inr (by decide +kernel)) (by rw [isSubtype_type]; kernel_rfl)
theorem entry_hint : entryFor table "reversed.__length_hint__" = some Builtin.«reversed.__length_hint__» := entryFor_of_tree (by kernel_rfl)
theorem args_hint (a : Value) : argsOk "reversed.__length_hint__" ⟨[a], []⟩ := by
  unfold argsOk
  rw [signature?_of (id := "reversed.__length_hint__") (n := ['_', '_', 't', 'n', 'i', 'h', '_', 'h', 't', 'g', 'n', 'e', 'l', '_', '_']) (o := ['d', 'e', 's', 'r', 'e', 'v', 'e', 'r']) (by kernel_rfl) owner_rt]
  kernel_rfl
theorem desc_hint : typeOf (.builtin "reversed.__length_hint__") = pure (.type "method_descriptor") := by show builtinType _ = _; rw [builtinType_eq_fast]; kernel_rfl
theorem sub_str_dict : isSubtype (.type "str") (.type "dict") = pure false := by rw [isSubtype_type]; kernel_rfl
def rsObj (x : Str) (t : Tok) (i : Int) : Obj := { cls := .type "reversed", data := .fields #[.str x t, rawInt i] }
def IsRs (h : Heap) (a : Addr) (x : Str) (t : Tok) (i : Int) : Prop := ∃ o, h.get? a = some o ∧ o.cls = .type "reversed" ∧ o.data = .fields #[.str x t, rawInt i]
theorem IsRs.at {h h' : Heap} {a : Addr} {x : Str} {t : Tok} {i : Int} (z : IsRs h a x t i) (e : ∀ o, h.get? a = some o → h'.get? a = some o) : IsRs h' a x t i := let ⟨o, ho, r⟩ := z; ⟨o, e _ ho, r⟩
section
variable {prog : Program} {w : World} {A : Around} {E : Value → Shared → Prop} {s : Shared} {x : Str} {t : Tok}
theorem IsRs.typeIs {a : Addr} {i : Int} (z : IsRs s.heap a x t i) : s.TypeIs (.ref a) "reversed" := let ⟨o, ho, hc, _⟩ := z; ⟨o, ho, hc⟩
theorem line_index {n : Nat} (h : n ≤ sizeLine) : ¬ ((n : Int) ≥ 2 ^ 63) := by
  rw [sizeLine_eq] at h
  omega
theorem code_rs {Q1 : Value → Shared → Prop} (hz : x.length ≤ sizeLine) (h : Q1 (.ref s.heap.objs.size) { s with heap := s.heap.push (rsObj x t ((x.length : Int) - 1)), toks := s.toks + 1 + 1 }) :
    codeAny (model prog w) A (.call (.builtin "reversed.__new__") ⟨[.type "reversed", .str x t], []⟩) (wants Q1 E) s := by
  have hT : s.TypeIs (.str x t) "str" := rfl
  refine codeAny_of_tree ?_
  show wpAny _ A.in1 (do checkBuiltinCall "reversed.__new__" ⟨[.type "reversed", .str x t], []⟩; again (.builtin "reversed.__new__" ⟨[.type "reversed", .str x t], []⟩)) _ _ s
  refine wpAny_bind (wpAny_of_eq (F.newCall_reversed_1 _) (wpAny_pure ⟨plainId_quiet F.plain_reversed_new _, codeAny_builtin F.entry_reversed_new ?_⟩))
  rw [Around.under_plainId F.plain_reversed_new _]
  unfold Builtin.«reversed.__new__»
  refine wpAny_bind (wpAny_of_eq (newClass_reversed _) ?_)
  try dsimp only
  refine wpAny_bind (wpAny_of_eq (a := ()) (by first | rfl | kernel_rfl) ?_)
  try dsimp only
  refine wpAny_bind (wpAny_of_eq (a := ()) (by first | rfl | kernel_rfl) ?_)
  try dsimp only
  refine wpAny_bind (wpAny_specialOf hT norev_str ?_)
  try dsimp only
  refine wpAny_bind ?_
  wp_delta
  refine wpAny_bind (wpAny_isInstance (T := "str") (U := "dict") (b := false) hT sub_str_dict ?_)
  try dsimp only
  try rw [if_neg Bool.false_ne_true]
  try dsimp only
  refine wpAny_bind (wpAny_specialOf hT item_str ?_)
  try dsimp only
  try rw [if_pos (by decide +kernel)]
  refine wpAny_pure ?_
  try dsimp only
  try rw [if_neg (by decide)]
  try dsimp only
  refine wpAny_bind (len_str (line_index hz) ?_)
  refine wpAny_bind (wpAny_of_eq (a := some ((x.length : Nat) : Int)) rfl ?_)
  try dsimp only
  refine wpAny_bind ?_
  show wpAny _ _ (newObj (.type "reversed") (.fields #[.str x t, rawInt ((x.length : Int) - 1)])) _ _ _
  refine wpAny_newObj_type ?_
  exact wpAny_pure h
theorem call_rs {Q : Value → Shared → Prop} (hz : x.length ≤ sizeLine) (h : Q (.ref s.heap.objs.size) { s with heap := s.heap.push (rsObj x t ((x.length : Int) - 1)), toks := s.toks + 1 + 1 }) :
    wpAny (model prog w) A (call (.type "reversed") [.str x t]) Q E s := by
  refine callType_codes (Q₁ := fun obj s₁ => s₁.TypeIs obj "reversed" ∧ Q obj s₁) called_rt (F.typeCall_reversed_1 _) F.entry_object_init (code_rs (A := A.in1) hz ⟨⟨_, Heap.get?_push_size _ rfl, rfl⟩, h⟩) fun obj s1 h1 => ?_
  exact ⟨h1.1, F.args_object_init_2 obj _, object_init_meets called_rt.init.lookup called_rt.made (by decide) prog w A.in1 _ s1 ⟨h1.1, rfl, h1.2⟩⟩
theorem next_rs {it : Addr} {i : Nat} {c : Nat} {Q : Option Value → Shared → Prop} (hit : IsRs s.heap it x t (i : Int)) (hc0 : x.cps[i]? = some c) (hz : x.length ≤ sizeLine)
    (hQ : ∀ h' u k, IsRs h' it x t ((i : Int) - 1) → Heap.SameBut it s.heap h' → Q (some (.str ⟨#[c]⟩ u)) { s with heap := h', toks := k }) : wpAny (model prog w) A (pyNext (.ref it)) Q E s := by
  obtain ⟨o, ho, hc, hd⟩ := id hit
  have hi : i < x.cps.size := (Array.getElem?_eq_some_iff.mp hc0).1
  have hT : s.TypeIs (.str x t) "str" := rfl
  have hz2 := hz
  rw [sizeLine_eq] at hz2
  have hi2 : i < x.length := hi
  unfold pyNext
  refine wpAny_bind (wpAny_attempt (wpAny_callSpecial?_slot (name := Str.ofString "__next__") hit.typeIs slot_rt_next (wpAny_call_entry slot_rt_next hit.typeIs entry_rt_next ?_ (args_rt_next _))))
  unfold Builtin.«reversed.__next__»
  refine wpAny_bind (wpAny_of_eq (a := (Value.ref it, [])) rfl ?_)
  try dsimp only
  refine wpAny_bind (wpAny_field ho hd (x := .str x t) rfl ?_)
  try dsimp only
  refine wpAny_bind (wpAny_field ho hd (x := rawInt (i : Int)) rfl ?_)
  show wpAny _ _ (if (i : Int) < 0 then _ else _) _ _ s
  rw [if_neg (by omega)]
  try dsimp only
  refine wpAny_bind (wpAny_specialOf hT item_str ?_)
  try dsimp only
  try rw [if_neg (by decide)]
  try dsimp only
  refine wpAny_bind (wpAny_mkInt ?_)
  refine wpAny_bind (wpAny_attempt ?_)
  have fin : seqIndex? (i : Int) x.length = some i := seqIndex_of (by omega) (by omega)
  refine getItem_str (s := { s with toks := s.toks + 1 }) (c := c) (by rw [decide_eq_false (by omega), decide_eq_false (by omega)]; rfl) (by rw [fin]; exact hc0) ?_
  try dsimp only
  refine wpAny_bind (wpAny_field (s := { s with toks := s.toks + 1 + 1 }) ho hd (x := rawInt (i : Int)) rfl ?_)
  try dsimp only
  refine wpAny_bind (wpAny_setField (s := { s with toks := s.toks + 1 + 1 }) ho hd (by simp) ?_)
  first
  | refine wpAny_pure ⟨_, rfl, wpAny_pure (hQ _ _ _ ?_ (Heap.SameBut.update ..))⟩
  | refine wpAny_bind (wpAny_pure (wpAny_pure ⟨_, rfl, wpAny_pure (hQ _ _ _ ?_ (Heap.SameBut.update ..))⟩))
  exact ⟨_, Heap.get?_update_self _ ho (Obj.isFreed_of_fields (Obj.data_mapFields hd _)), (Obj.cls_mapFields ..).trans hc, by
    rw [Obj.data_mapFields hd]; simp⟩
theorem end_rs {it : Addr} {Q : Option Value → Shared → Prop} (hh : A.handled = none) (hit : IsRs s.heap it x t (-1)) (hQ : ∀ h', Heap.ExtBut it s.heap h' → Q none { s with heap := h' }) : wpAny (model prog w) A (pyNext (.ref it)) Q E s := by
  obtain ⟨o, ho, hc, hd⟩ := id hit
  unfold pyNext
  refine wpAny_bind (wpAny_attempt (wpAny_callSpecial?_slot (name := Str.ofString "__next__") hit.typeIs slot_rt_next (wpAny_call_entry slot_rt_next hit.typeIs entry_rt_next ?_ (args_rt_next _))))
  unfold Builtin.«reversed.__next__»
  refine wpAny_bind (wpAny_of_eq (a := (Value.ref it, [])) rfl ?_)
  try dsimp only
  refine wpAny_bind (wpAny_field ho hd (x := .str x t) rfl ?_)
  try dsimp only
  refine wpAny_bind (wpAny_field ho hd (x := rawInt (-1)) rfl ?_)
  show wpAny _ _ (if (-1 : Int) < 0 then _ else _) _ _ s
  rw [if_pos (by decide)]
  try dsimp only
  refine wpAny_bind (wpAny_rule ?_)
  refine wpAny_bind ?_
  wp_delta
  refine wpAny_bind (wpAny_setField ho hd (by simp) ?_)
  have ho2 := Heap.get?_update_self (Obj.mapFields (·.setIfInBounds 1 (rawInt (-1)))) ho (Obj.isFreed_of_fields (Obj.data_mapFields hd _))
  refine wpAny_setField (s := { s with heap := s.heap.update it (Obj.mapFields (·.setIfInBounds 1 (rawInt (-1)))) }) ho2 (Obj.data_mapFields hd _) (by simp) ?_
  try dsimp only
  first
  | show wpAny _ _ (newExc (.type "StopIteration") [] >>= _) _ _ _
  | (refine wpAny_bind ?_; show wpAny _ _ (newExc (.type "StopIteration") [] >>= _) _ _ _)
  | (refine wpAny_bind ?_; wp_delta; show wpAny _ _ (newExc (.type "StopIteration") [] >>= _) _ _ _)
  refine wpAny_bind ?_
  simp only [newExc, newTuple]
  refine wpAny_bind (wpAny_newObj_type ?_ (by size_fits))
  refine wpAny_bind (m := firstArgMember _ _) (wpAny_of_eq (a := Value.none) (by first | rfl | (simp only [firstArgMember]; rfl)) ?_)
  refine wpAny_newObj_type ?_ (by size_fits)
  simp only [raiseNew]
  refine wpAny_bind (wpAny_handled ?_)
  first | rw [show A.in1.handled = none from hh] | rw [hh]
  refine wpAny_bind (wpAny_pure (wpAny_throw ?_))
  refine wpAny_bind (wpAny_isInstance (T := "StopIteration") (b := true) ⟨_, Heap.get?_push_size _ rfl, rfl⟩ isSubtype_stop ?_)
  refine wpAny_pure (hQ _ ?_)
  refine ((?_ : Heap.ExtBut it s.heap _).push _).push _
  exact fun b ob hb e => (Heap.get?_update_other _ _ (Ne.symm hb)).trans ((Heap.get?_update_other _ _ (Ne.symm hb)).trans e)
theorem iter_rs {it : Addr} {i : Int} {Q : Value → Shared → Prop} (hit : IsRs s.heap it x t i) (h : Q (.ref it) s) : wpAny (model prog w) A (pyIter (.ref it)) Q E s := by
  refine wpAny_pyIter_slot hit.typeIs slot_rt_iter (wpAny_call_entry slot_rt_iter hit.typeIs entry_rt_iter ?_ (args_rt_iter _))
  show wpAny _ _ (ret (.ref it)) _ _ s
  exact wpAny_pure ⟨_, rfl, "reversed", _, hit.typeIs, slot_rt_next.lookup, h⟩
end
theorem walks_rs {prog : Program} {w : World} {A : Around} (hh : A.handled = none) (it : Addr) (x : Str) (t : Tok) (hz : x.length ≤ sizeLine) :
    Walks prog w A it [it] [it] x.cps.size (fun i v => ∃ c u, x.cps[x.cps.size - 1 - i]? = some c ∧ v = .str ⟨#[c]⟩ u) (fun i h => i ≤ x.cps.size ∧ IsRs h it x t ((x.cps.size : Int) - 1 - (i : Int))) where
  sub := fun b hb => hb
  frame := fun _ _ _ z hk => ⟨z.1, z.2.at fun o e => hk it (by simp) o e⟩
  item := fun i s Q E hi z hQ => by
    have e : (x.cps.size : Int) - 1 - (i : Int) = ((x.cps.size - 1 - i : Nat) : Int) := by omega
    have hit := z.2
    rw [e] at hit
    have hx : x.cps[x.cps.size - 1 - i]? = some (x.cps[x.cps.size - 1 - i]'(by omega)) := Array.getElem?_eq_getElem (by omega)
    refine next_rs hit hx hz fun h' u k hit' hs' => ?_
    have e2 : ((x.cps.size - 1 - i : Nat) : Int) - 1 = (x.cps.size : Int) - 1 - ((i + 1 : Nat) : Int) := by omega
    rw [e2] at hit'
    exact hQ _ h' k ⟨_, _, hx, rfl⟩ ⟨hi, hit'⟩ fun b o hb eo => hs'.extBut b o (fun h => hb (by simp [h])) eo
  done := fun s Q E z hQ => by
    have e : (x.cps.size : Int) - 1 - (x.cps.size : Int) = -1 := by omega
    have hit := z.2
    rw [e] at hit
    exact end_rs hh hit fun h' he' => hQ h' s.toks fun b o hb eo => he' b o (fun h => hb (by simp [h])) eo
  self := fun _ _ _ _ z hQ => iter_rs z.2 hQ

section
variable {prog : Program} {w : World} {A : Around} {E : Value → Shared → Prop} {s : Shared} {x : Str} {t : Tok}
theorem code_hint {it : Addr} {i : Nat} {Q : Value → Shared → Prop} (hit : IsRs s.heap it x t (i : Int)) (hi : i < x.length) (hz : x.length ≤ sizeLine) (hQ : ∀ u k, Q (.int ((i : Int) + 1) u) { s with toks := k }) :
    wpAny (model prog w) A (call (.builtin "reversed.__length_hint__") [.ref it]) Q E s := by
  obtain ⟨o, ho, hc, hd⟩ := id hit
  have hz2 := hz
  rw [sizeLine_eq] at hz2
  refine wpAny_call_entry slot_hint hit.typeIs entry_hint ?_ (args_hint _)
  unfold Builtin.«reversed.__length_hint__»
  refine wpAny_bind (wpAny_of_eq (a := Value.ref it) rfl ?_)
  try dsimp only
  refine wpAny_bind (wpAny_field ho hd (x := .str x t) rfl ?_)
  try dsimp only
  try rw [if_neg (by decide)]
  try dsimp only
  refine wpAny_bind (len_str (line_index hz) ?_)
  refine wpAny_bind (wpAny_of_eq (a := some ((x.length : Nat) : Int)) rfl ?_)
  try dsimp only
  refine wpAny_bind (wpAny_field (s := { s with toks := s.toks + 1 + 1 }) ho hd (x := rawInt (i : Int)) rfl ?_)
  show wpAny _ _ (if ((x.length : Nat) : Int) < (i : Int) + 1 then _ else _) _ _ _
  rw [if_neg (by omega)]
  show wpAny _ _ (retInt ((i : Int) + 1)) _ _ _
  exact wpAny_bind (wpAny_mkInt (wpAny_pure ⟨_, rfl, hQ _ _⟩))
/-- the length hint -/
theorem hint_rs {it : Addr} {i : Nat} {Q : Bool → Shared → Prop} (hit : IsRs s.heap it x t (i : Int)) (hi : i < x.length) (hz : x.length ≤ 1000000) (hQ : ∀ k, Q true { s with toks := k }) : wpAny (model prog w) A (Builtin.List.listLengthHint (.ref it)) Q E s := by
  obtain ⟨o, ho, hc, hd⟩ := id hit
  unfold Builtin.List.listLengthHint
  refine wpAny_bind (wpAny_specialOf hit.typeIs nolen_rev ?_)
  show wpAny _ _ (specialOf (Value.ref it) (Str.ofString "__length_hint__") >>= _) _ _ _
  refine wpAny_bind (wpAny_specialOf hit.typeIs hint_rev ?_)
  generalize hid : ("reversed.__length_hint__" : String) = id0
  wp_delta
  rw [show splitId id0 = some ("reversed", "__length_hint__") from by subst hid; decide +kernel]
  subst hid
  refine wpAny_bind (wpAny_isInstance (b := true) hit.typeIs (by rw [isSubtype_type]; kernel_rfl) ?_)
  try dsimp only
  rw [if_neg (show ¬ (!true) = true by decide)]
  rw [if_neg (by decide +kernel)]
  refine wpAny_bind (wpAny_rule ?_)
  refine wpAny_bind ?_
  unfold bindSpecial
  refine wpAny_bind (wpAny_of_eq desc_hint ?_)
  rw [if_pos (by decide +kernel)]
  refine wpAny_pure ?_
  try dsimp only
  refine wpAny_bind (wpAny_attempt (code_hint hit hi (Nat.le_trans hz (by decide)) fun u k => ?_))
  try dsimp only
  obtain ⟨j, hj⟩ : ∃ j : Int, j = (i : Int) + 1 := ⟨_, rfl⟩
  rw [← hj]
  refine wpAny_bind (wpAny_of_eq (show asInt? (.int j u) = pure (some j) from rfl) ?_)
  try dsimp only
  have h1 : Builtin.List.listFitsIndex j = true := by
    unfold Builtin.List.listFitsIndex
    rw [Bool.and_eq_true]
    exact ⟨decide_eq_true (by omega), decide_eq_true (by omega)⟩
  have h2 : Builtin.List.listTooLong j.toNat = false := by
    unfold Builtin.List.listTooLong
    exact decide_eq_false (by rw [sizeLine_eq]; omega)
  rw [if_neg (by rw [h1]; decide), if_neg (by omega), if_neg (by rw [h2]; decide)]
  have h3 : (j != 0) = true := by
    rw [bne_iff_ne]
    omega
  rw [h3]
  exact wpAny_pure (hQ k)
end

section
variable {prog : Program} {w : World} {A : Around} {E : Value → Shared → Prop} {s : Shared} {x : Str} {t : Tok}
/-- what is collected -/
abbrev RevAt (x : Str) (i : Nat) (v : Value) : Prop := ∃ c u, x.cps[x.cps.size - 1 - i]? = some c ∧ v = .str ⟨#[c]⟩ u
theorem extend_rs {R : Result → Shared → Prop} (hh : A.handled = none) {it S : Addr} {res : Value} {c0 : Nat} (hit : IsRs s.heap it x t ((x.cps.size : Int) - 1)) (h1 : 1 ≤ x.length) (hz : x.length ≤ 1000000) (hSI : S ≠ it) (hS : s.heap.get? S = some { cls := .type "list", data := .seq #[] c0 })
    (hR : ∀ h' tk acc' c', (∀ b o, b ≠ S → b ≠ it → s.heap.get? b = some o → h'.get? b = some o) → h'.get? S = some { cls := .type "list", dict := none, data := .seq acc' c', slots := #[] } → ItemsOf (RevAt x) acc' x.cps.size → R (.ok (.ret res)) { s with heap := h', toks := tk }) :
    wpAny (model prog w) A.in1 (Builtin.List.listExtendWith (.ref S) (.ref it) res)
      (fun fin s' => match fin with | .done f => R (.ok f) s' | .again c' => c'.quiet = true ∧ codeAny (model prog w) A c' R s') (fun e s' => R (.error e) s') s := by
  have hz2 : x.length ≤ sizeLine := Nat.le_trans hz (by decide)
  have W := (walks_rs (prog := prog) (w := w) (A := A.in1) hh it x t hz2).toS
  have hSf : S ∉ [it] := fun hm => hSI (List.mem_singleton.mp hm)
  have hx1 : 1 ≤ x.cps.size := h1
  have e0 : (x.cps.size : Int) - 1 = ((x.cps.size - 1 : Nat) : Int) := by omega
  unfold Builtin.List.listExtendWith
  refine wpAny_bind (wpAny_typeOf hit.typeIs ?_)
  have q1 : Builtin.List.listSameRef (.ref S) (.ref it) = false := by simp [Builtin.List.listSameRef, hSI]
  have q2 : (Value.type "reversed" == Value.type "list") = false := by decide
  have q3 : (Value.type "reversed" == Value.type "tuple") = false := by decide
  simp only [q1, q2, q3, Bool.or_false, Bool.false_eq_true, if_false]
  refine wpAny_bind (iter_rs hit ?_)
  refine wpAny_bind (wpAny_holding ?_)
  refine hint_rs (i := x.cps.size - 1) (by rw [← e0]; exact hit) (by show x.cps.size - 1 < x.cps.size; omega) hz fun k => ?_
  show wpAny _ A.in1 (rule "list.extend.makes-room" >>= fun _ => Builtin.List.listTouch (.ref S) >>= fun _ => again (.builtin "list.extend.loop" ⟨[.ref S, .ref it, res], []⟩)) _ _ _
  refine wpAny_bind (wpAny_rule ?_)
  refine wpAny_bind ?_
  show wpAny _ A.in1 (updateSeq S (·.push .none) >>= fun _ => updateSeq S (·.pop)) _ _ _
  refine wpAny_bind (wpAny_updateSeq (s := { s with toks := k }) hS rfl ?_)
  have hS2 := Heap.get?_update_self (Obj.mapSeq (·.push Value.none)) hS rfl
  refine wpAny_updateSeq (hz := by seq_fits) hS2 rfl ?_
  have hS3 := Heap.get?_update_self (Obj.mapSeq (·.pop)) hS2 rfl
  have oth : ∀ b o, b ≠ S → s.heap.get? b = some o → ((s.heap.update S (Obj.mapSeq (·.push Value.none))).update S (Obj.mapSeq (·.pop))).get? b = some o :=
    fun b o hb e => (Heap.get?_update_other _ _ (Ne.symm hb)).trans ((Heap.get?_update_other _ _ (Ne.symm hb)).trans e)
  have ez : (x.cps.size : Int) - 1 - ((0 : Nat) : Int) = (x.cps.size : Int) - 1 := by omega
  refine wpAny_pure ⟨plainId_quiet F.plain_extend_loop _, codeAny_extend_loopS W hz2 _ hSf _ x.cps.size 0 _ _ _ rfl (Nat.zero_le _) ⟨Nat.zero_le _, by rw [ez]; exact hit.at fun o e => oth it o (Ne.symm hSI) e⟩ hS3 (ItemsOf.nil _) fun s' acc' c' hm hS' hacc => ?_⟩
  rw [Moved.eq_with hm]
  refine hR s'.heap s'.toks acc' c' (fun b ob hb hi e => hm.heap b ob (fun hmem => ?_) (oth b ob hb e)) hS' hacc
  rcases List.mem_cons.mp hmem with e' | hmem
  · exact hb e'
  · exact hi (List.mem_singleton.mp hmem)
theorem call_list_rs {Q : Value → Shared → Prop} (hh : A.handled = none) {it : Addr} (hit : IsRs s.heap it x t ((x.cps.size : Int) - 1)) (h1 : 1 ≤ x.length) (hz : x.length ≤ 1000000)
    (hQ : ∀ h' tk acc' c', (∀ b o, b ≠ it → s.heap.get? b = some o → h'.get? b = some o) → h'.get? s.heap.objs.size = some { cls := .type "list", dict := none, data := .seq acc' c', slots := #[] } → ItemsOf (RevAt x) acc' x.cps.size → Q (.ref s.heap.objs.size) { s with heap := h', toks := tk }) :
    wpAny (model prog w) A (call (.type "list") [.ref it]) Q E s := by
  have hlt : it < s.heap.objs.size := let ⟨_, ho, _⟩ := hit; Heap.lt_size ho
  refine callType_codes (Q₁ := fun obj s₁ => obj = .ref s.heap.objs.size ∧ s₁ = { s with heap := s.heap.push { cls := .type "list", data := .seq #[] } }) F.called_list (F.typeCall_list_1 _) F.entry_list_init
    (code_list_new _ ⟨rfl, rfl⟩) fun obj s1 hs1 => ?_
  obtain ⟨rfl, rfl⟩ := hs1
  have hS : (s.heap.push { cls := .type "list", data := .seq #[] }).get? s.heap.objs.size = some { cls := .type "list", data := .seq #[] } := Heap.get?_push_size _ rfl
  refine ⟨⟨_, hS, rfl⟩, F.args_list_init_2 _ _, ?_⟩
  show wpAny _ A.in1.in1 (do let old ← Builtin.List.listItems (.ref s.heap.objs.size); Builtin.List.listUpdate (.ref s.heap.objs.size) (fun _ => #[]); letGo old.toList.reverse; Builtin.List.listExtendWith (.ref s.heap.objs.size) (.ref it) .none) _ _ _
  refine wpAny_bind ?_
  unfold Builtin.List.listItems
  refine wpAny_bind (wpAny_seqItems hS rfl (wpAny_pure ?_))
  show wpAny _ A.in1.in1 (updateSeq s.heap.objs.size (fun _ => #[]) >>= fun _ => letGo (#[] : Array Value).toList.reverse >>= fun _ => Builtin.List.listExtendWith (.ref s.heap.objs.size) (.ref it) .none) _ _ _
  refine wpAny_bind (wpAny_updateSeq hS rfl ?_)
  have hS2 := Heap.get?_update_self (Obj.mapSeq (fun _ => (#[] : Array Value))) hS rfl
  have oth : ∀ b o, b ≠ s.heap.objs.size → (s.heap.push { cls := .type "list", data := .seq #[] }).get? b = some o → ((s.heap.push { cls := .type "list", data := .seq #[] }).update s.heap.objs.size (Obj.mapSeq (fun _ => (#[] : Array Value)))).get? b = some o :=
    fun b o hb e => (Heap.get?_update_other _ _ (Ne.symm hb)).trans e
  have old : ∀ b o, s.heap.get? b = some o → ((s.heap.push { cls := .type "list", data := .seq #[] }).update s.heap.objs.size (Obj.mapSeq (fun _ => (#[] : Array Value)))).get? b = some o :=
    fun b o e => oth b o (Nat.ne_of_lt (Heap.lt_size e)) (Heap.get?_push_of_some _ e)
  refine wpAny_bind (wpAny_letGo ?_)
  refine extend_rs (A := A.in1) hh (hit.at fun o e => old it o e) h1 hz (Nat.ne_of_gt hlt) hS2 fun h' tk acc' c' hk hS' hacc => ?_
  exact ⟨rfl, hQ h' tk acc' c' (fun b o hb e => hk b o (Nat.ne_of_lt (Heap.lt_size e)) hb (old b o e)) hS' hacc⟩
end
theorem vals_rs {x : Str} {acc : Array Value} (h : ItemsOf (RevAt x) acc x.cps.size) : L2.Vals (x.cps.toList.reverse.map fun c => L2.V.str ⟨#[c]⟩) acc.toList := by
  have key : ∀ (l : List L2.V) (us : List Value), l.length = us.length → (∀ (i : Nat) (v : L2.V) (u : Value), l[i]? = some v → us[i]? = some u → L2.RelV v u) → L2.Vals l us := by
    intro l
    induction l with
    | nil =>
      intro us hl _
      cases us with
      | nil => exact .nil
      | cons _ _ => cases hl
    | cons v r ih =>
      intro us hl hr
      cases us with
      | nil => cases hl
      | cons u us => exact .cons (hr 0 v u rfl rfl) (ih us (Nat.succ.inj hl) fun i a b h1 h2 => hr (i + 1) a b h1 h2)
  have hs : acc.toList.length = x.cps.size := by rw [Array.length_toList]; exact h.1
  refine key _ _ (by rw [List.length_map, List.length_reverse, Array.length_toList, hs]) fun i v u h1 h2 => ?_
  rw [Array.getElem?_toList] at h2
  obtain ⟨c, tk, hc, rfl⟩ := h.2 i u h2
  have hi : i < x.cps.size := by
    have := (Array.getElem?_eq_some_iff.mp h2).1
    rw [h.1] at this
    exact this
  rw [List.getElem?_map, List.getElem?_reverse (by rw [Array.length_toList]; exact hi), Array.length_toList, Array.getElem?_toList, hc] at h1
  cases h1
  exact ⟨tk, rfl⟩
section
open L2
variable {X : Cx}
/-- list(reversed(x)), x a text: a new list of its signs, from behind -/
def tListRs (te : TE) : TE := fun σ H Q => te σ H fun v H1 => ∃ x : Str, v = .str x ∧ 1 ≤ x.length ∧ x.length ≤ 1000000 ∧ ∀ q, H1 q = none → Q (.ref q) (upd H1 q (.lst (x.cps.toList.reverse.map fun c => V.str ⟨#[c]⟩)))
theorem pe_listRs {e : Expr} {te : TE} {p p2 pos pos2 : Pos} (hc : X.calm = true) (hg : Gl X "list") (hm : X.mg "list" = none) (hg2 : Gl X "reversed") (hm2 : X.mg "reversed" = none) (he : PE X e te)
    (hs : starEach [e] X.env = (false, eval e X.env) :: starEach [] X.env := by rfl)
    (hs2 : starEach [.Call (.Name "reversed" p2) [e] [] pos2] X.env = (false, eval (.Call (.Name "reversed" p2) [e] [] pos2) X.env) :: starEach [] X.env := by rfl) :
    PE X (.Call (.Name "list" p) [.Call (.Name "reversed" p2) [e] [] pos2] [] pos) (tListRs te) := by
  refine ⟨fun pins s σ H Q I h => ?_⟩
  refine Call_ (ld_blt (u := .type "list") I hg hm (by decide +kernel) (PyProof.Rows.callWith_type1 (args_cons (Call_ (ld_blt I hg2 hm2 PyProof.Rows.boot_reversed (PyProof.Rows.callWith_type1 (args_cons (thn (he.run pins s σ H _ I h) fun u s1 hq => args_nil ?_) hs) hs rfl))) hs2) hs2 rfl))
  obtain ⟨v, H1, I1, r1, x, ev, h1, hz, q⟩ := hq
  subst ev
  obtain ⟨t, rfl⟩ := r1
  refine call_rs (Nat.le_trans hz (by decide)) (args_nil ?_)
  have k0 : ∀ b o, s1.heap.get? b = some o → (s1.heap.push (rsObj x t ((x.length : Int) - 1))).get? b = some o := fun b o e => Heap.get?_push_of_some _ e
  have I2 : Inv X pins σ H1 { s1 with heap := s1.heap.push (rsObj x t ((x.length : Int) - 1)), toks := s1.toks + 1 + 1 } := I1.kept k0
  obtain ⟨f0, f1, f2, f3, f4, f5⟩ := I1.fpOk (H' := H1) (b := s1.heap.objs.size) (Nat.le_refl _) (I1.hok.fresh (Nat.le_refl _))
  refine call_list_rs (s := { s1 with heap := s1.heap.push (rsObj x t ((x.length : Int) - 1)), toks := s1.toks + 1 + 1 }) (I1.ok.hd hc) ⟨_, Heap.get?_push_size _ rfl, rfl, rfl⟩ h1 hz fun h' tk acc c' hk hS hi => ?_
  have hne : (s1.heap.push (rsObj x t ((x.length : Int) - 1))).objs.size ≠ s1.heap.objs.size := by
    rw [Heap.size_push]
    exact Nat.succ_ne_self _
  have kp : ∀ b u, s1.heap.get? b = some u → h'.get? b = some u := fun b u e => hk b u (Nat.ne_of_lt (Heap.lt_size e)) (Heap.get?_push_of_some _ e)
  have hD : s1.heap.objs.size ≤ (s1.heap.push (rsObj x t ((x.length : Int) - 1))).objs.size := by
    rw [Heap.size_push]
    exact Nat.le_succ _
  refine ⟨.ref (s1.heap.push (rsObj x t ((x.length : Int) - 1))).objs.size, _, I1.laid (t' := tk) kp hD (show ObjOk X.prog X.w _ h' _ (.lst (x.cps.toList.reverse.map fun c => V.str ⟨#[c]⟩)) from ⟨?_, acc.toList, c', vals_rs hi, ?_⟩), rfl, q _ (I1.hok.fresh hD)⟩
  · rw [List.length_map, List.length_reverse, Array.length_toList]
    exact Nat.le_trans hz (by decide)
  · rw [hS, Array.toArray_toList]
end
end Rs

namespace It2
open PySem PySem.Spec PyProof.Rows L2
/-! ### x in t, x not in t: t a tuple of data, x data -/
def rInTD (K : PySem.W.Frag) (neg : Bool) : R2 := fun x y H Q => ∃ d ds, Dp K H x d ∧ Dp K H y (.tuple ds) ∧ SeqAt.shaped d = true ∧ SeqAt.shaped (.tuple ds) = true ∧ Q (.bl (if neg then !ds.any fun z => PyData.eqv z d else ds.any fun z => PyData.eqv z d)) H
theorem op_notInTD {X : Cx} (hu : X.A.units + 65 < cLine) : OpR X (compareOp .NotIn) (rInTD X.K true) := by
  intro pins s σ H x y v u Q I rx ry h
  obtain ⟨d, ds, hd, he, sd, se, q⟩ := h
  obtain ⟨as, r1⟩ := Dp.reads I d x v hd rx
  obtain ⟨bs, r2⟩ := Dp.reads I (.tuple ds) y u he ry
  exact SeqAt.notIn_tuple_reads r2 r1 (SeqAt.canLay_of_shaped se) (SeqAt.canLay_of_shaped sd) (room_in_shaped sd hu) ⟨.bl (!ds.any fun z => PyData.eqv z d), H, I, rfl, q⟩
theorem op_inTD {X : Cx} (hu : X.A.units + 65 < cLine) : OpR X (compareOp .In) (rInTD X.K false) := by
  intro pins s σ H x y v u Q I rx ry h
  obtain ⟨d, ds, hd, he, sd, se, q⟩ := h
  obtain ⟨as, r1⟩ := Dp.reads I d x v hd rx
  obtain ⟨bs, r2⟩ := Dp.reads I (.tuple ds) y u he ry
  exact SeqAt.in_tuple_reads r2 r1 (SeqAt.canLay_of_shaped se) (SeqAt.canLay_of_shaped sd) (room_in_shaped sd hu) ⟨.bl (ds.any fun z => PyData.eqv z d), H, I, rfl, q⟩
end It2

/-! enumerate(list, start), the start given by its place -/
namespace Ef
open PySem PySem.Spec PyProof.Rows L2

def IteF (K : PySem.W.Frag) (a : Addr) (k : Int) : It :=
  ⟨fun i H => ∃ (xs : List V) (x : V), SqL K H a xs ∧ xs[i]? = some x, fun i H v H' => ∃ T x, v = .ref T ∧ H T = none ∧ H' = upd H T (.tup [.int (k + (i : Nat)), x]) ∧ ∀ xs, SqL K H a xs → xs[i]? = some x, fun i H => ∃ xs : List V, SqL K H a xs ∧ xs.length = i⟩
theorem enum_ne {h : Heap} {e it a : Addr} {k : Int} {old : Value} {items : Array Value} (he : IsEnum h e it k old) (hl : h.IsList a items) : e ≠ a := fun z => by
  obtain ⟨o, ho, r⟩ := hl
  rw [← z, he] at ho
  injection ho with ho
  subst ho
  simp at r
theorem turn_enumF {P : Program} {w : World} {K : PySem.W.Frag} {elts : List Expr} {kk : Nat} {tpos : Pos} (a e it : Addr) (k : Int) :
    Turn P w K (.Tuple elts kk tpos) (IteF K a k) [e, it] e (fun i h => (∃ old, IsEnum h e it (k + ((i : Nat) : Int)) old) ∧ h.IsListIter it a i ∧ e ≠ it ∧ it ≠ a) where
  mem := by simp
  obj := fun i h st b hb => by
    obtain ⟨⟨old, he⟩, ⟨o, ho, hc, hd⟩, _⟩ := st
    have e' : b = e ∨ b = it := by simpa using hb
    rcases e' with z | z
    · rw [z]; exact ⟨_, he, fun v q => nomatch q⟩
    · rw [z]; exact ⟨o, ho, fun v q => by rw [hd] at q; cases q⟩
  keep := fun i h h' st k => let ⟨⟨old, he⟩, hi, hne⟩ := st; ⟨⟨old, k e (by simp) _ he⟩, hi.at fun o q => k it (by simp) o q, hne⟩
  item := by
    intro X hP hw hK hc i pins s σ H E I hf st hg
    subst hP hw hK
    obtain ⟨⟨old, he⟩, hit, hne, hia⟩ := st
    obtain ⟨xs, x, hq, hx⟩ := hg
    obtain ⟨its, rv, p, hz⟩ := I.list hq
    obtain ⟨u, hu, ru⟩ := rv.get hx
    have hel : e < s.heap.objs.size := Heap.lt_size he
    have hil : it < s.heap.objs.size := by obtain ⟨_, q, _⟩ := hit; exact Heap.lt_size q
    have hea : e ≠ a := enum_ne he p.isList
    have hD := Draws.list (prog := X.prog) (w := X.w) (A := X.A.in1) (I.ok.hd hc) it a (Ne.symm hia) its.toArray
    refine wpAny_pyNext_enum_itemC (i := i) hD he ⟨hit, p.isList⟩ (by have := (List.getElem?_eq_some_iff.mp hu).1; simpa using this) hne (by simp [hne, hea]) fun u' h' tk hu' ho hit' hT hsz hk => ?_
    have eu : u' = u := by
      have hu2 : its[i]? = some u' := by simpa using hu'
      rw [hu] at hu2
      exact (Option.some.inj hu2).symm
    subst eu
    refine ⟨_, rfl, wpAny_letOwnedTupleGo_enum (s := { s with heap := h', toks := tk + 1 }) ho fun h'' he' sb => ?_⟩
    have hT2 : h''.get? s.heap.objs.size = some { cls := .type "tuple", data := .seq #[.int (k + (i : Int)) tk, u'] } := (sb.2 _ (Nat.ne_of_gt hel)).trans hT
    have new : ObjOk X.prog X.w (upd H s.heap.objs.size (.tup [.int (k + (i : Nat)), x])) h'' s.heap.objs.size (.tup [.int (k + (i : Nat)), x]) :=
      ⟨by show 2 ≤ sizeLine; decide, [.int (k + (i : Int)) tk, u'], .cons ⟨_, rfl⟩ (.cons ru .nil), ⟨_, hT2, rfl, _, rfl⟩⟩
    have I1 : Inv X pins σ (upd H s.heap.objs.size (.tup [.int (k + (i : Nat)), x])) { s with heap := h'', toks := tk + 1 } :=
      I.turnedNew (ch := [e, it]) (fun b ob hb q => (sb.2 b (fun z => hb (by simp [z]))).trans (hk b ob (fun z => hb (by simp [z])) (fun z => hb (by simp [z])) q)) hf (Nat.le_refl _) new
    refine ⟨.ref s.heap.objs.size, _, I1, rfl, ⟨_, x, rfl, I.hok.fresh (Nat.le_refl _), rfl, fun ys hy => by rw [I.list_inj hy hq]; exact hx⟩, ⟨⟨u', ?_⟩, hit'.1.at fun o q => (sb.2 it (Ne.symm hne)).trans q, hne, hia⟩, fun b hb => ?_⟩
    · have e1 : k + ((i + 1 : Nat) : Int) = k + (i : Int) + 1 := by omega
      rw [e1]; exact he'
    · have hb' : b < s.heap.objs.size := by
        have e' : b = e ∨ b = it := by simpa using hb
        rcases e' with z | z
        · rw [z]; exact hel
        · rw [z]; exact hil
      rw [upd_ne (Nat.ne_of_lt hb')]
      exact (hf b hb).1
  done := by
    intro X hP hw hK hc i pins s σ H E I hf st hg
    subst hP hw hK
    obtain ⟨⟨old, he⟩, hit, hne, hia⟩ := st
    obtain ⟨xs, hq, hx⟩ := hg
    obtain ⟨its, rv, p, hz⟩ := I.list hq
    obtain ⟨f0, f1, f2, f3, f4, f5⟩ := hf it (by simp)
    have hl := rv.length
    have hea : e ≠ a := enum_ne he p.isList
    have hD := Draws.list (prog := X.prog) (w := X.w) (A := X.A.in1) (I.ok.hd hc) it a (Ne.symm hia) its.toArray
    have hn : its.toArray.size = i := by
      rw [List.size_toArray]
      omega
    rw [← hn] at hit
    exact wpAny_pyNext_enum_endD hD he ⟨hit, p.isList⟩ fun h' eb => ⟨rfl, I.turned (t' := s.toks) (fun b o hb q => eb b o hb q) f0 f1 f3 f4 f5⟩
  self := fun A i s Q E st h => let ⟨⟨_, he⟩, _⟩ := st; wpAny_pyIter_enum he h
def iEnumF (K : PySem.W.Frag) (ta : TA) : TI := fun σ H R => ta σ H fun vs H1 => ∃ a xs k, vs = [.ref a, .int k] ∧ SqL K H1 a xs ∧ -(2 ^ 63) ≤ k ∧ k < 2 ^ 63 ∧ R (IteF K a k) H1
theorem pi_enumF {X : Cx} {e f : Expr} {ta : TA} {p pos tpos : Pos} {elts : List Expr} {kk : Nat} (hg : Gl X "enumerate") (hm : X.mg "enumerate" = none) (ha : PA X [e, f] ta) (hs : starEach [e, f] X.env = [(false, eval e X.env), (false, eval f X.env)] := by rfl) (hs2 : starEach [f] X.env = [(false, eval f X.env)] := by rfl) :
    PI X (.Tuple elts kk tpos) (.Call (.Name "enumerate" p) [e, f] [] pos) (iEnumF X.K ta) := by
  refine ⟨fun pins s σ H R I h => ?_⟩
  refine Call_ (ld_blt I hg hm boot_enumerate (PyProof.Rows.callWith_type1 (thn (ha.run pos pins s σ H _ I h) fun us s1 ⟨vs, H1, I1, r1, q1⟩ => ?_) (by rw [hs, hs2]) (by rw [hs2]; rfl)))
  obtain ⟨a, xs, k, ex, hq, k0, k1, q⟩ := q1
  subst ex
  cases r1 with
  | cons r rr =>
    cases rr with
    | cons r' rr =>
      cases rr
      cases r
      obtain ⟨t', rfl⟩ := r'
      obtain ⟨its, rv, p', hz⟩ := I1.list hq
      refine enum_begins (begins_list a its.toArray) p'.isList k0 k1 fun h' he hit hsz hk => wpAny_pyIter_enum he ?_
      have I2 : Inv X pins σ H1 { s1 with heap := h' } := I1.kept (t' := s1.toks) hk
      have hia : s1.heap.objs.size ≠ a := fun z => by
        obtain ⟨o, ho, _⟩ := p'.isList
        have h1 := Heap.lt_size ho
        rw [← z] at h1
        exact Nat.lt_irrefl _ h1
      have e0 : k + ((0 : Nat) : Int) = k := by omega
      refine ⟨s1.heap.objs.size + 1, [s1.heap.objs.size + 1, s1.heap.objs.size], _, _, H1, rfl, I2, turn_enumF a (s1.heap.objs.size + 1) s1.heap.objs.size k, ⟨⟨.none, by rw [e0]; exact he⟩, ⟨_, hit, rfl, rfl⟩, Nat.succ_ne_self _, hia⟩, fun b hb => ?_, q⟩
      have e' : b = s1.heap.objs.size + 1 ∨ b = s1.heap.objs.size := by simpa using hb
      have hle : s1.heap.objs.size ≤ b := by
        rcases e' with z | z
        · rw [z]; exact Nat.le_add_right _ _
        · rw [z]; exact Nat.le_refl _
      exact I1.fpOk hle (I1.hok.fresh hle)
theorem for_enumF {K : PySem.W.Frag} {a : Addr} {k : Int} {xs : List V} {g : TG} {tb : TS} {D : Ends} {σ : L2.St} {H : Hp} (Pv : Nat → L2.St → Hp → Prop) (h0 : Pv 0 σ H) (hl : ∀ i σ H, i ≤ xs.length → Pv i σ H → SqL K H a xs)
    (hs : ∀ (i : Nat) (x : V) (T : Addr) (σ : L2.St) (H : Hp), xs[i]? = some x → H T = none → Pv i σ H → g (.ref T) σ (upd H T (.tup [.int (k + (i : Nat)), x])) fun σ2 H2 => tb { D with nx := Pv (i + 1), ct := Pv (i + 1), bk := D.nx } σ2 H2) (hd : ∀ σ H, Pv xs.length σ H → D.nx σ H) :
    ∃ W : Nat → Nat → L2.St → Hp → Prop, (∃ m, W 0 m σ H) ∧ ∀ i m σ H, W i m σ H →
      ((IteF K a k).stop i H ∧ D.nx σ H) ∨ ((IteF K a k).go i H ∧ ∃ N : L2.St → Hp → Prop, (∀ σ' H', N σ' H' → ∃ m', m' < m ∧ W (i + 1) m' σ' H') ∧ ∀ x H', (IteF K a k).yld i H x H' → g x σ H' fun σ2 H2 => tb { D with nx := N, ct := N, bk := D.nx } σ2 H2) := by
  refine ⟨fun i m σ H => m = xs.length - i ∧ i ≤ xs.length ∧ Pv i σ H, ⟨xs.length, by simp, Nat.zero_le _, h0⟩, ?_⟩
  rintro i m σ H ⟨rfl, hi, p⟩
  have q := hl i σ H hi p
  by_cases hlt : i < xs.length
  · refine .inr ⟨⟨xs, xs[i], q, by simp [hlt]⟩, Pv (i + 1), fun σ' H' p' => ⟨xs.length - (i + 1), by omega, rfl, hlt, p'⟩, fun x H' y => ?_⟩
    obtain ⟨T, z, rfl, nT, rfl, hz⟩ := y
    exact hs i z T σ H (hz xs q) nT p
  · have e : i = xs.length := by omega
    subst e
    exact .inl ⟨⟨xs, q, rfl⟩, hd σ H p⟩
end Ef

/-! d.setdefault(t, v), the keys of d tuples -/
namespace PySem
section
variable {prog : Program} {w : World} {K : Type} [DecidableEq K] {knd : HeapKind prog w K} {A : Around} {E : Value → Shared → Prop} {s : Shared}
theorem St_meetsSetd {d b : Addr} {k : K} (dflt : Value) (hd : (d == sysModules) = false) :
    MeetsIn prog w (Builtin.«dict.setdefault» ⟨[.ref d, .ref b, dflt], []⟩) (fun A R s => ∃ xs, knd.room A.in1 ∧ knd.is s.heap k b ∧ s.heap.DictOfH knd d xs ∧ xs.length ≤ sizeLine ∧
      (∀ p, atKey xs k = some p → ∀ tk, R (.ok (.ret p.2)) { s with toks := tk }) ∧
      (atKey xs k = none → ∀ h' tk, h'.DictOfH knd d (storedH xs k b dflt) → Heap.SameBut d s.heap h' → R (.ok (.ret dflt)) { s with heap := h', toks := tk })) :=
  .of_wp fun A R s ⟨xs, hu, hkey, hm, hz, h1, h2⟩ => by
    unfold Builtin.«dict.setdefault»
    refine wpAny_bind ?_
    unfold Builtin.Dict.keyAndDefault
    refine wpAny_bind (wpAny_notOrdered_dict hm.typeIs ?_)
    show wpAny _ _ (pure (d, Value.ref b, some dflt)) _ _ s
    refine wpAny_pure ?_
    show wpAny _ _ (if (d == sysModules) = true then _ else (dictSetDefault d (.ref b) dflt >>= _)) _ _ s
    rw [if_neg (by rw [hd]; exact Bool.false_ne_true)]
    exact wpAny_bind (wpAny_dictSetDefault_heap (hsz := hz) hu hkey hm (fun p hp => wpAny_pure ⟨p.2, rfl, h1 p hp _⟩) fun hn h' hm' hs' => wpAny_pure ⟨dflt, rfl, h2 hn h' _ hm' hs'⟩)
end
end PySem
namespace St
open PySem PySem.Spec PyProof.Rows L2 L2.DX
/-- d.setdefault(y, z), d with tuples as keys -/
def tDSetT (td ty tx : TE) : TE := fun σ H Q => td σ H fun x H1 => ∃ a, x = .ref a ∧ IsD H1 a ∧ ty σ H1 fun y H2 => tx σ H2 fun z H3 => ∃ (kvs : List (List L2.Key × V)) (k : List L2.Key) (b : Addr), H3 a = some (.dT kvs) ∧ y = .ref b ∧ H3 b = some (.tup (k.map kV)) ∧ kvs.length < sizeLine ∧
  (∀ v, valV kvs k = some v → Q v H3) ∧ (valV kvs k = none → Q z (upd H3 a (.dT (putK kvs k z))))
section
variable {X : Cx} {pins : List (Addr × Obj)} {σ : L2.St} {H : Hp} {s : Shared} {a b : Addr} {r : Value} {d : V} {k : List L2.Key} {E : Value → Shared → Prop}
theorem d_setT {kvs : List (List L2.Key × V)} {Q : Value → Shared → Prop} (hu : X.A.units + 1 < cLine) (I : Inv X pins σ H s) (e : H a = some (.dT kvs)) (eb : H b = some (.tup (k.map kV))) (rd : RelV d r) (hl : kvs.length < sizeLine)
    (h1 : ∀ v, valV kvs k = some v → ∀ (w' : Value) (s' : Shared), Inv X pins σ H s' → RelV v w' → Q w' s') (h2 : valV kvs k = none → ∀ (s' : Shared), Inv X pins σ (upd H a (.dT (putK kvs k d))) s' → Q r s') :
    wpAny (model X.prog X.w) X.A (call (.builtin "dict.setdefault") [.ref a, .ref b, r]) Q E s := by
  obtain ⟨z, hd, xs, rel, dd⟩ := dt_of I.hok e
  have hz : xs.length ≤ sizeLine := by rw [← Paired.length rel]; exact z
  refine call_meetsIn PySem.F.slot_dict_setdefault dd.typeIs PySem.F.entry_dict_setdefault (PySem.F.args_dict_setdefault_3 _ _ _) (St_meetsSetd (knd := tupleKind (mixKind X.prog X.w)) (k := k) r hd)
    ⟨xs, tupleKind_room_in1 hu, key_of I.hok eb, dd, hz, fun p hp tk => ?_, fun hn h' tk dd' hs => ?_⟩
  · have q := rel.val k
    rw [hp] at q
    cases ev : valV kvs k with
    | none =>
      rw [ev] at q
      exact (show False from q).elim
    | some v0 =>
      rw [ev] at q
      exact h1 v0 ev _ _ (I.tok tk) q
  · have q := rel.val k
    rw [hn] at q
    cases ev : valV kvs k with
    | some v0 =>
      rw [ev] at q
      exact (show False from q).elim
    | none =>
      have hl2 : (putK kvs k d).length ≤ sizeLine := by
        have := length_putK kvs k d
        omega
      obtain ⟨o, es, ep, hq, g2, g3, g4, _, g5⟩ := dd'
      refine h2 ev _ (d_write (t' := tk) I (by rw [e]; exact True.intro) hs ⟨o, hq⟩ ⟨hl2, hd, _, (rel.put k eb rd).keeps (fun c ys ec => ?_), o, es, ep, hq, g2, g3, g4, g5⟩)
      rw [upd_ne (ne_of ec e (fun z => nomatch z))]
      exact ec
end
section
variable {X : Cx} {o e f : Expr} {td ty tx : TE} {apos cpos : Pos}
theorem pe_dsetT (hu : X.A.units + 1 < cLine) (ho : PE X o td) (he : PE X e ty) (hf : PE X f tx) (m : M2 X o "setdefault" apos e f cpos) : PE X (.Call (.Attribute o "setdefault" apos) [e, f] [] cpos) (tDSetT td ty tx) := by
  refine ⟨fun pins s σ H Q I h => ?_⟩
  refine wpAny_Call_method m.base m.few m.line PySem.F.plainAttrs_dict PySem.F.slot_dict_setdefault PySem.F.type_dict_setdefault (thn (ho.run pins s σ H _ I h) fun u s1 ⟨x, H1, I1, rx, a, ex, d, q1⟩ => ?_)
  subst ex
  obtain rfl : u = Value.ref a := rx
  obtain ⟨t1, t2, _⟩ := isD_at I1 d
  refine ⟨t1, t2, ?_⟩
  rw [m.trees]
  refine Calls.callWith_builtin rfl (Calls.evalArgs_plain (Calls.spliced_cons (thn (he.run pins s1 σ H1 _ I1 q1) fun iv s2 ⟨y, H2, I2, ry, q2⟩ =>
    Calls.spliced_cons (thn (hf.run pins s2 σ H2 _ I2 q2) fun fv s3 ⟨z, H3, I3, rz, kvs, k, b, ea, ey, eb, hl, q3, q4⟩ => Calls.spliced_nil ?_))))
  subst ey
  obtain rfl : iv = Value.ref b := ry
  exact d_setT hu I3 ea eb rz hl (fun v hv w' s4 I4 rw' => ⟨v, _, I4, rw', q3 v hv⟩) fun hn s4 I4 => ⟨z, _, I4, rz, q4 hn⟩
end
end St

/-! the round of i -> 5 i + 1 on 512 places -/
namespace Sm
open PySem L2
/-- the places, one after another -/
def orbL (m : Nat) : Nat → Nat → List Nat
  | 0, _ => []
  | n + 1, x => x :: orbL m n ((x * 5 + 1) % (m + 1))
theorem orbL_get (m : Nat) : ∀ (n x k : Nat), k < n → (orbL m n x)[k]? = some (lcgI m x k)
  | 0, x, k, h => absurd h (Nat.not_lt_zero _)
  | n + 1, x, 0, h => rfl
  | n + 1, x, k + 1, h => by
    show (orbL m n ((x * 5 + 1) % (m + 1)))[k]? = _
    rw [orbL_get m n _ k (by omega)]
    have key : ∀ k x, lcgI m ((x * 5 + 1) % (m + 1)) k = lcgI m x (k + 1) := by
      intro k
      induction k with
      | zero => intro x; rfl
      | succ k ih =>
        intro x
        show (lcgI m ((x * 5 + 1) % (m + 1)) k * 5 + 1) % (m + 1) = (lcgI m x (k + 1) * 5 + 1) % (m + 1)
        rw [ih]
    rw [key]
theorem orb_all : ((List.range 512).all fun j => (orbL 511 512 0).contains j) = true := by decide +kernel
theorem lcgI_zero (m : Nat) : ∀ k, lcgI m 0 k = lcgN m k
  | 0 => rfl
  | k + 1 => by
    show (lcgI m 0 k * 5 + 1) % (m + 1) = (lcgN m k * 5 + 1) % (m + 1)
    rw [lcgI_zero m k]
theorem orbL_len (m : Nat) : ∀ n x, (orbL m n x).length = n
  | 0, _ => rfl
  | n + 1, x => congrArg (· + 1) (orbL_len m n _)
/-- each of the 512 places comes in a round -/
theorem lcg_all511 {j : Nat} (hj : j ≤ 511) : ∃ b, b ≤ 511 ∧ lcgN 511 b = j := by
  have h := List.all_eq_true.mp orb_all j (List.mem_range.mpr (by omega))
  have h := List.contains_iff_mem.mp h
  obtain ⟨b, hb⟩ := List.mem_iff_getElem?.mp h
  have hl : b < 512 := by
    have := (List.getElem?_eq_some_iff.mp hb).1
    rwa [orbL_len] at this
  rw [orbL_get 511 512 0 b hl, lcgI_zero] at hb
  exact ⟨b, by omega, Option.some.inj hb⟩
theorem round511 : lcgN 511 512 = 0 := by decide +kernel
/-- the masks that come, up to 512 places -/
def MaskX (m : Nat) : Prop := MaskOk m ∨ m = 511
theorem allX {m : Nat} (hm : MaskX m) {j : Nat} (hj : j ≤ m) : ∃ b, b ≤ m ∧ lcgN m b = j := by
  rcases hm with h | h
  · exact lcg_all h hj
  · subst h
    exact lcg_all511 hj
theorem roundX {m : Nat} (hm : MaskX m) : lcgN m (m + 1) = 0 := by
  rcases hm with h | h
  · exact lcg_round h
  · subst h
    exact round511
theorem modX {m : Nat} (hm : MaskX m) (k : Nat) : lcgN m (m + 1 + k) = lcgN m k := by
  induction k with
  | zero => exact roundX hm
  | succ k ih =>
    show (lcgN m (m + 1 + k) * 5 + 1) % (m + 1) = (lcgN m k * 5 + 1) % (m + 1)
    rw [ih]
/-- from any place to any other within a round -/
theorem fromX {m : Nat} (hm : MaskX m) {i j : Nat} (hi : i ≤ m) (hj : j ≤ m) : ∃ k, k ≤ m ∧ lcgI m i k = j := by
  obtain ⟨a, ha, rfl⟩ := allX hm hi
  obtain ⟨b, hb, rfl⟩ := allX hm hj
  by_cases c : a ≤ b
  · exact ⟨b - a, by omega, by rw [lcgN_add, Nat.add_sub_cancel' c]⟩
  · refine ⟨m + 1 + b - a, by omega, ?_⟩
    rw [lcgN_add, Nat.add_sub_cancel' (by omega), modX hm]
/-- a search meets every place within its bound -/
theorem nth_meetsX {m : Nat} (hm : MaskX m) (h : Int) {j : Nat} (hj : j ≤ m) : ∃ n k, n ≤ m + 12 ∧ runI m (SetTable.bits h) n = j ∧ k < 10 * SetTable.turns m ∧ (nth m (runAt m (SetTable.bits h % (m + 1)) (SetTable.bits h)) k).j = j := by
  obtain ⟨c, hc, e⟩ := fromX hm (runI_le m (SetTable.bits h) 12) hj
  have e2 : runI m (SetTable.bits h) (12 + c) = j := by
    rw [runI_tail (bits_lt h)]
    exact e
  obtain ⟨k, hk, ek⟩ := run_nth m (SetTable.bits h) (12 + c)
  refine ⟨12 + c, k, by omega, e2, ?_, ?_⟩
  · unfold SetTable.turns
    omega
  · rw [ek]
    exact e2
end Sm

/-! a set's table of up to 512 places: each entry is found again from its hash -/
namespace Sm
open PySem L2
/-- the c-th state of the search for the hash h -/
abbrev stp (m : Nat) (h : Int) (c : Nat) : SetTable.Probe := nth m (runAt m (SetTable.bits h % (m + 1)) (SetTable.bits h)) c
theorem stp_le (m : Nat) (h : Int) (c : Nat) : (stp m h c).j ≤ m := by
  have b := runEnd_bd (m := m) (i := SetTable.bits h % (m + 1)) (Nat.le_of_lt_succ (Nat.mod_lt _ (Nat.succ_pos m)))
  have z : (runAt m (SetTable.bits h % (m + 1)) (SetTable.bits h)).j + (runAt m (SetTable.bits h % (m + 1)) (SetTable.bits h)).more ≤ m := by
    unfold runAt
    dsimp only
    omega
  have q := nth_in c _ z
  show (nth m (runAt m (SetTable.bits h % (m + 1)) (SetTable.bits h)) c).j ≤ m
  omega
theorem stp_add (m : Nat) (h : Int) (c d : Nat) : nth m (stp m h c) d = stp m h (c + d) := (nth_add m c _ d).symm
theorem stp_dm (m : Nat) (h : Int) : ∀ c, (stp m h c).dummy = none
  | 0 => rfl
  | c + 1 => by
    have e : stp m h (c + 1) = adv m (stp m h c) := nth_succ m _ c
    rw [e]
    unfold adv
    split
    · exact stp_dm m h c
    · exact stp_dm m h c
/-- h's entry, if it stands at j, is met before any free place -/
def Met (m : Nat) (pl : List Nat) (h : Int) (j : Nat) : Prop := ∃ c, (stp m h c).j = j ∧ ∀ d, d < c → (stp m h d).j ∈ pl
theorem Met.mono {m : Nat} {pl pl' : List Nat} {h : Int} {j : Nat} (x : Met m pl h j) (s : ∀ y ∈ pl, y ∈ pl') : Met m pl' h j :=
  let ⟨c, e, b⟩ := x
  ⟨c, e, fun d hd => s _ (b d hd)⟩
structure Tab (t : SetTable) (hs : List Int) : Prop where
  up : Ris t.place.toList
  noD : t.dummies = #[]
  len : t.place.toList.length = hs.length
  msk : MaskX t.mask
  lim : ∀ y ∈ t.place.toList, y ≤ t.mask
  met : ∀ (i : Nat) (h : Int) (j : Nat), hs[i]? = some h → t.place.toList[i]? = some j → Met t.mask t.place.toList h j
theorem Tab.fresh (f mv : Nat) (l : Bool) : Tab (.fresh f mv l) [] :=
  ⟨List.Pairwise.nil, rfl, rfl, .inl (.inl rfl), fun y hy => (by cases hy), fun i h j e => (by cases e)⟩
/-- the first free place of the search -/
def Hole (t : SetTable) (h : Int) (c : Nat) : Prop := (stp t.mask h c).j ∉ t.place.toList ∧ ∀ d, d < c → (stp t.mask h d).j ∈ t.place.toList
theorem Tab.hole {t : SetTable} {hs : List Int} (T : Tab t hs) (hl : hs.length ≤ t.mask) (h : Int) : ∃ c, c < 10 * SetTable.turns t.mask ∧ Hole t h c := by
  obtain ⟨j, hj, hn⟩ := st_missing t.place.toList (t.mask + 1) (by rw [T.len]; omega)
  obtain ⟨_, k, _, _, hk, e⟩ := nth_meetsX T.msk h (Nat.le_of_lt_succ hj)
  have e : (stp t.mask h k).j = j := e
  obtain ⟨c, c1, c2, c3⟩ := st_least (p := fun c => (stp t.mask h c).j ∉ t.place.toList) k (fun z => hn (e ▸ z))
  exact ⟨c, Nat.lt_of_le_of_lt c1 hk, c2, fun d hd => Classical.byContradiction fun z => c3 d hd z⟩
theorem Hole.ahead {t : SetTable} {hs : List Int} (T : Tab t hs) {h : Int} {c : Nat} (Z : Hole t h c) {i j : Nat} (hi : hs[i]? = some h) (hj : t.place.toList[i]? = some j) : ∃ d, d < c ∧ (stp t.mask h d).j = j := by
  obtain ⟨d, e, b⟩ := T.met i h j hi hj
  refine ⟨d, Nat.lt_of_not_le fun z => ?_, e⟩
  rcases Nat.lt_or_eq_of_le z with z | z
  · exact Z.1 (b c z)
  · subst z
    exact Z.1 (e ▸ List.mem_of_getElem? hj)
theorem Tab.odd {t : SetTable} {hs : List Int} (T : Tab t hs) : t.mask % 2 = 1 := by
  rcases T.msk with (e | e | e) | e <;> (rw [e])
theorem Tab.big {t : SetTable} {hs : List Int} (T : Tab t hs) : t.mask ≤ 511 := by
  rcases T.msk with (e | e | e) | e <;> omega
/-- one put in at the hole -/
theorem Tab.put {t : SetTable} {hs : List Int} (T : Tab t hs) {h : Int} {c p : Nat} (Z : Hole t h c) (hp : SetTable.below t.place (stp t.mask h c).j = p) :
    p ≤ hs.length ∧ Tab (t.put (stp t.mask h c).j).1 (hs.take p ++ h :: hs.drop p) := by
  have lj := stp_le t.mask h c
  obtain ⟨z1, z2⟩ := Z
  have z2' : ∀ (pl : List Nat), (∀ y ∈ t.place.toList, y ∈ pl) → Met t.mask pl h (stp t.mask h c).j := fun pl s => ⟨c, rfl, fun d hd => s _ (z2 d hd)⟩
  generalize (stp t.mask h c).j = j at lj z1 z2' hp ⊢
  have cut := (below_cut T.up j).1
  rw [hp] at cut
  have a1 : p ≤ t.place.toList.length := by rw [Array.length_toList]; exact cut
  have a2 : p ≤ hs.length := by rw [← T.len]; exact a1
  have pl : (t.put j).1.place.toList = t.place.toList.take p ++ j :: t.place.toList.drop p := by rw [put_place, hp]
  have sub : ∀ y ∈ t.place.toList, y ∈ (t.put j).1.place.toList := fun y hy => by rw [pl]; exact mem_ins.2 (.inr hy)
  refine ⟨a2, ?_, put_dm T.noD j, ?_, T.msk, fun y hy => ?_, fun i h' j' e1 e2 => ?_⟩
  · refine ris_insert T.up fun e => z1 (List.mem_of_getElem? (i := SetTable.below t.place j) ?_)
    rw [Array.getElem?_toList]
    exact e
  · rw [pl, len_ins _ a1, len_ins _ a2, T.len]
  · rw [pl] at hy
    rcases mem_ins.1 hy with hy | hy
    · exact hy ▸ lj
    · exact T.lim y hy
  · show Met t.mask _ h' j'
    rw [pl, tins_get _ a1] at e2
    rw [tins_get _ a2] at e1
    rcases Nat.lt_trichotomy i p with q | q | q
    · rw [if_pos q] at e1 e2
      exact (T.met i h' j' e1 e2).mono sub
    · rw [if_neg (by omega), if_pos q] at e1 e2
      cases e1
      cases e2
      exact z2' _ sub
    · rw [if_neg (by omega), if_neg (by omega)] at e1 e2
      exact (T.met (i - 1) h' j' e1 e2).mono sub
/-! laying all anew -/
theorem holeO {m : Nat} (hm : MaskX m) (ow : Array (Option Nat)) (h : Int) {j : Nat} (hj : j ≤ m) (hf : oAt ow j = none) :
    ∃ c, SetTable.layClean.free m ow (SetTable.turns m) (SetTable.bits h % (m + 1)) (SetTable.bits h) = some (stp m h c).j ∧ oAt ow (stp m h c).j = none ∧ ∀ d, d < c → oAt ow (stp m h d).j ≠ none := by
  obtain ⟨n, _, hn, e, _, _⟩ := nth_meetsX hm h hj
  have en : (stp m h (off m (SetTable.bits h % (m + 1)) (SetTable.bits h) n)).j = j := by
    unfold stp
    rw [nth_off, itL_run]
    exact e
  obtain ⟨c, c1, c2, c3⟩ := st_least (p := fun c => oAt ow (stp m h c).j = none) _ (by rw [en]; exact hf)
  refine ⟨c, free_spec m ow _ n _ _ c (by unfold SetTable.turns; omega) c1 (fun d hd => ?_) (by rw [show oAt ow (nth m _ c).j = none from c2]; rfl), c2, c3⟩
  have q := c3 d hd
  cases z : oAt ow (nth m (runAt m (SetTable.bits h % (m + 1)) (SetTable.bits h)) d).j with
  | none => exact absurd z q
  | some _ => rfl
theorem ownX {m : Nat} (hm : MaskX m) {dn : List Int} {ow : Array (Option Nat)} (W : Own m dn ow) (hl : dn.length ≤ m) (h : Int) :
    ∃ j, SetTable.layClean.free m ow (SetTable.turns m) (SetTable.bits h % (m + 1)) (SetTable.bits h) = some j ∧ Own m (dn ++ [h]) (ow.setIfInBounds j (some dn.length)) := by
  obtain ⟨us, hus, husi⟩ := W.ps
  obtain ⟨f, f1, f2⟩ := st_missing us (m + 1) (by omega)
  have f3 : oAt ow f = none := Classical.byContradiction fun z => f2 (husi f (Nat.le_of_lt_succ f1) z)
  obtain ⟨c, e1, e2, e3⟩ := holeO hm ow h (Nat.le_of_lt_succ f1) f3
  have lj := stp_le m h c
  refine ⟨_, e1, ?_⟩
  have own : ∀ d, (stp m h d).j = way m h d := fun _ => rfl
  rw [own] at e2 lj ⊢
  generalize hj : way m h c = j at e2 lj ⊢
  have isz : j < ow.size := by rw [W.sz]; omega
  have at_j := oAt_set_self (some dn.length) isz
  have at_i : ∀ i, i ≠ j → oAt (ow.setIfInBounds j (some dn.length)) i = oAt ow i := fun i hi => oAt_set_ne _ hi
  have stays : ∀ i, oAt ow i ≠ none → oAt (ow.setIfInBounds j (some dn.length)) i ≠ none := fun i hi => by
    by_cases q : i = j
    · subst q
      exact absurd e2 hi
    · rw [at_i i q]
      exact hi
  constructor
  · rw [Array.size_setIfInBounds, W.sz]
  · intro i k hi e
    by_cases q : i = j
    · subst q
      rw [at_j] at e
      cases e
      exact ⟨h, c, by simp, hj, fun d hd => stays _ (e3 d hd)⟩
    · rw [at_i i q] at e
      obtain ⟨h', c', g1, g2, g3⟩ := W.at_ i k hi e
      have lt := (List.getElem?_eq_some_iff.mp g1).1
      exact ⟨h', c', by rw [List.getElem?_append_left lt]; exact g1, g2, fun d hd => stays _ (g3 d hd)⟩
  · intro k hk
    rw [List.length_append] at hk
    have hk : k < dn.length + 1 := hk
    rcases Nat.lt_or_eq_of_le (Nat.le_of_lt_succ hk) with q | q
    · obtain ⟨i, g1, g2⟩ := W.all k q
      refine ⟨i, g1, ?_⟩
      rw [at_i i (fun z => by subst z; rw [e2] at g2; cases g2)]
      exact g2
    · exact ⟨j, lj, by rw [at_j, q]⟩
  · refine ⟨j :: us, by simp [hus], fun i hi e => ?_⟩
    by_cases q : i = j
    · exact q ▸ List.mem_cons_self
    · rw [at_i i q] at e
      exact List.mem_cons_of_mem _ (husi i hi e)
theorem layX {m : Nat} (hm : MaskX m) : ∀ (rest dn : List Int) (ow : Array (Option Nat)), Own m dn ow → dn.length + rest.length ≤ m →
    ∃ ow', rest.foldl (stepF m) (some (ow, dn.length)) = some (ow', (dn ++ rest).length) ∧ Own m (dn ++ rest) ow'
  | [], dn, ow, W, _ => ⟨ow, by simp, by simpa using W⟩
  | h :: rest, dn, ow, W, hl => by
    have hl : dn.length + (rest.length + 1) ≤ m := hl
    obtain ⟨j, e, W'⟩ := ownX hm W (by omega) h
    obtain ⟨ow', f1, f2⟩ := layX hm rest (dn ++ [h]) _ W' (by simp; omega)
    refine ⟨ow', ?_, by simpa using f2⟩
    rw [List.foldl_cons, stepF_some e]
    simpa using f1
theorem relaidX (t : SetTable) {hs : Array Int} {wanted M : Nat} (hw : SetTable.sizeAbove wanted - 1 = M) (hM : MaskX M) (hn : hs.size ≤ M) :
    ∃ t' od, t.relaid hs wanted = some (t', od) ∧ od.toList.Perm (List.range hs.size) ∧ Tab t' (od.toList.map fun i => hs.getD i 0) ∧ t'.mask = M ∧ t'.led = t.led := by
  obtain ⟨ow, e, W⟩ := layX hM hs.toList [] _ (Own.init M) (by simpa using hn)
  rw [List.nil_append] at W e
  have eL : SetTable.layClean M hs = some ow := by
    rw [layClean_eq]
    have e : hs.toList.foldl (stepF M) (some (Array.replicate (M + 1) none, 0)) = some (ow, hs.toList.length) := e
    rw [e]
    rfl
  have eR : t.relaid hs wanted = some (tabOf t M ow, ((liveOf M ow).map (·.2)).toArray) := by
    rw [relaid_eq, hw, eL]
    rfl
  obtain ⟨u1, u2⟩ := ris_live (fun j => ow.getD j none) (List.range (M + 1)) List.pairwise_lt_range
  have u1 : Ris ((liveOf M ow).map (·.1)) := u1
  have u2 : ∀ x ∈ (liveOf M ow).map (·.1), x ∈ List.range (M + 1) := u2
  have sz : (liveOf M ow).length = hs.size := by
    obtain ⟨us, g1, g2⟩ := W.ps
    refine Nat.le_antisymm ?_ ?_
    · have nd : ((liveOf M ow).map (·.1)).Nodup := List.Pairwise.imp (fun h => Nat.ne_of_lt h) u1
      have q := nat_nodup_len _ us nd fun x hx => by
        obtain ⟨⟨y, k⟩, hq, rfl⟩ := List.mem_map.mp hx
        have b := (mem_live W.sz).1 hq
        exact g2 y b.1 (by rw [b.2]; simp)
      rw [List.length_map, g1] at q
      exact q
    · have q := nat_nodup_len (List.range hs.size) ((liveOf M ow).map (·.2)) List.nodup_range fun k hk => by
        obtain ⟨i, b1, b2⟩ := W.all k (List.mem_range.mp hk)
        exact List.mem_map.mpr ⟨(i, k), (mem_live W.sz).2 ⟨b1, b2⟩, rfl⟩
      rw [List.length_map, List.length_range] at q
      exact q
  refine ⟨_, _, eR, ?_, ?_, rfl, rfl⟩
  · refine perm_range hs.size _ (by rw [List.toList_toArray, List.length_map, sz]) fun k hk => ?_
    obtain ⟨i, b1, b2⟩ := W.all k hk
    exact List.mem_map.mpr ⟨(i, k), (mem_live W.sz).2 ⟨b1, b2⟩, rfl⟩
  · constructor
    · exact u1
    · rfl
    · show ((liveOf M ow).map (·.1)).length = (((liveOf M ow).map (·.2)).map fun i => hs.getD i 0).length
      simp
    · exact hM
    · exact fun y hy => Nat.le_of_lt_succ (List.mem_range.mp (u2 y hy))
    · intro i h j e1 e2
      have e1 : (((liveOf M ow).map (·.2)).map fun i => hs.getD i 0)[i]? = some h := e1
      have e2 : ((liveOf M ow).map (·.1))[i]? = some j := e2
      cases q : (liveOf M ow)[i]? with
      | none => simp [q] at e2
      | some r =>
        obtain ⟨y, k⟩ := r
        simp only [List.getElem?_map, q, Option.map_some, Option.some.injEq] at e1 e2
        subst e2
        have b := (mem_live W.sz).1 (List.mem_of_getElem? q)
        obtain ⟨h', c, g1, g2, g3⟩ := W.at_ y k b.1 b.2
        have eh : hs.getD k 0 = h' := by
          rw [Array.getD_eq_getD_getElem?, ← Array.getElem?_toList, g1]
          rfl
        rw [eh] at e1
        subst e1
        refine ⟨c, g2, fun d hd => ?_⟩
        show way M h' d ∈ (liveOf M ow).map (·.1)
        cases z : oAt ow (way M h' d) with
        | none => exact absurd z (g3 d hd)
        | some k2 => exact List.mem_map.mpr ⟨(_, k2), (mem_live W.sz).2 ⟨stp_le M h' d, z⟩, rfl⟩
theorem size_308 : SetTable.sizeAbove (SetTable.grown 77) = 512 := by decide +kernel
end Sm

/-! sets of tuples of ints and texts: searched, added to, asked -/
namespace Sx
open PySem PySem.Spec PyProof.Rows L2 Sm
abbrev Ky := List L2.Key
abbrev Tp (P : Program) (w : World) (h : Heap) (k : Ky) (a : Addr) : Prop := IsTupleKey (mixKind P w) h k a
abbrev kh (P : Program) (w : World) (k : Ky) : Int := tupleKeyHash (mixKind P w) k
section
variable {P : Program} {w : World} {A : Around} {E : Value → Shared → Prop} {s : Shared}
theorem flat_items {k : Ky} {vs : List Value} (h : ItemsAre (mixKind P w) k vs) : ∀ v ∈ vs, (∃ i t, v = Value.int i t) ∨ ∃ x t, v = Value.str x t := by
  induction h with
  | nil => intro v hv; cases hv
  | cons h1 _ ih =>
    intro v hv
    rcases List.mem_cons.mp hv with e | hv
    · subst e
      rcases keyIs_shape h1 with ⟨i, t, _, e⟩ | ⟨x, t, _, e⟩
      · exact .inl ⟨i, t, e⟩
      · exact .inr ⟨x, t, e⟩
    · exact ih v hv
theorem cls_flat {v : Value} (h : (∃ i t, v = Value.int i t) ∨ ∃ x t, v = Value.str x t) (n : Nat) : ofAClassStatement n v = pure false := by
  rcases h with ⟨i, t, rfl⟩ | ⟨x, t, rfl⟩ <;> cases n <;> rfl
theorem byv_flat {v : Value} (h : (∃ i t, v = Value.int i t) ∨ ∃ x t, v = Value.str x t) (n : Nat) : ∃ b, hashByValue n v = pure b := by
  rcases h with ⟨i, t, rfl⟩ | ⟨x, t, rfl⟩
  · exact ⟨true, by cases n <;> rfl⟩
  · exact ⟨false, by cases n <;> rfl⟩
abbrev FlatL (l : List Value) : Prop := ∀ v ∈ l, (∃ i t, v = Value.int i t) ∨ ∃ x t, v = Value.str x t
theorem cls_tup {k : Ky} {b : Addr} {Q : Bool → Shared → Prop} (hk : Tp P w s.heap k b) (h : Q false s) : wpAny (model P w) A (ofAClassStatement 8 (.ref b)) Q E s := by
  have hT := hk.typeIs
  obtain ⟨o, its, n, ho, _, hd, hi⟩ := hk
  have fl : FlatL its.toList := flat_items hi
  unfold ofAClassStatement
  refine wpAny_bind (wpAny_typeOf hT ?_)
  dsimp only
  simp only [show (("tuple" : String) == "tuple") = true from by decide, if_true, Bool.not_true, Bool.false_eq_true, if_false]
  try refine wpAny_bind (wpAny_pure ?_)
  try simp only [Bool.not_true, Bool.false_eq_true, if_false]
  show wpAny _ _ (seqItems? (.ref b) >>= _) _ _ s
  refine wpAny_bind (wpAny_seqItems ho hd ?_)
  dsimp only
  refine wpAny_bind ?_
  show wpAny _ _ (forIn its _ _) _ _ s
  rw [← Array.forIn_toList]
  refine wpAny_forIn_list _ (fun l r z => r.1 = none ∧ z = s ∧ FlatL l) _ (fun v l r z hz => ?_) (fun r z hz => ?_) _ _ ⟨rfl, rfl, fl⟩
  · obtain ⟨hr, rfl, hl⟩ := hz
    rw [cls_flat (hl v List.mem_cons_self)]
    refine wpAny_bind (wpAny_pure ?_)
    simp only [Bool.false_eq_true, if_false]
    exact wpAny_pure ⟨rfl, rfl, fun u hu => hl u (List.mem_cons_of_mem _ hu)⟩
  · obtain ⟨r1, r2⟩ := r
    obtain ⟨hr, rfl, _⟩ := hz
    simp only at hr
    subst hr
    exact wpAny_pure h
theorem byv_tup {k : Ky} {b : Addr} {Q : Bool → Shared → Prop} (hk : Tp P w s.heap k b) (h : ∀ c, Q c s) : wpAny (model P w) A (hashByValue 8 (.ref b)) Q E s := by
  have hT := hk.typeIs
  obtain ⟨o, its, n, ho, _, hd, hi⟩ := hk
  have fl : FlatL its.toList := flat_items hi
  unfold hashByValue
  refine wpAny_bind (wpAny_specialOf hT F.slot_tuple_hash.lookup ?_)
  show wpAny _ _ (seqItems? (.ref b) >>= _) _ _ s
  refine wpAny_bind (wpAny_seqItems ho hd ?_)
  refine wpAny_bind ?_
  show wpAny _ _ (forIn its _ _) _ _ s
  rw [← Array.forIn_toList]
  refine wpAny_forIn_list _ (fun l r z => z = s ∧ FlatL l) _ (fun v l r z hz => ?_) (fun r z hz => ?_) _ _ ⟨rfl, fl⟩
  · obtain ⟨rfl, hl⟩ := hz
    obtain ⟨c, ec⟩ := byv_flat (hl v List.mem_cons_self) 7
    rw [ec]
    refine wpAny_bind (wpAny_pure ?_)
    have nx : FlatL l := fun u hu => hl u (List.mem_cons_of_mem _ hu)
    cases c with
    | true =>
      simp only [Bool.not_true, Bool.false_eq_true, if_false]
      exact wpAny_pure ⟨rfl, nx⟩
    | false =>
      simp only [Bool.not_false, if_true]
      exact wpAny_pure (wpAny_pure (h _))
  · obtain ⟨r1, r2⟩ := r
    obtain ⟨rfl, _⟩ := hz
    cases r1 with
    | none => exact wpAny_pure (h _)
    | some c => exact wpAny_pure (h _)
end

abbrev Mem := List (Addr × Ky)
abbrev ksOf (L : Mem) : List Ky := L.map fun p => p.2
def hasK (L : Mem) (k : Ky) : Bool := L.any fun p => decide (p.2 = k)
theorem hasK_iff {L : Mem} {k : Ky} : hasK L k = true ↔ k ∈ ksOf L := by
  unfold hasK
  rw [List.any_eq_true, List.mem_map]
  exact ⟨fun ⟨p, m, e⟩ => ⟨p, m, of_decide_eq_true e⟩, fun ⟨p, m, e⟩ => ⟨p, m, decide_eq_true e⟩⟩
theorem hasK_no {L : Mem} {k : Ky} (h : k ∉ ksOf L) : hasK L k = false := by
  cases e : hasK L k with
  | false => rfl
  | true => exact absurd (hasK_iff.1 e) h
abbrev hsOf (P : Program) (w : World) (L : Mem) : List Int := L.map fun p => kh P w p.2
def rowOf (P : Program) (w : World) (p : Addr × Ky) : Int × Value := (kh P w p.2, .ref p.1)
/-- the set at a: its entries, its table -/
structure SetR (P : Program) (w : World) (h : Heap) (a : Addr) (L : Mem) (es : Array (Int × Value)) (t : SetTable) : Prop where
  ob : ∃ o ep, h.get? a = some o ∧ o.ExactSet ∧ o.data = .set es ep t
  rows : es.toList = L.map (rowOf P w)
  tab : Tab t (hsOf P w L)
  nd : (ksOf L).Nodup
  room : L.length * 5 < t.mask * 3
/-- its members stand as tuples -/
abbrev Tups (P : Program) (w : World) (h : Heap) (L : Mem) : Prop := ∀ p ∈ L, Tp P w h p.2 p.1
section
variable {P : Program} {w : World} {A : Around} {E : Value → Shared → Prop} {s : Shared} {h : Heap} {a : Addr} {L : Mem} {es : Array (Int × Value)} {t : SetTable}
theorem SetR.size (R : SetR P w h a L es t) : es.size = L.length := by
  rw [← Array.length_toList, R.rows, List.length_map]
theorem SetR.fits (R : SetR P w h a L es t) : t.fits es.size = true := by
  have e1 := R.tab.len
  rw [List.length_map, Array.length_toList] at e1
  have e2 := R.room
  unfold SetTable.fits SetTable.fill
  rw [R.tab.noD, R.size, e1, Bool.and_eq_true]
  exact ⟨beq_self_eq_true _, decide_eq_true (by show L.length + 0 ≤ t.mask; omega)⟩
theorem SetR.at (R : SetR P w h a L es t) {i : Nat} {p : Addr × Ky} (e : L[i]? = some p) : es[i]? = some (kh P w p.2, Value.ref p.1) := by
  rw [← Array.getElem?_toList, R.rows, List.getElem?_map, e]
  rfl
theorem SetR.sound (R : SetR P w h a L es t) : ¬ t.gaveWay = true := by
  unfold SetTable.gaveWay
  rw [R.tab.odd]
  decide
theorem seen_not {k : Ky} {b : Addr} {Q : Bool → Shared → Prop} (hk : Tp P w s.heap k b) {ys : List Value} (hy : ∀ y ∈ ys, ∃ k' c, y = Value.ref c ∧ Tp P w s.heap k' c) (q : Q false s) :
    wpAny (model P w) A (searchCouldBeSeen (.ref b) ys) Q E s := by
  unfold searchCouldBeSeen
  refine wpAny_bind ?_
  refine wpAny_forIn_list _ (fun l r z => r.1 = none ∧ z = s ∧ ∀ y ∈ l, ∃ k' c, y = Value.ref c ∧ Tp P w s.heap k' c) _ (fun v l r z hz => ?_) (fun r z hz => ?_) _ _ ⟨rfl, rfl, hy⟩
  · obtain ⟨hr, rfl, hl⟩ := hz
    obtain ⟨k', c, rfl, hc⟩ := hl v List.mem_cons_self
    have nx : ∀ y ∈ l, ∃ k' c, y = Value.ref c ∧ Tp P w z.heap k' c := fun u hu => hl u (List.mem_cons_of_mem _ hu)
    dsimp only
    split
    · exact wpAny_pure ⟨rfl, rfl, nx⟩
    · refine wpAny_bind (wpAny_eqIsQuiet_tuple hk ?_)
      simp only [Bool.not_true, Bool.false_eq_true, if_false]
      refine wpAny_bind (wpAny_eqIsQuiet_tuple hc ?_)
      simp only [Bool.not_true, Bool.false_eq_true, if_false]
      refine wpAny_bind (cls_tup hk ?_)
      simp only [Bool.false_eq_true, if_false]
      refine wpAny_bind (cls_tup hc ?_)
      simp only [Bool.false_eq_true, if_false]
      exact wpAny_pure ⟨rfl, rfl, nx⟩
  · obtain ⟨r1, r2⟩ := r
    obtain ⟨hr, rfl, _⟩ := hz
    simp only at hr
    subst hr
    exact wpAny_pure q
/-- the search from its c-th state on -/
theorem seek (R : SetR P w s.heap a L es t) (TU : Tups P w s.heap L) {x : Addr} {k : Ky} (hx : Tp P w s.heap k x) (hu : A.units < cLine) (add : Bool) {z : Nat} (hz : z < 10 * SetTable.turns t.mask) (Z : Hole t (kh P w k) z) {Q : SetFound → Shared → Prop}
    (yes : ∀ i, (add = false → i.isSome = true) → k ∈ ksOf L → Q (.there i) s) (no : k ∉ ksOf L → Q (.free (stp t.mask (kh P w k) z).j false) s) :
    ∀ (f c : Nat) (st : Option SetTable.Probe), st.getD (t.probeStart (kh P w k)) = stp t.mask (kh P w k) c → c ≤ z → z - c < f →
      (∀ (i : Nat) (p : Addr × Ky), L[i]? = some p → p.2 = k → ∃ d, c ≤ d ∧ d < z ∧ t.place.toList[i]? = some (stp t.mask (kh P w k) d).j) →
      wpAny (model P w) A (setSearchFrom a (.ref x) (kh P w k) add f st) Q E s
  | 0, c, st, _, _, hf, _ => absurd hf (Nat.not_lt_zero _)
  | f + 1, c, st, hst, hc, hf, lie => by
    obtain ⟨o, ep, ho, hex, hd⟩ := R.ob
    rw [setSearchFrom_succ]
    refine wpAny_bind (wpAny_setState_of ho hd R.fits ?_)
    dsimp only
    refine wp_if_neg R.sound ?_
    try refine wpAny_bind (wpAny_pure ?_)
    have hAt : ∀ (i : Nat) (p : Addr × Ky), L[i]? = some p → ((es[i]?.map (·.1)).getD 0) = kh P w p.2 := fun i p e => by rw [R.at e]; rfl
    have spec := go_spec t R.tab.up R.tab.noD (fun i => (es[i]?.map (·.1)).getD 0) (kh P w k) (10 * SetTable.turns t.mask) (z - c) (stp t.mask (kh P w k) c) (stp_dm _ _ c) (by omega)
      (fun q hq => by rw [stp_add]; exact Z.2 _ (by omega)) (by rw [stp_add, Nat.add_sub_cancel' hc]; exact Z.1)
    simp only [stp_add, Nat.add_sub_cancel' hc] at spec
    have pr : ∀ r, SetTable.probe.go t (fun i => (es[i]?.map (·.1)).getD 0) (kh P w k) (10 * SetTable.turns t.mask) (stp t.mask (kh P w k) c) = r → t.probe (fun i => (es[i]?.map (·.1)).getD 0) (kh P w k) (st.getD (t.probeStart (kh P w k))) = r := fun r e => by
      rw [hst]
      exact e
    rcases spec with ⟨q, i, hq, hi, hh, hno, hpr⟩ | ⟨hno, hpr⟩
    · rw [pr _ hpr]
      dsimp only
      have hil : i < L.length := by
        have e1 := (List.getElem?_eq_some_iff.mp hi).1
        rw [R.tab.len, List.length_map] at e1
        exact e1
      obtain ⟨p, hp⟩ : ∃ p, L[i]? = some p := ⟨_, List.getElem?_eq_getElem hil⟩
      have hpm := List.mem_of_getElem? hp
      have rest : wpAny (model P w) A (searchRest a (.ref x) (kh P w k) add f es t (stp t.mask (kh P w k) (c + q)).j i (stp t.mask (kh P w k) (c + (q + 1)))) Q E s := by
        unfold searchRest
        rw [R.at hp]
        dsimp only
        refine wpAny_bind (wpAny_holding (wpAny_eqBool_tuple hu (TU p hpm) hx ?_))
        refine wpAny_bind (wpAny_setState_of ho hd R.fits ?_)
        dsimp only
        have live : t.slot (stp t.mask (kh P w k) (c + q)).j = .live i := slot_live R.tab.up hi
        by_cases ek : p.2 = k
        · have mem : k ∈ ksOf L := List.mem_map.mpr ⟨p, hpm, ek⟩
          cases add with
          | true =>
            refine wp_if_pos (by simp [ek]) ?_
            exact wpAny_pure (yes none (fun e => nomatch e) mem)
          | false =>
            refine wp_if_neg (by simp) ?_
            try refine wpAny_bind (wpAny_pure ?_)
            rw [sameMem]
            dsimp only
            simp only [if_true, live, R.at hp]
            refine wpAny_bind (wpAny_isSame_ref_self (wpAny_bind (wpAny_pure ?_)))
            simp only [if_true]
            refine wp_if_pos (by simp [ek]) ?_
            exact wpAny_pure (yes (some i) (fun _ => rfl) mem)
        · refine wp_if_neg (by simp [ek]) ?_
          try refine wpAny_bind (wpAny_pure ?_)
          rw [sameMem]
          dsimp only
          simp only [if_true, live, R.at hp]
          refine wpAny_bind (wpAny_isSame_ref_self (wpAny_bind (wpAny_pure ?_)))
          simp only [if_true]
          refine wp_if_neg (by simp [ek]) ?_
          refine seek R TU hx hu add hz Z yes no f (c + (q + 1)) _ rfl (by omega) (by omega) fun i0 p0 h0 k0 => ?_
          obtain ⟨d, d1, d2, d3⟩ := lie i0 p0 h0 k0
          refine ⟨d, Classical.byContradiction fun far => ?_, d2, d3⟩
          rcases Nat.lt_or_eq_of_le (show d ≤ c + q by omega) with e | e
          · refine hno (d - c) i0 (by omega) (by rw [Nat.add_sub_cancel' d1]; exact d3) ?_
            rw [hAt i0 p0 h0, k0]
          · subst e
            have s0 := slot_live R.tab.up d3
            rw [live] at s0
            injection s0 with s0
            subst s0
            rw [hp] at h0
            cases h0
            exact ek k0
      by_cases hl : t.led = true
      · refine wp_if_neg (by simp [hl]) ?_
        try refine wpAny_bind (wpAny_pure ?_)
        exact rest
      · refine wp_if_pos (by simp [hl]) ?_
        refine wpAny_bind (seen_not hx (fun y hy => ?_) ?_)
        · obtain ⟨e, he, rfl⟩ := List.mem_map.mp hy
          have e1 : e ∈ es.toList := by
            have e0 : e ∈ es ∧ e.1 = kh P w k := by simpa using he
            simpa using e0.1
          rw [R.rows] at e1
          obtain ⟨p2, m2, rfl⟩ := List.mem_map.mp e1
          exact ⟨p2.2, p2.1, rfl, TU p2 m2⟩
        · refine wp_if_neg (by decide) ?_
          try refine wpAny_bind (wpAny_pure ?_)
          exact rest
    · rw [pr _ hpr]
      dsimp only
      refine wpAny_pure (no fun mem => ?_)
      obtain ⟨p0, m0, k0⟩ := List.mem_map.mp mem
      obtain ⟨i0, h0⟩ := List.mem_iff_getElem?.mp m0
      obtain ⟨d, d1, d2, d3⟩ := lie i0 p0 h0 k0
      refine hno (d - c) i0 (by omega) (by rw [Nat.add_sub_cancel' d1]; exact d3) ?_
      rw [hAt i0 p0 h0, k0]
/-- the whole search -/
theorem search (R : SetR P w s.heap a L es t) (TU : Tups P w s.heap L) {x : Addr} {k : Ky} (hx : Tp P w s.heap k x) (hu : A.units < cLine) (add : Bool) {Q : SetFound → Shared → Prop}
    (yes : ∀ i, (add = false → i.isSome = true) → k ∈ ksOf L → Q (.there i) s) (no : ∀ z, k ∉ ksOf L → Hole t (kh P w k) z → Q (.free (stp t.mask (kh P w k) z).j false) s) :
    wpAny (model P w) A (setSearch a (.ref x) (kh P w k) add) Q E s := by
  have room := R.room
  obtain ⟨z, hz, Z⟩ := R.tab.hole (by rw [List.length_map]; omega) (kh P w k)
  have big := R.tab.big
  unfold setSearch
  refine seek R TU hx hu add hz Z yes (fun n => no z n Z) 100000 0 none rfl (Nat.zero_le _) (by unfold SetTable.turns at hz; omega) fun i p hp hk => ?_
  have hil : i < t.place.toList.length := by
    rw [R.tab.len, List.length_map]
    exact (List.getElem?_eq_some_iff.mp hp).1
  obtain ⟨d, d1, d2⟩ := Z.ahead R.tab (i := i) (by rw [List.getElem?_map, hp, ← hk]; rfl) (List.getElem?_eq_getElem hil)
  exact ⟨d, Nat.zero_le _, d1, by rw [d2]; exact List.getElem?_eq_getElem hil⟩
/-- is it there -/
theorem contains_at (R : SetR P w s.heap a L es t) (TU : Tups P w s.heap L) {x : Addr} {k : Ky} (hx : Tp P w s.heap k x) (hu : A.units < cLine) {Q : Bool → Shared → Prop}
    (q : ∀ tk, Q (hasK L k) { s with toks := tk }) : wpAny (model P w) A (setContains a (.ref x)) Q E s := by
  obtain ⟨o, ep, ho, hex, hd⟩ := R.ob
  unfold setContains setFind
  refine wpAny_holding ?_
  refine wpAny_bind (wpAny_pyHash_tuple hu hx ?_)
  rw [show (100000 : Nat) = 99999 + 1 from rfl]
  unfold setFindIn
  refine wpAny_bind ?_
  refine wpAny_bind (wpAny_setState_of (s := { s with toks := s.toks + (k.length + 1) }) ho hd R.fits ?_)
  dsimp only
  refine wp_if_neg (by simp [byScan, Value.scannable]) ?_
  try refine wpAny_bind (wpAny_pure ?_)
  refine wpAny_bind (search (s := { s with toks := s.toks + (k.length + 1) }) R TU hx hu false (fun i hi m => ?_) fun z n _ => ?_)
  · dsimp only
    refine wpAny_pure (wpAny_pure ?_)
    rw [hi rfl]
    have e := q (s.toks + (k.length + 1))
    rw [hasK_iff.2 m] at e
    exact e
  · dsimp only
    refine wpAny_pure (wpAny_pure ?_)
    have e := q (s.toks + (k.length + 1))
    rw [hasK_no n] at e
    exact e

theorem rows_in (L : Mem) (p : Nat) (x : Addr × Ky) : (L.map (rowOf P w)).take p ++ rowOf P w x :: (L.map (rowOf P w)).drop p = (L.take p ++ x :: L.drop p).map (rowOf P w) := by
  simp
theorem ins_perm {α : Type} (L : List α) (p : Nat) (x : α) : (L.take p ++ x :: L.drop p).Perm (x :: L) := by
  have q : (L.take p ++ x :: L.drop p).Perm (x :: (L.take p ++ L.drop p)) := List.perm_middle
  rwa [List.take_append_drop] at q
theorem pick {α : Type} (L : List α) : (List.range L.length).filterMap (fun i => L[i]?) = L := by
  induction L with
  | nil => rfl
  | cons x L ih =>
    rw [List.length_cons, List.range_succ_eq_map, List.filterMap_cons_some (List.getElem?_cons_zero), List.filterMap_map]
    exact congrArg (x :: ·) ih
theorem ordered (L : Mem) (es : Array (Int × Value)) (od : Array Nat) (hr : es.toList = L.map (rowOf P w)) (hp : od.toList.Perm (List.range L.length)) :
    ∃ L2, (od.filterMap (es[·]?)).toList = L2.map (rowOf P w) ∧ L2.Perm L ∧ hsOf P w L2 = od.toList.map fun i => (es.map (·.1)).getD i 0 := by
  have key : ∀ l : List Nat, (∀ i ∈ l, i < L.length) → l.filterMap (fun i => es[i]?) = (l.filterMap fun i => L[i]?).map (rowOf P w) ∧ hsOf P w (l.filterMap fun i => L[i]?) = l.map fun i => (es.map (·.1)).getD i 0 := by
    intro l
    induction l with
    | nil => intro _; exact ⟨rfl, rfl⟩
    | cons i l ih =>
      intro hl
      obtain ⟨e1, e2⟩ := ih fun j hj => hl j (List.mem_cons_of_mem _ hj)
      obtain ⟨p, hp⟩ : ∃ p, L[i]? = some p := ⟨_, List.getElem?_eq_getElem (hl i List.mem_cons_self)⟩
      have he : es[i]? = some (rowOf P w p) := by rw [← Array.getElem?_toList, hr, List.getElem?_map, hp]; rfl
      refine ⟨?_, ?_⟩
      · rw [List.filterMap_cons_some he, List.filterMap_cons_some hp, e1]
        rfl
      · rw [List.filterMap_cons_some hp, List.map_cons, ← e2]
        refine congrArg (· :: _) ?_
        rw [Array.getD_eq_getD_getElem?, Array.getElem?_map, he]
        rfl
  obtain ⟨e1, e2⟩ := key od.toList fun i hi => List.mem_range.mp (hp.mem_iff.mp hi)
  refine ⟨od.toList.filterMap fun i => L[i]?, by first | (rw [Array.toList_filterMap]; exact e1) | simpa using e1, ?_, e2⟩
  have q := hp.filterMap fun i => L[i]?
  rwa [pick] at q
theorem tup_keep {h h' : Heap} {k : Ky} {b : Addr} {o : Obj} {ep : Nat} (x : Tp P w h k b) (ho : h.get? a = some o) (hd : o.data = .set es ep t) (sb : Heap.SameBut a h h') : Tp P w h' k b := by
  obtain ⟨o', its, n, e1, e2, e3, e4⟩ := x
  refine ⟨o', its, n, ?_, e2, e3, e4⟩
  rw [sb.2 b fun z => ?_]
  · exact e1
  · subst z
    rw [ho] at e1
    cases e1
    rw [hd] at e3
    exact nomatch e3
/-- laid anew, larger -/
theorem relay {o : Obj} {ep : Nat} (ho : s.heap.get? a = some o) (hex : o.ExactSet) (hd : o.data = .set es ep t) (rows : es.toList = L.map (rowOf P w)) (T : Tab t (hsOf P w L)) (hle : L.length ≤ t.mask) (nd : (ksOf L).Nodup) {n M : Nat}
    (hn : SetTable.sizeAbove (SetTable.grown n) - 1 = M) (hM : MaskX M) (hl : L.length * 5 < M * 3) {Q : Unit → Shared → Prop}
    (q : ∀ h' L' es' t', Heap.SameBut a s.heap h' → SetR P w h' a L' es' t' → L'.Perm L → Q () { s with heap := h' }) : wpAny (model P w) A (setRelay a (SetTable.grown n)) Q E s := by
  have sz : es.size = L.length := by rw [← Array.length_toList, rows, List.length_map]
  have e1 := T.len
  rw [List.length_map, Array.length_toList] at e1
  have fit : t.fits es.size = true := by
    unfold SetTable.fits SetTable.fill
    rw [T.noD, sz, e1, Bool.and_eq_true]
    exact ⟨beq_self_eq_true _, decide_eq_true (by show L.length + 0 ≤ t.mask; omega)⟩
  have big : M ≤ 511 := by rcases hM with (e | e | e) | e <;> omega
  obtain ⟨t', od, e, hp, T', em, _⟩ := relaidX t (hs := es.map (·.1)) hn hM (by rw [Array.size_map, sz]; omega)
  rw [Array.size_map, sz] at hp
  obtain ⟨L2, r1, r2, r3⟩ := ordered L es od rows hp
  have sz2 : (od.filterMap (es[·]?)).size = es.size := by
    rw [← Array.length_toList, r1, List.length_map, r2.length_eq, sz]
  rw [setRelay_eq]
  refine wpAny_bind (wpAny_setState_of ho hd fit ?_)
  dsimp only
  refine wp_if_neg (by rw [sizeLine_eq]; omega) ?_
  try refine wpAny_bind (wpAny_pure ?_)
  rw [e]
  dsimp only
  refine wpAny_bind ?_
  refine wp_if_neg (by rw [sz2]; simp) ?_
  try refine wpAny_bind (wpAny_pure ?_)
  refine wpAny_pure ?_
  dsimp only
  refine wpAny_storeSet_of ho hd (q _ L2 _ t' (Heap.SameBut.update ..) ⟨⟨_, _, store_at ho hd, ⟨hex.1, hex.2.1, hex.2.2⟩, rfl⟩, r1, by rw [r3]; exact T', (r2.map (·.2)).nodup_iff.mpr nd, by rw [r2.length_eq, em]; exact hl⟩ r2) ?_
  rw [sz2, sz, sizeLine_eq]
  omega
theorem full_cases {m n : Nat} (hm : MaskX m) (h1 : n * 5 < m * 3) (h2 : (n + 1) * 5 ≥ m * 3) (h3 : n + 1 ≤ 300) : ∃ M, SetTable.sizeAbove (SetTable.grown (n + 1)) - 1 = M ∧ MaskX M ∧ (n + 1) * 5 < M * 3 := by
  rcases hm with (e | e | e) | e
  · have en : n = 4 := by omega
    subst en
    exact ⟨31, by rw [size_20], .inl (.inr (.inl rfl)), by omega⟩
  · have en : n = 18 := by omega
    subst en
    exact ⟨127, by rw [size_76], .inl (.inr (.inr rfl)), by omega⟩
  · have en : n = 76 := by omega
    subst en
    exact ⟨511, by rw [size_308], .inr rfl, by omega⟩
  · omega
/-- one added -/
theorem add_hashed (R : SetR P w s.heap a L es t) (TU : Tups P w s.heap L) {x : Addr} {k : Ky} (hx : Tp P w s.heap k x) (hu : A.units < cLine) (hl : L.length + 1 ≤ 300) {Q : Bool → Shared → Prop}
    (q : ∀ b h' L' es' t', Heap.SameBut a s.heap h' → SetR P w h' a L' es' t' → (k ∈ ksOf L ∧ L' = L ∨ k ∉ ksOf L ∧ L'.Perm ((x, k) :: L)) → Q b { s with heap := h' }) :
    wpAny (model P w) A (setAddHashed a (.ref x) (kh P w k)) Q E s := by
  obtain ⟨o, ep, ho, hex, hd⟩ := R.ob
  have room := R.room
  unfold setAddHashed
  refine wpAny_holding ?_
  rw [show (100000 : Nat) = 99999 + 1 from rfl, setAddHashedIn_succ]
  refine wpAny_bind (wpAny_setState_of ho hd R.fits ?_)
  dsimp only
  refine wp_if_neg (by simp [byScan, Value.scannable]) ?_
  try refine wpAny_bind (wpAny_pure ?_)
  refine wpAny_bind (search R TU hx hu true (fun i _ m => ?_) fun z n Z => ?_)
  · dsimp only
    exact wpAny_pure (q false s.heap L es t (Heap.SameBut.refl a s.heap) R (.inl ⟨m, rfl⟩))
  · dsimp only
    refine wpAny_bind (wpAny_setState_of ho hd R.fits ?_)
    dsimp only
    have fil : (t.put (stp t.mask (kh P w k) z).j).1.mask = t.mask := rfl
    obtain ⟨le, T'⟩ := R.tab.put Z rfl
    have at2 : (t.put (stp t.mask (kh P w k) z).j).2 = SetTable.below t.place (stp t.mask (kh P w k) z).j := rfl
    generalize t.put (stp t.mask (kh P w k) z).j = pt at fil T' at2 ⊢
    obtain ⟨t1, p⟩ := pt
    dsimp only at fil T' at2 ⊢
    subst at2
    generalize SetTable.below t.place (stp t.mask (kh P w k) z).j = p at le T' ⊢
    have pm := ins_perm L p (x, k)
    have hsE : (hsOf P w L).take p ++ kh P w k :: (hsOf P w L).drop p = hsOf P w (L.take p ++ (x, k) :: L.drop p) := by
      simp
    rw [hsE] at T'
    have rows1 : (SetTable.insertAt es p (kh P w k, Value.ref x)).toList = (L.take p ++ (x, k) :: L.drop p).map (rowOf P w) := by
      rw [SetTable.toList_insertAt, R.rows, ← rows_in]
      rfl
    have nd1 : (ksOf (L.take p ++ (x, k) :: L.drop p)).Nodup := by
      have e1 := (pm.map fun p => p.2).nodup_iff.mpr (List.nodup_cons.mpr ⟨n, R.nd⟩)
      exact e1
    generalize L.take p ++ (x, k) :: L.drop p = L1 at pm T' rows1 nd1
    generalize SetTable.insertAt es p (kh P w k, Value.ref x) = es1 at rows1 ⊢
    have len1 : L1.length = L.length + 1 := pm.length_eq
    have sz1 : es1.size = L.length + 1 := by rw [← Array.length_toList, rows1, List.length_map, len1]
    have esz := R.size
    have tail : ∀ t2 : SetTable, t2.place = t1.place → t2.dummies = t1.dummies → t2.mask = t1.mask → wpAny (model P w) A (do
        storeSet a es1 t2
        if (!false && t2.tooFull) = true then do
            setRelay a (SetTable.grown (es.size + 1))
            pure true
          else pure true) Q E s := fun t2 g1 g2 g3 => by
      have T2 : Tab t2 (hsOf P w L1) := by
        obtain ⟨b1, b2, b3, b4, b5, b6⟩ := T'
        rw [← g1] at b1 b3 b5 b6
        rw [← g2] at b2
        rw [← g3] at b4 b5 b6
        exact ⟨b1, b2, b3, b4, b5, b6⟩
      refine wpAny_bind (wpAny_storeSet_of ho hd ?_ (by rw [sz1, sizeLine_eq]; omega))
      have sb : Heap.SameBut a s.heap (s.heap.update a (Obj.putSet es1 t2)) := Heap.SameBut.update ..
      have ho1 := store_at (es' := es1) (t' := t2) ho hd
      generalize s.heap.update a (Obj.putSet es1 t2) = h1 at sb ho1 ⊢
      have fill2 : t2.fill = L.length + 1 := by
        unfold SetTable.fill
        rw [T2.noD]
        have e1 := T2.len
        rw [List.length_map, Array.length_toList, len1] at e1
        exact e1
      by_cases hf : t2.tooFull = true
      · refine wp_if_pos (by simp [hf]) ?_
        have f2 : (L.length + 1) * 5 ≥ t2.mask * 3 := by
          unfold SetTable.tooFull at hf
          rw [decide_eq_true_eq, fill2] at hf
          exact hf
        rw [g3, fil] at f2
        rw [esz]
        obtain ⟨M, m1, m2, m3⟩ := full_cases R.tab.msk room f2 hl
        refine wpAny_bind (relay (s := { s with heap := h1 }) ho1 ⟨hex.1, hex.2.1, hex.2.2⟩ rfl rows1 T2 (by rw [len1, g3, fil]; omega) nd1 m1 m2 (by rw [len1]; exact m3) fun h2 L2 es2 t3 sb2 R2 pm2 => ?_)
        exact wpAny_pure (q true h2 L2 es2 t3 (sb.trans sb2) R2 (.inr ⟨n, pm2.trans pm⟩))
      · refine wp_if_neg (by simp [hf]) ?_
        refine wpAny_pure (q true h1 L1 es1 t2 sb ⟨⟨_, _, ho1, ⟨hex.1, hex.2.1, hex.2.2⟩, rfl⟩, rows1, T2, nd1, ?_⟩ (.inr ⟨n, pm⟩))
        unfold SetTable.tooFull at hf
        rw [decide_eq_true_eq, fill2] at hf
        rw [len1]
        omega
    by_cases hpl : t1.plain = true
    · refine wp_if_pos hpl (wpAny_bind (byv_tup hx fun c => ?_))
      cases c with
      | true => exact tail t1 rfl rfl rfl
      | false => exact tail { t1 with plain := false } rfl rfl rfl
    · refine wp_if_neg hpl (wpAny_bind (wpAny_pure ?_))
      exact tail t1 rfl rfl rfl
end
end Sx

/-! {t for .. in ..}, t a tuple of ints and texts; t in such a set -/
namespace Sx
open PySem PySem.Spec PyProof.Rows L2 Sm PpSet
/-- the set at a as a tracked thing: its members, each an address and the key that stands there -/
def SetO (P : Program) (w : World) (a : Addr) (L : Mem) : HO := .ext fun h => ∃ es t, SetR P w h a L es t
/-- the members stand -/
abbrev MemT (K : PySem.W.Frag) (H : Hp) (L : Mem) : Prop := ∀ p ∈ L, SqT K H p.1 (p.2.map kV)
/-- L with the key k at T put in -/
def Put (L : Mem) (T : Addr) (k : Ky) (L' : Mem) : Prop := k ∈ ksOf L ∧ L' = L ∨ k ∉ ksOf L ∧ L'.Perm ((T, k) :: L)
theorem setO_ok {P : Program} {w : World} {H : Hp} {h : Heap} {a : Addr} {L : Mem} {es : Array (Int × Value)} {t : SetTable} (R : SetR P w h a L es t) : ObjOk P w H h a (SetO P w a L) := by
  obtain ⟨o, ep, ho, r⟩ := R.ob
  refine ⟨⟨es, t, R⟩, ⟨o, ho⟩, fun h1 h2 ⟨es1, t1, R1⟩ k => ⟨es1, t1, ?_, R1.rows, R1.tab, R1.nd, R1.room⟩⟩
  obtain ⟨o1, ep1, ho1, r1⟩ := R1.ob
  exact ⟨o1, ep1, k _ ho1, r1⟩
theorem setR_new {P : Program} {w : World} {h : Heap} {a : Addr} (ho : h.get? a = some { cls := .type "set", dict := none, data := .set #[] 0 (.fresh 0 0 (!w.params.followText "set-order")) }) : SetR P w h a [] #[] (.fresh 0 0 (!w.params.followText "set-order")) :=
  ⟨⟨_, _, ho, ⟨rfl, rfl, rfl⟩, rfl⟩, rfl, Tab.fresh _ _ _, List.nodup_nil, by show 0 * 5 < 7 * 3; decide⟩
theorem typeS {P : Program} {w : World} {s : Shared} {a : Addr} {L : Mem} {es : Array (Int × Value)} {t : SetTable} (R : SetR P w s.heap a L es t) : s.TypeIs (.ref a) "set" := by
  obtain ⟨o, ep, ho, hex, _⟩ := R.ob
  exact ⟨o, ho, hex.1⟩
theorem items_mix {P : Program} {w : World} : ∀ {k : Ky} {us : List Value}, Vals (k.map kV) us → ItemsAre (mixKind P w) k us
  | [], _, .nil => .nil
  | .inl i :: k, _, .cons r t => by
    obtain ⟨tk, rfl⟩ := r
    exact .cons (mixKind_int P w i tk) (items_mix t)
  | .inr x :: k, _, .cons r t => by
    obtain ⟨tk, rfl⟩ := r
    exact .cons (mixKind_str P w x tk) (items_mix t)
section
variable {X : Cx} {pins : List (Addr × Obj)} {σ : L2.St} {H : Hp} {s : Shared} {D T : Addr} {k : Ky} {L : Mem} {E : Value → Shared → Prop}
theorem tp_of (I : Inv X pins σ H s) (h : SqT X.K H T (k.map kV)) : Tp X.prog X.w s.heap k T := by
  obtain ⟨its, r, ⟨o, ho, hc, n, hd⟩, _⟩ := I.tuple h
  exact ⟨o, its.toArray, n, ho, hc, hd, by simpa using items_mix r⟩
theorem setO_get (I : Inv X pins σ H s) (hD : H D = some (SetO X.prog X.w D L)) : ∃ es t, SetR X.prog X.w s.heap D L es t := (I.hok D _ hD).1
/-- found.add(t) -/
theorem addX {Q : Value → Shared → Prop} (hu : X.A.units + 64 < cLine) (I : Inv X pins σ H s) (hD : H D = some (SetO X.prog X.w D L)) (hT : SqT X.K H T (k.map kV)) (hL : MemT X.K H L) (few : L.length + 1 ≤ 300)
    (q : ∀ s' L', Put L T k L' → Inv X pins σ (upd H D (SetO X.prog X.w D L')) s' → Q .none s') : wpAny (model X.prog X.w) X.A (call (.builtin "set.add") [.ref D, .ref T]) Q E s := by
  obtain ⟨es, t, R⟩ := setO_get I hD
  have hx := tp_of I hT
  have TU : Tups X.prog X.w s.heap L := fun p hp => tp_of I (hL p hp)
  refine wpAny_call_entry F.slot_set_add (typeS R) F.entry_set_add ?_ (F.args_set_add_2 _ _)
  unfold Builtin.«set.add» Builtin.Frozenset.oneOther
  simp only [List.isEmpty_nil, bind_assoc]
  unfold Builtin.Frozenset.addrOf setAdd
  refine wpAny_bind (wpAny_pure ?_)
  try dsimp only
  refine wpAny_bind (wpAny_pure ?_)
  try dsimp only
  refine wpAny_bind (wpAny_holding (wpAny_bind (wpAny_pyHash_tuple (by show X.A.units + 1 < cLine; omega) hx ?_)))
  refine add_hashed (s := { s with toks := s.toks + (k.length + 1) }) R TU hx (by show X.A.units + 1 < cLine; omega) few fun b h' L' es' t' sb R' pu => ?_
  refine wpAny_pure ⟨_, rfl, q _ L' pu ?_⟩
  refine I.write (e := D) (t' := s.toks + (k.length + 1)) (by rw [hD]; trivial) (.inl rfl) (fun b u hb hu => (sb.2 b hb).trans hu) ?_ (setO_ok R')
  obtain ⟨o, ep, ho, _⟩ := R'.ob
  exact ⟨o, ho⟩
/-- t in found -/
def rInX (K : PySem.W.Frag) (P : Program) (w : World) : R2 := fun x y H Q => ∃ (T a : Addr) (k : Ky) (L : Mem), x = .ref T ∧ y = .ref a ∧ SqT K H T (k.map kV) ∧ H a = some (SetO P w a L) ∧ MemT K H L ∧ Q (.bl (hasK L k)) H
theorem op_inX (hu : X.A.units + 64 < cLine) : OpR X (compareOp .In) (rInX X.K X.prog X.w) := by
  intro pins s σ H x y v u Q I rx ry h
  obtain ⟨T, a, k, L, rfl, rfl, hT, ha, hL, q⟩ := h
  cases rx
  cases ry
  obtain ⟨es, t, R⟩ := setO_get I ha
  have hx := tp_of I hT
  have TU : Tups X.prog X.w s.heap L := fun p hp => tp_of I (hL p hp)
  show wpAny _ _ (contains (.ref a) (.ref T) >>= fun b => pure (Value.bool b)) _ _ s
  refine wpAny_bind ?_
  unfold contains
  try with_reducible refine wpAny_holding ?_
  refine wpAny_bind (wpAny_specialOf (typeS R) F.slot_set_contains.lookup ?_)
  show wpAny _ _ (if (some (Value.builtin "set.__contains__") == some Value.none) = true then _ else _) _ _ s
  rw [if_neg (by rw [beq_builtin_none]; exact Bool.false_ne_true)]
  refine wpAny_bind (wpAny_callSpecialUnlessNone?_slot (name := Str.ofString "__contains__") (typeS R) F.slot_set_contains (wpAny_call_entry F.slot_set_contains (typeS R) entry_set_contains ?_ (F.args_set_contains_2 _ _)))
  unfold Builtin.«frozenset.__contains__» Builtin.Frozenset.oneOther
  simp only [List.isEmpty_nil, bind_assoc]
  unfold Builtin.Frozenset.addrOf Builtin.Frozenset.withSetAsKey
  refine wpAny_bind (wpAny_pure ?_)
  try dsimp only
  refine wpAny_bind (wpAny_pure ?_)
  try dsimp only
  refine wpAny_bind (wpAny_tryCatch ?_)
  refine contains_at R TU hx (by show X.A.units + 1 < cLine; omega) fun tk => ?_
  show wpAny _ _ (ret (Value.bool (hasK L k))) _ _ _
  exact wpAny_pure ⟨_, rfl, wpAny_truthy_bool (wpAny_pure ⟨.bl _, H, I.tok tk, rfl, q⟩)⟩
end
section
variable {X : Cx}
/-- a set comprehension: D the new set -/
def tSx (P : Program) (w : World) (K : PySem.W.Frag) (wi : TI) (g : TG) (tt : TT) (te : TE) (vs : List Nat) : TE := fun σ H Q => wi σ H fun J H1 => ∀ D, H1 D = none → ∃ W : Nat → Nat → Hp → Prop, (∃ m, W 0 m (upd H1 D (SetO P w D []))) ∧ ∀ i m H, W i m H →
  (J.stop i H ∧ Q (.ref D) H) ∨ (J.go i H ∧ ∃ N : Hp → Prop, (∀ H', N H' → ∃ m', m' < m ∧ W (i + 1) m' H') ∧ ∀ x H', J.yld i H x H' → g x (wipe σ vs) H' fun σ2 H2 => wipe σ2 vs = wipe σ vs ∧ tt σ2 H2 fun b H3 =>
    if b = true then te σ2 H3 fun y H4 => ∃ (T : Addr) (k : Ky) (L : Mem), y = .ref T ∧ SqT K H4 T (k.map kV) ∧ H4 D = some (SetO P w D L) ∧ MemT K H4 L ∧ L.length + 1 ≤ 300 ∧ ∀ L', Put L T k L' → N (upd H4 D (SetO P w D L')) else N H3)
theorem setX_core {pins : List (Addr × Obj)} {s : Shared} {σ : L2.St} {H : Hp} {Q : VK} {elt tg iter : Expr} {ifs : List Expr} {scope : Scope} {own : List (PySem.Str × Nat)} {pos pos' : Pos} {wi : TI} {g : TG} {tt : TT} {te : TE} {use : Option (Value → Sem Unit)} {Qf : Value → Shared → Prop}
    (hu : X.A.units + 64 < cLine) (hc : X.calm = true) (hN : X.N.Nodup) (I : Inv X pins σ H s) (hi : PI X tg iter wi) (ok : BlkOk X.N X.env.scope scope own)
    (hg : ∀ (z : Shared) (Z : Hp) (C : Addr) (cl : List (PySem.Str × Addr)) (fp : List Addr), PG (X.blk z Z scope (compEnvC scope cl C X.env) fp) tg g)
    (ht : ∀ (z : Shared) (Z : Hp) (C : Addr) (cl : List (PySem.Str × Addr)) (fp : List Addr), PTs (X.blk z Z scope (compEnvC scope cl C X.env) fp) ifs tt)
    (he : ∀ (z : Shared) (Z : Hp) (C : Addr) (cl : List (PySem.Str × Addr)) (fp : List Addr), PE (X.blk z Z scope (compEnvC scope cl C X.env) fp) elt te) (hs : ∀ x, foldedSetIterable iter X.env x = pure x)
    (h : tSx X.prog X.w X.K wi g tt te (own.map (·.2)) σ H Q)
    (fin : ∀ D C z m Z, Inv X pins σ Z z → Q (.ref D) Z → z.heap.Ns C m → FpOk X pins Z C → compPost (model X.prog X.w) X.A X.xe use Qf (.ref D) C (.ok .next) z) :
    wpAny (model X.prog X.w) X.A (comprehension (.SetComp elt [⟨tg, iter, ifs, 0⟩] scope pos) scope X.env pos' (newSet (.type "set")) false (eval iter X.env) use) Qf X.xe s := by
  have cells : ∀ y ∈ scope.names, y.2 = .free → ∃ c, X.env.cells.lookup y.1 = some c := fun y hy e => by
    rcases ok.free y hy e with k | k
    · exact I.ok.has _ (.inl k)
    · exact I.ok.has _ (.inr k)
  refine wpAny_comprehension_free (use := use) rfl hs (closure_ok cells) ok.kind (fun y hy e => by rw [ok.uniq y hy, e]) (thn (hi.run pins s σ H _ I h) fun _ _ hx => thn hx fun _ s2 h2 => ?_)
  obtain ⟨it, fp, tn, J, H2, rfl, I2, T, st2, f2, q⟩ := h2
  refine newSet_ok (newEnv_comp ?_)
  -- the new set at D
  generalize hD : s2.heap.objs.size = D
  obtain ⟨W, ⟨m0, w0⟩, turn⟩ := q D (I2.hok.fresh (Nat.le_of_eq hD))
  generalize hob : ({ cls := .type "set", dict := none, data := .set #[] 0 (.fresh 0 0 (!X.w.params.followText "set-order")) } : Obj) = ob
  generalize hs3 : ({ s2 with heap := s2.heap.push ob } : Shared) = s3
  have heap3 : s3.heap = s2.heap.push ob := by rw [← hs3]
  generalize hH3 : upd H2 D (SetO X.prog X.w D []) = H3 at w0
  have I3 : Inv X pins σ H3 s3 := by
    rw [← hs3, ← hH3]
    refine I2.laid (t' := s2.toks) (fun b o e => Heap.get?_push_of_some _ e) (Nat.le_of_eq hD) (setO_ok (es := #[]) (setR_new ?_))
    rw [← hD, ← hob]
    exact Heap.get?_push_size _ rfl
  have old : ∀ b ∈ fp, b < s2.heap.objs.size := fun b hb => by
    obtain ⟨o, e, _⟩ := T.obj _ _ st2 b hb
    exact Heap.lt_size e
  have f3 : ∀ b ∈ fp, FpOk X pins H3 b ∧ b < s3.heap.objs.size := fun b hb => by
    have lt := old b hb
    obtain ⟨n1, n2⟩ := f2 b hb
    refine ⟨⟨?_, n2⟩, by rw [heap3, Heap.size_push]; exact Nat.lt_succ_of_lt lt⟩
    rw [← hH3, upd_ne (by rw [← hD]; exact Nat.ne_of_lt lt)]
    exact n1
  have st3 : tn 0 s3.heap := T.keep _ _ _ st2 fun b _ o e => by rw [heap3]; exact Heap.get?_push_of_some _ e
  -- the block
  have I4 := block_start I3 ok hN f3
  have G := hg s3 H3 s3.heap.objs.size (cellsFrom (s3.heap.objs.size + 1) scope.names (cloFrom X.env.cells scope.names [])) fp
  have C := ht s3 H3 s3.heap.objs.size (cellsFrom (s3.heap.objs.size + 1) scope.names (cloFrom X.env.cells scope.names [])) fp
  have L := he s3 H3 s3.heap.objs.size (cellsFrom (s3.heap.objs.size + 1) scope.names (cloFrom X.env.cells scope.names [])) fp
  show codeAny _ _ (.compStart (.SetComp elt [⟨tg, iter, ifs, 0⟩] scope pos) 0 (.ref it) (.ref D) (compEnvC scope (cellsFrom (s3.heap.objs.size + 1) scope.names (cloFrom X.env.cells scope.names [])) s3.heap.objs.size X.env)) (compPost (model X.prog X.w) X.A X.xe use Qf (.ref D) s3.heap.objs.size) { s3 with heap := pushCells (s3.heap.push { cls := .type "dict", data := .dict #[] }) scope.names }
  generalize hV : compEnvC scope (cellsFrom (s3.heap.objs.size + 1) scope.names (cloFrom X.env.cells scope.names [])) s3.heap.objs.size X.env = V at I4 G C L ⊢
  have locV : V.locals = s3.heap.objs.size := by subst hV; rfl
  generalize hs4 : ({ s3 with heap := pushCells (s3.heap.push { cls := .type "dict", data := .dict #[] }) scope.names } : Shared) = s4 at I4 ⊢
  have st4 : tn 0 s4.heap := T.keep _ _ _ st3 fun b _ o e => by
    rw [← hs4]
    exact pushCells_keeps _ _ _ _ (Heap.get?_push_of_some _ e)
  have free : ∀ {σ' : L2.St} {H' : Hp} {z : Shared}, Inv (X.blk s3 H3 scope V fp) [] σ' H' z → (∀ b ∈ fp, H' b = none) → ∀ b ∈ fp, FpOk (X.blk s3 H3 scope V fp) [] H' b := fun {σ' H' z} I' n b hb =>
    ⟨n b hb, (I'.ok.exf b hb).1, I'.ok.exfs b hb, .inl hb, fun x c e => (I'.ok.exf b hb).2 x c e, fun p hp => by cases hp⟩
  refine codeAny_compStart_set ?loop (T.self X.A 0 _ _ _ st4 ?loop)
  refine compLoopS_any (fun n z => ∃ i Z, Inv (X.blk s3 H3 scope V fp) [] (wipe σ (own.map (·.2))) Z z ∧ tn i z.heap ∧ (∀ b ∈ fp, Z b = none) ∧ W i n Z) (fun n s5 h5 => ?_) m0 ⟨0, H3, I4, st4, fun b hb => (f3 b hb).1.1, w0⟩
  obtain ⟨i, H5, I5, st5, n5, w5⟩ := h5
  rcases turn i n H5 w5 with ⟨stop, qq⟩ | ⟨go, N, hNx, step⟩
  · refine thnF (T.done (X.blk s3 H3 scope V fp) rfl rfl rfl hc i [] s5 _ H5 (fun _ _ => False) I5 (free I5 n5) st5 stop) fun r s6 ⟨hr, I6⟩ => ?_
    subst hr
    have I7 : Inv X pins σ H5 s6 := I3.call' (ch := fp) I6.os I6.base I6.hok I6.bare fun b hb => by
      obtain ⟨⟨_, g1, g2, g3, g4, g5⟩, _⟩ := f3 b hb
      exact ⟨g3, g1, g4, g5⟩
    have nC : H5 s3.heap.objs.size = none := locV ▸ I6.free
    obtain ⟨m, hn, _⟩ := I6.loc
    have hn : s6.heap.Ns s3.heap.objs.size m := locV ▸ hn
    exact fin D s3.heap.objs.size s6 m H5 I7 qq hn (I3.fpOk (Nat.le_refl _) nC)
  · refine thnF (T.item (X.blk s3 H3 scope V fp) rfl rfl rfl hc i [] s5 _ H5 (fun _ _ => False) I5 (free I5 n5) st5 go) fun r s6 ⟨u, hr, h6⟩ => ?_
    subst hr
    refine thnF h6 fun _ s7 ⟨x, H7, I7, r7, y7, st7, n7⟩ => ?_
    have I7p := I7.pinned (free I7 n7) (T.obj _ _ st7)
    refine thnF (G.run _ s7 _ H7 x u _ I7p r7 (step x H7 y7)) fun _ s8 ⟨σ8, H8, I8, w8, q8⟩ => ?_
    refine thnF (C.run _ s8 σ8 H8 _ I8 q8) fun b s9 ⟨H9, I9, q9⟩ => ?_
    have back : ∀ {z : Shared} {Z : Hp}, Inv (X.blk s3 H3 scope V fp) ([] ++ pinsAt fp s7.heap) σ8 Z z → N Z → ∃ m, m < n ∧ ∃ i Z, Inv (X.blk s3 H3 scope V fp) [] (wipe σ (own.map (·.2))) Z z ∧ tn i z.heap ∧ (∀ b ∈ fp, Z b = none) ∧ W i m Z := fun {z Z} J nx => by
      obtain ⟨m, lt, w'⟩ := hNx Z nx
      have pin : ∀ b ∈ fp, ∀ o, s7.heap.get? b = some o → z.heap.get? b = some o ∧ Z b = none := fun b hb o e => by
        have p := J.pin (b, o) (List.mem_append_right _ (List.mem_append_right _ (mem_pinsAt hb e)))
        exact ⟨p.1, p.2.1⟩
      refine ⟨m, lt, i + 1, Z, (J.unpinned (pins := [])).weak (by rw [← w8, wipe_length]) (fun j v e => by rw [← w8] at e; exact (wipe_some e).1), T.keep _ _ _ st7 fun b hb o e => (pin b hb o e).1, fun b hb => ?_, w'⟩
      obtain ⟨o, e, _⟩ := T.obj _ _ st7 b hb
      exact (pin b hb o e).2
    cases b with
    | false =>
      simp only [Bool.false_eq_true, if_false] at q9 ⊢
      exact back I9 q9
    | true =>
      simp only [if_true] at q9 ⊢
      refine thnF (L.run _ s9 σ8 H9 _ I9 q9) fun v s10 ⟨yv, H10, I10, r10, T2, k2, L2', ey, hT, hD2, hM, few, nx⟩ => ?_
      subst ey
      cases (show v = Value.ref T2 from r10)
      exact addX (X := X.blk s3 H3 scope V fp) hu I10 hD2 hT hM few fun z L3 pu J => back J (nx L3 pu)
/-- as a value -/
theorem pe_setX {elt tg iter : Expr} {ifs : List Expr} {scope : Scope} {own : List (PySem.Str × Nat)} {pos : Pos} {wi : TI} {g : TG} {tt : TT} {te : TE} (hu : X.A.units + 64 < cLine) (hc : X.calm = true) (hN : X.N.Nodup) (hi : PI X tg iter wi) (ok : BlkOk X.N X.env.scope scope own)
    (hg : ∀ (z : Shared) (Z : Hp) (C : Addr) (cl : List (PySem.Str × Addr)) (fp : List Addr), PG (X.blk z Z scope (compEnvC scope cl C X.env) fp) tg g)
    (ht : ∀ (z : Shared) (Z : Hp) (C : Addr) (cl : List (PySem.Str × Addr)) (fp : List Addr), PTs (X.blk z Z scope (compEnvC scope cl C X.env) fp) ifs tt)
    (he : ∀ (z : Shared) (Z : Hp) (C : Addr) (cl : List (PySem.Str × Addr)) (fp : List Addr), PE (X.blk z Z scope (compEnvC scope cl C X.env) fp) elt te) (hs : ∀ x, foldedSetIterable iter X.env x = pure x := by intro _; rfl) :
    PE X (.SetComp elt [⟨tg, iter, ifs, 0⟩] scope pos) (tSx X.prog X.w X.K wi g tt te (own.map (·.2))) := by
  refine ⟨fun pins s σ H Q I h => ?_⟩
  rw [eval_SetComp]
  refine setX_core (use := none) hu hc hN I hi ok hg ht he hs h fun D C z m Z J q hn f => ⟨m, hn, fun y sb => ?_⟩
  obtain ⟨a0, a1, _, a3, a4, a5⟩ := f
  exact ⟨.ref D, Z, J.turned (t' := z.toks) (fun b o hb e => (sb.2 b hb).trans e) a0 a1 a3 a4 a5, rfl, q⟩
/-- y = {..} on one line, y a local -/
theorem ps_setX {i : Nat} {y : Str} {py : Pos} {elt tg iter : Expr} {ifs : List Expr} {scope : Scope} {own : List (PySem.Str × Nat)} {pos spos : Pos} {wi : TI} {g : TG} {tt : TT} {te : TE} (hu : X.A.units + 64 < cLine) (hc : X.calm = true) (hN : X.N.Nodup) (hy : X.N[i]? = some y) (hyl : X.env.scope.names.lookup y = some .local)
    (hsw : swapsWith (.SetComp elt [⟨tg, iter, ifs, 0⟩] scope pos) (some (.Name y py)) spos.line X.env = pure true) (hi : PI X tg iter wi) (ok : BlkOk X.N X.env.scope scope own)
    (hg : ∀ (z : Shared) (Z : Hp) (C : Addr) (cl : List (PySem.Str × Addr)) (fp : List Addr), PG (X.blk z Z scope (compEnvC scope cl C X.env) fp) tg g)
    (ht : ∀ (z : Shared) (Z : Hp) (C : Addr) (cl : List (PySem.Str × Addr)) (fp : List Addr), PTs (X.blk z Z scope (compEnvC scope cl C X.env) fp) ifs tt)
    (he : ∀ (z : Shared) (Z : Hp) (C : Addr) (cl : List (PySem.Str × Addr)) (fp : List Addr), PE (X.blk z Z scope (compEnvC scope cl C X.env) fp) elt te) (hs : ∀ x, foldedSetIterable iter X.env x = pure x := by intro _; rfl) :
    PS X (.Assign [.Name y py] (.SetComp elt [⟨tg, iter, ifs, 0⟩] scope pos) spos) (tAsg (tSx X.prog X.w X.K wi g tt te (own.map (·.2))) (gName i)) := by
  refine ⟨fun pins s σ H D I h => ?_⟩
  rw [exec_Assign_Name_used _ _ _ _ hsw]
  refine wpAny_bind (wpAny_standAt (wpAny_bind ?_))
  show wpAny _ X.A (comprehension (.SetComp elt [⟨tg, iter, ifs, 0⟩] scope pos) scope X.env (firstIterPos [⟨tg, iter, ifs, 0⟩] pos) (newSet (.type "set")) false (eval iter X.env) (some (assign (.Name y py) X.env)) >>= fun _ => pure _) _ _ s
  have h : tSx X.prog X.w X.K wi g tt te (own.map (·.2)) σ H (fun x H1 => gName i x σ H1 D.nx) := h
  refine wpAny_bind (thn (setX_core (Qf := fun _ s' => SP X pins D .next s') hu hc hN I hi ok hg ht he hs h fun L C z m Z J q hn f => ?_) fun _ s' hq => wpAny_pure (wpAny_pure hq))
  show wpAny _ _ (assign (.Name y py) X.env (.ref L)) _ _ _
  refine wpAny_assign_Name (store_ok2 (v := V.ref L) J hN hy (.inl hyl) rfl (fun s2 I2 ⟨a, sb, ha⟩ => ?_) (.inr hyl))
  obtain ⟨a0, a1, _, a3, a4, a5⟩ := f
  have far : C ≠ a := by
    rcases ha with rfl | z
    · exact a1
    · exact fun e => a4 y a z e.symm
  exact ⟨m, hn.sameBut sb far, fun _ sb3 => ⟨_, Z, I2.turned (t' := s2.toks) (fun b o hb e => (sb3.2 b hb).trans e) a0 a1 a3 a4 a5, q⟩⟩
theorem sw_set {elt : Expr} {gs : List Comprehension} {scope : Scope} {pos py : Pos} {y : Str} {l : Nat} {env : Env} (hk : env.scope.kind = .function) (hy : env.scope.names.lookup y = some .local) (hl : (py.line == pos.line) = true)
    (ha : (scope.names.any fun (n, k) => n == y && (k == .local || k == .cell)) = false) : swapsWith (.SetComp elt gs scope pos) (some (.Name y py)) l env = pure true := by
  have e1 : env.kindOf y = some .local := hy
  have e2 : env.blockKind = .function := by
    unfold Env.blockKind
    rw [hk]
    rfl
  unfold swapsWith
  simp only [e2, e1, ha, Expr.pos, hl]
  rfl
/-- over a list -/
theorem sx_lst {P : Program} {w : World} {K : PySem.W.Frag} {a : Addr} {xs : List V} {g : TG} {tt : TT} {te : TE} {vs : List Nat} {σ : L2.St} {H1 : Hp} {D : Addr} {Qd : Hp → Prop} (Pv : Nat → Hp → Prop) (h0 : Pv 0 (upd H1 D (SetO P w D []))) (hl : ∀ i H, i ≤ xs.length → Pv i H → SqL K H a xs)
    (hs : ∀ i x H, xs[i]? = some x → Pv i H → g x (wipe σ vs) H fun σ2 H2 => wipe σ2 vs = wipe σ vs ∧ tt σ2 H2 fun b H3 =>
      if b = true then te σ2 H3 fun y H4 => ∃ (T : Addr) (k : Ky) (L : Mem), y = .ref T ∧ SqT K H4 T (k.map kV) ∧ H4 D = some (SetO P w D L) ∧ MemT K H4 L ∧ L.length + 1 ≤ 300 ∧ ∀ L', Put L T k L' → Pv (i + 1) (upd H4 D (SetO P w D L')) else Pv (i + 1) H3) (hd : ∀ H, Pv xs.length H → Qd H) :
    ∃ W : Nat → Nat → Hp → Prop, (∃ m, W 0 m (upd H1 D (SetO P w D []))) ∧ ∀ i m H, W i m H →
      ((Itl K a).stop i H ∧ Qd H) ∨ ((Itl K a).go i H ∧ ∃ N : Hp → Prop, (∀ H', N H' → ∃ m', m' < m ∧ W (i + 1) m' H') ∧ ∀ x H', (Itl K a).yld i H x H' → g x (wipe σ vs) H' fun σ2 H2 => wipe σ2 vs = wipe σ vs ∧ tt σ2 H2 fun b H3 =>
        if b = true then te σ2 H3 fun y H4 => ∃ (T : Addr) (k : Ky) (L : Mem), y = .ref T ∧ SqT K H4 T (k.map kV) ∧ H4 D = some (SetO P w D L) ∧ MemT K H4 L ∧ L.length + 1 ≤ 300 ∧ ∀ L', Put L T k L' → N (upd H4 D (SetO P w D L')) else N H3) := by
  refine ⟨fun i m H => m = xs.length - i ∧ i ≤ xs.length ∧ Pv i H, ⟨_, rfl, Nat.zero_le _, h0⟩, fun i m H hW => ?_⟩
  obtain ⟨rfl, le, p⟩ := hW
  have q := hl i H le p
  rcases Nat.lt_or_eq_of_le le with lt | e
  · refine .inr ⟨⟨xs, xs[i], q, by simp [lt]⟩, Pv (i + 1), fun H' p' => ⟨xs.length - (i + 1), by omega, rfl, lt, p'⟩, fun x H' y => ?_⟩
    obtain ⟨rfl, y⟩ := y
    exact hs i x _ (y xs q) p
  · subst e
    exact .inl ⟨⟨xs, q, Nat.le_refl _⟩, hd H p⟩
end
end Sx

/-! a text times a number -/
namespace Rs2
open PySem PySem.Spec PyProof.Rows L2
def repS (a : Str) (n : Nat) : Str := ⟨(List.replicate n a.cps).foldl (· ++ ·) #[]⟩
section
variable {X : Cx}
theorem op_repS : OpR X (binaryOp .Mult) (fun x y H Q => ∃ (a : Str) (n : Nat), x = .str a ∧ y = .int (n : Int) ∧ 2 ≤ n ∧ n ≤ 1000 ∧ 1 ≤ a.length ∧ a.length ≤ 1000 ∧ (repS a n).length ≤ 1000000 ∧ Q (.str (repS a n)) H) := by
  intro pins s σ H x y v u Q I rx ry h
  obtain ⟨a, n, rfl, rfl, h2, h3, h4, h5, h6, q⟩ := h
  obtain ⟨t, rfl⟩ := rx
  obtain ⟨t', rfl⟩ := ry
  have n1 : ¬ ((n : Int) < 1) := by omega
  have n2 : (((n : Int) == 1) || (a.length == 0)) = false := by
    rw [Bool.or_eq_false_iff]
    exact ⟨by simp; omega, by simp; omega⟩
  have e : ((n : Int)).toNat = n := by omega
  refine PySem.P.mul_str ?_ (fun _ _ => ?_) (fun _ _ => ?_) ?_
  · rw [decide_eq_false (by omega), decide_eq_false (by omega)]
    rfl
  · have h7 : a.length * n ≤ 1000 * 1000 := Nat.mul_le_mul h5 h3
    have h8 : (a.length : Int) ≤ (2 ^ 63 - 1) / (n : Int) := Int.le_ediv_of_mul_le (by omega) (by
      have : ((a.length * n : Nat) : Int) ≤ 1000000 := by omega
      rw [Int.natCast_mul] at this
      omega)
    omega
  · rw [e]
    have h7 : a.length * n ≤ 1000 * 1000 := Nat.mul_le_mul h5 h3
    have h8 : 1000000 ≤ sizeLine := by decide
    exact decide_eq_false (by omega)
  · rw [if_neg n1, if_neg (by rw [n2]; exact Bool.false_ne_true), e]
    exact ⟨Nat.le_trans h6 (by decide), ⟨.str _, H, I.tok _, ⟨_, rfl⟩, q⟩⟩
end
end Rs2

namespace Rd
open PySem PySem.Spec PyProof.Rows L2 GxR
open C8 (pss_cut tCut)
/-! ### words, plainly -/
theorem one_lt (a b : Nat) : decide (([a] : List Nat) < [b]) = decide (a < b) := by
  by_cases h : a < b
  · rw [decide_eq_true h]
    exact decide_eq_true (List.cons_lt_cons_iff.mpr (.inl h))
  · rw [decide_eq_false h]
    refine decide_eq_false fun z => ?_
    rcases List.cons_lt_cons_iff.mp z with z | ⟨_, z⟩
    · exact h z
    · exact List.not_lt_nil _ z
def signB (c : Nat) : Bool := (!decide (c < 33) && !decide (36 < c)) || (!decide (c < 38) && !decide (126 < c))
def wordB (a : Str) : Bool := decide ((1 : Int) ≤ (a.length : Int)) && (decide ((a.length : Int) ≤ 40) && a.cps.toList.all signB)
theorem wordB_len {a : Str} (h : wordB a = true) : 1 ≤ a.length ∧ a.length ≤ 40 := by
  unfold wordB at h
  rw [Bool.and_eq_true, Bool.and_eq_true] at h
  obtain ⟨h1, h2, _⟩ := h
  have h1 := of_decide_eq_true h1
  have h2 := of_decide_eq_true h2
  omega
theorem wordB_signs {a : Str} (h : wordB a = true) : ∀ c ∈ a.cps.toList, signB c = true := by
  unfold wordB at h
  rw [Bool.and_eq_true, Bool.and_eq_true] at h
  exact List.all_eq_true.mp h.2.2
theorem small_line {n : Nat} (h : n ≤ 1000000) : n ≤ sizeLine := Nat.le_trans h (by decide)
theorem tyL {K : PySem.W.Frag} {H : Hp} {a : Addr} {xs : List V} (h : SqL K H a xs) : TyX K H (.ref a) (.type "list") := by
  rcases h with (h | ⟨o, h⟩) | ⟨o, its, n, e, c, _⟩
  · exact .base (.lst h)
  · exact .base (.frz h)
  · exact .kList e c
theorem tyT {K : PySem.W.Frag} {H : Hp} {a : Addr} {xs : List V} (h : SqT K H a xs) : TyX K H (.ref a) (.type "tuple") := by
  rcases h with (h | ⟨o, h⟩) | ⟨o, its, n, e, c, _⟩
  · exact .base (.tup h)
  · exact .fTuple h
  · exact .kTuple e c
theorem for_enum {K : PySem.W.Frag} {a : Addr} {xs : List V} {g : TG} {tb : TS} {D : Ends} {σ : L2.St} {H : Hp} (Pv : Nat → L2.St → Hp → Prop) (h0 : Pv 0 σ H) (hl : ∀ i σ H, i ≤ xs.length → Pv i σ H → SqL K H a xs)
    (hs : ∀ (i : Nat) (x : V) (T : Addr) (σ : L2.St) (H : Hp), xs[i]? = some x → H T = none → Pv i σ H → g (.ref T) σ (upd H T (.tup [.int (i : Nat), x])) fun σ2 H2 => tb { D with nx := Pv (i + 1), ct := Pv (i + 1), bk := D.nx } σ2 H2) (hd : ∀ σ H, Pv xs.length σ H → D.nx σ H) :
    ∃ W : Nat → Nat → L2.St → Hp → Prop, (∃ m, W 0 m σ H) ∧ ∀ i m σ H, W i m σ H →
      ((Ite K a).stop i H ∧ D.nx σ H) ∨ ((Ite K a).go i H ∧ ∃ N : L2.St → Hp → Prop, (∀ σ' H', N σ' H' → ∃ m', m' < m ∧ W (i + 1) m' σ' H') ∧ ∀ x H', (Ite K a).yld i H x H' → g x σ H' fun σ2 H2 => tb { D with nx := N, ct := N, bk := D.nx } σ2 H2) := by
  refine ⟨fun i m σ H => m = xs.length - i ∧ i ≤ xs.length ∧ Pv i σ H, ⟨xs.length, by simp, Nat.zero_le _, h0⟩, ?_⟩
  rintro i m σ H ⟨rfl, hi, p⟩
  have q := hl i σ H hi p
  by_cases hlt : i < xs.length
  · refine .inr ⟨⟨xs, xs[i], q, by simp [hlt]⟩, Pv (i + 1), fun σ' H' p' => ⟨xs.length - (i + 1), by omega, rfl, hlt, p'⟩, fun x H' y => ?_⟩
    obtain ⟨T, z, rfl, nT, rfl, hz⟩ := y
    exact hs i z T σ H (hz xs q) nT p
  · have e : i = xs.length := by omega
    subst e
    exact .inl ⟨⟨xs, q, Nat.le_refl _⟩, hd σ H p⟩
theorem yesT {σ : L2.St} {H : Hp} {f g : Hp → Prop} (h : f H) : tYes σ H fun b H3 => if b = true then f H3 else g H3 := by
  show if true = true then f H else g H
  exact iteT h
theorem Kp.set {Ps : List Addr} {H H' : Hp} (t : Tb Ps H) (k : Kp Ps H H') {D : Addr} {o : HO} (h : H D = Option.none) : Kp Ps H (upd H' D o) := by
  have hD := t.none h
  refine ⟨fun P hP => ?_, fun b u hb e => ?_⟩
  · obtain ⟨ps, h1, h2⟩ := k.1 P hP
    exact ⟨ps, by rw [upd_ne (fun z => hD (by rw [← z]; exact hP))]; exact h1, h2⟩
  · rw [upd_ne (ne_of_none e h)]
    exact k.2 b u hb e
theorem take_snoc {α : Type} {l : List α} {i : Nat} {x : α} (h : l[i]? = some x) : l.take (i + 1) = l.take i ++ [x] := by
  rw [List.take_add_one, h]
  rfl
def top (i : Nat) : Stmt := PySem.Challenge.pw_redraft_k02_words_refused.main.body.getD i (.Pass ⟨0, 0, 0, 0⟩)
abbrev sIsSign : Stmt := top 8
abbrev sIsWord : Stmt := top 9
abbrev sCheckWords : Stmt := top 10
abbrev sCheckLength : Stmt := top 11
abbrev sCheckText : Stmt := top 12
abbrev sParted : Stmt := top 13
abbrev sJoined : Stmt := top 14
abbrev sIsNumber : Stmt := top 21
abbrev sRowWords : Stmt := top 22
abbrev sIsRow : Stmt := top 23
abbrev sCheckRows : Stmt := top 24
abbrev sTable : Stmt := top 26
abbrev sLeastCost : Stmt := top 27
abbrev sApart : Stmt := top 28
abbrev sNextKind : Stmt := top 29
abbrev sStepsBetween : Stmt := top 30
abbrev sStretchesOf : Stmt := top 31
abbrev sTold : Stmt := top 32
abbrev sCheckNoBlocks : Stmt := top 34
abbrev sPlacesIn : Stmt := top 35
abbrev sRunAt : Stmt := top 36
abbrev sHasRun : Stmt := top 37
abbrev sLongestRun : Stmt := top 38
abbrev sIsFree : Stmt := top 39
abbrev sUse : Stmt := top 40
abbrev sNextFree : Stmt := top 41
abbrev sPutPlacesOf : Stmt := top 42
abbrev sPairsOf : Stmt := top 43
abbrev sRowParted : Stmt := top 44
abbrev sWithPairs : Stmt := top 45
abbrev sWithBlocks : Stmt := top 46
abbrev sChanged : Stmt := top 47
abbrev sCellAt : Stmt := top 49
abbrev sSignBy : Stmt := top 50
abbrev sWordBy : Stmt := top 51
abbrev sWrong : Stmt := top 52
abbrev sAsked : Stmt := top 53
abbrev sTried : Stmt := top 54
abbrev sAny : Stmt := top 55
abbrev sPair : Stmt := top 56
abbrev sLaw : Stmt := top 57
/-! ### the program's words -/
section
variable {P : Program} {w : World} {K : PySem.W.Frag} {mg : Str → Option Value} {base : Heap}
abbrev FnP (K : PySem.W.Frag) (x : Str) (st : Stmt) (f : Addr) (fd : FuncData) : Prop := FunD K x x (defArgs st) (defBody st) (defScope st) [] [] f fd
theorem scIsSign : FnScope ["sign"] ["sign"] (defScope sIsSign) := ⟨rfl, rfl, rfl, by decide +kernel, rfl, by decide +kernel, by decide +kernel⟩
theorem scIsWord : FnScope ["word", "sign"] ["word"] (defScope sIsWord) := ⟨rfl, rfl, rfl, by decide +kernel, rfl, by decide +kernel, by decide +kernel⟩
def spIsSign : Sp := fun vs H Q _ => ∃ c : Nat, vs = [.str ⟨#[c]⟩] ∧ Q (.bl (signB c)) H
theorem ok_is_sign {f : Addr} {fd : FuncData} (F : FnP K "is_sign" sIsSign f fd) : FnOk P w K mg base (L2.CX P w) 1 f fd ["sign"] spIsSign := by
  refine F.ok scIsSign (fun vs H Q E h => ?_) (fun cdv A outer s H vs Q E hr h => ?_)
  · obtain ⟨c, rfl, _⟩ := h
    rfl
  · obtain ⟨c, rfl, q⟩ := h
    refine ⟨_, pss_one (ps_ret (pe_or (pe_chain op_le_str op_le_str pe_str (pv 0) pe_str) (pe_one (pe_chain op_le_str op_le_str pe_str (pv 0) pe_str)))), ?_⟩
    have k1 : ("!" : Str).cps.toList = [33] := by decide +kernel
    have k2 : ("$" : Str).cps.toList = [36] := by decide +kernel
    have k3 : ("&" : Str).cps.toList = [38] := by decide +kernel
    have k4 : ("~" : Str).cps.toList = [126] := by decide +kernel
    have kc : (⟨#[c]⟩ : Str).cps.toList = [c] := rfl
    refine ⟨_, rfl, _, _, rfl, rfl, _, rfl, ?_⟩
    rw [k1, kc, one_lt]
    unfold signB at q
    by_cases h1 : c < 33
    · rw [decide_eq_true h1] at q ⊢
      refine iteF ⟨_, rfl, iteF ⟨_, rfl, _, _, rfl, rfl, _, rfl, ?_⟩⟩
      rw [k3, kc, one_lt]
      by_cases h3 : c < 38
      · rw [decide_eq_true h3] at q ⊢
        exact iteF q
      · omega
    · rw [decide_eq_false h1] at q ⊢
      refine iteT ⟨_, _, rfl, rfl, ?_⟩
      rw [k2, kc, one_lt]
      by_cases h2 : 36 < c
      · rw [decide_eq_true h2] at q ⊢
        refine ⟨_, rfl, iteF ⟨_, rfl, _, _, rfl, rfl, _, rfl, ?_⟩⟩
        rw [k3, kc, one_lt]
        by_cases h3 : c < 38
        · rw [decide_eq_true h3] at q ⊢
          exact iteF q
        · rw [decide_eq_false h3] at q ⊢
          refine iteT ⟨_, _, rfl, rfl, ?_⟩
          rw [k4, kc, one_lt]
          exact q
      · rw [decide_eq_false h2] at q ⊢
        exact ⟨_, rfl, iteT q⟩

def spIsWord (Ps : List Addr) : Sp := fun vs H Q _ => ∃ a : Str, vs = [.str a] ∧ a.length ≤ sizeLine ∧ Tb Ps H ∧ ∀ H', Kp Ps H H' → Q (.bl (wordB a)) H'
theorem ok_is_word {Ps : List Addr} {f fS Pw : Addr} {fd fdS : FuncData} (F : FnP K "is_word" sIsWord f fd) (hf : f = He.fAd K ("is_word", none)) (hPw : Pw ∈ Ps) (TB : GxR.TabB base mg (He.codeOf K ("is_word", none)) Pw)
    (FS : FnP K "is_sign" sIsSign fS fdS) (bS : Binds K fdS ["sign"] []) (gS : mg "is_sign" = some (.ref fS)) (mI : mg "isinstance" = none) (mS : mg "str" = none) (mL : mg "len" = none) (mA : mg "all" = none) {tL : Tok} (mN : mg "LONGEST" = some (.int 40 tL)) :
    FnOk P w K mg base (L2.CX P w) 3 f fd ["word"] (spIsWord Ps) := by
  have GS : FnOk P w K mg base (L2.CX P w) 1 fS fdS ["sign"] spIsSign := ok_is_sign FS
  refine okC F hf scIsWord (fun vs H Q E h => ?_) (fun A outer s H vs Q E hr h => ?_)
  · obtain ⟨a, rfl, _⟩ := h
    rfl
  · obtain ⟨a, rfl, hz, ht, q⟩ := h
    refine ⟨_, pss_cons (ps_if (pt_not (pt_val (pe_callB call_isi (by rfl) mI (by decide +kernel) (pa_cons (pv 0) (pa_cons (pe_bltn (v := .ty "str") (by rfl) mS (by decide +kernel) rfl) pa_nil))))) (pss_one (ps_ret pe_bl)) pss_nil)
      (pss_one (ps_ret (pe_and (pe_chain op_le op_le pe_int (pe_callB call_len_str (by rfl) mL PySem.boot_len (pa_cons (pv 0) pa_nil)) (pe_glob (v := .int 40) (by rfl) mN ⟨_, rfl⟩))
        (pe_one (pe_allG (own := [("sign", 1)]) (gt := gName 1) (tt := tYes) (P := Pw) hr scIsWord.nd (by rfl) mA (by decide +kernel) TB rfl ⟨rfl, by decide +kernel, rfl, blkOk_by (N := ["word", "sign"]) (sc := defScope sIsWord) (by decide +kernel)⟩ (pi_str (pv 0))
          (fun _ _ _ _ _ _ _ _ _ => pg_name (i := 1) scIsWord.nd rfl (Or.inl rfl)) (fun _ _ _ _ _ _ _ _ _ _ => pts_nil) (fun _ _ _ _ _ _ _ _ _ hb => pe_call GS hb (by rfl) gS FS.kp bS .nil passL (pa_cons (pv 1) pa_nil))))))), ?_⟩
    refine ⟨_, rfl, .str a, .ty "str", _, _, true, rfl, .ty _, .base (.str a), kit_ty (by decide +kernel), true, rfl, iteF ?_⟩
    refine ⟨_, rfl, a, rfl, hz, 1, (a.length : Int), rfl, rfl, _, rfl, ?_⟩
    have eN : wordB a = (decide ((1 : Int) ≤ (a.length : Int)) && (decide ((a.length : Int) ≤ 40) && a.cps.toList.all signB)) := rfl
    rw [eN] at q
    by_cases h1 : (1 : Int) ≤ (a.length : Int)
    · rw [decide_eq_true h1] at q ⊢
      refine iteT ⟨(a.length : Int), 40, rfl, rfl, _, rfl, ?_⟩
      by_cases h2 : (a.length : Int) ≤ 40
      · rw [decide_eq_true h2] at q ⊢
        refine iteT ⟨_, rfl, a, rfl, ht Pw hPw, fun H2 hT => ?_⟩
        have k2 := Kp.tab ht hPw hT
        refine read_all_str (pb := signB) (Pv := fun H3 => H3 = H2) rfl (fun i c H3 R _ p hR => ?_) (fun H3 p => ?_)
        · subst p
          refine ⟨rfl, _, rfl, c, rfl, hR _ rfl⟩
        · subst p
          exact q _ k2
      · rw [decide_eq_false h2] at q ⊢
        exact iteF (q H (Kp.refl ht))
    · rw [decide_eq_false h1] at q ⊢
      exact iteF ⟨_, rfl, iteF (q H (Kp.refl ht))⟩
end
/-! ### rows, plainly -/
structure RowD where
  kind : Str
  num : Int
  ws : List Str
def plainK : List Str := ["keep", "cut", "put"]
def blockK : List Str := ["take", "lay"]
def oldK : List Str := ["keep", "cut", "take"]
def newK : List Str := ["keep", "put", "lay"]
def numB (k : Str) (n : Int) : Bool := if inV (.str k) (blockK.map V.str) = true then decide (1 ≤ n) && decide (n ≤ 999999999) else decide (V.int n = V.int 0)
structure RowOk (r : RowD) : Prop where
  kind : r.kind ∈ plainK ++ blockK
  num : numB r.kind r.num = true
  some : r.ws ≠ []
  words : ∀ a ∈ r.ws, wordB a = true
def RowAt (K : PySem.W.Frag) (H : Hp) (v : V) (r : RowD) : Prop := ∃ T W, v = .ref T ∧ SqT K H T [.str r.kind, .int r.num, .ref W] ∧ SqT K H W (r.ws.map V.str)
def RowsAt (K : PySem.W.Frag) (H : Hp) (xs : List V) (rs : List RowD) : Prop := xs.length = rs.length ∧ ∀ (i : Nat) (v : V), xs[i]? = some v → ∃ r, rs[i]? = some r ∧ RowAt K H v r
theorem RowAt.kp {K : PySem.W.Frag} {Ps : List Addr} {H H' : Hp} {v : V} {r : RowD} (t : Tb Ps H) (k : Kp Ps H H') (h : RowAt K H v r) : RowAt K H' v r :=
  let ⟨T, W, e, h1, h2⟩ := h; ⟨T, W, e, k.seqT t h1, k.seqT t h2⟩
theorem RowsAt.kp {K : PySem.W.Frag} {Ps : List Addr} {H H' : Hp} {xs : List V} {rs : List RowD} (t : Tb Ps H) (k : Kp Ps H H') (h : RowsAt K H xs rs) : RowsAt K H' xs rs :=
  ⟨h.1, fun i v e => let ⟨r, h1, h2⟩ := h.2 i v e; ⟨r, h1, h2.kp t k⟩⟩
theorem inV_strs (k : Str) : ∀ l : List Str, inV (.str k) (l.map V.str) = decide (k ∈ l) := by
  intro l
  unfold inV
  induction l with
  | nil => rfl
  | cons a r ih =>
    rw [List.map_cons, List.any_cons, ih]
    have e : eqV (V.str a) (V.str k) = decide (k = a) := by
      show decide (a = k) = decide (k = a)
      by_cases h : a = k
      · subst h
        rfl
      · rw [decide_eq_false h, decide_eq_false (Ne.symm h)]
    rw [e]
    by_cases h : k = a
    · rw [decide_eq_true h, decide_eq_true (show k ∈ a :: r from h ▸ List.mem_cons_self)]
      rfl
    · by_cases h2 : k ∈ r
      · rw [decide_eq_true h2, decide_eq_true (List.mem_cons_of_mem _ h2), Bool.or_true]
      · rw [decide_eq_false h, decide_eq_false h2, decide_eq_false (fun z => (List.mem_cons.mp z).elim h h2)]
        rfl
theorem flat_strs : ∀ l : List Str, (l.map V.str).all flatV = true := by
  intro l
  induction l with
  | nil => rfl
  | cons a r ih =>
    rw [List.map_cons, List.all_cons, ih]
    rfl
/-- a tuple of texts that stands at the top -/
def KTup (K : PySem.W.Frag) (a : Addr) (l : List Str) : Prop := ∀ H, SqT K H a (l.map V.str)
def tupB (K : PySem.W.Frag) (a : Addr) (l : List Str) : Bool := match K.lookup a with
  | some ⟨.type c, _, .seq its _, _⟩ => decide (c = "tuple") && (decide (its.size ≤ 100) && He.relAll (l.map V.str) its.toList)
  | _ => false
theorem tupB_ok {K : PySem.W.Frag} {a : Addr} {l : List Str} (h : tupB K a l = true) : KTup K a l := by
  intro H
  unfold tupB at h
  cases q : K.lookup a with
  | none =>
    rw [q] at h
    cases h
  | some o =>
    obtain ⟨oc, od, dt, osl⟩ := o
    rw [q] at h
    cases oc with
    | type c =>
      cases dt with
      | seq its n =>
        have h2 : (decide (c = "tuple") && (decide (its.size ≤ 100) && He.relAll (l.map V.str) its.toList)) = true := h
        rw [Bool.and_eq_true, Bool.and_eq_true] at h2
        obtain ⟨h3, h4, h5⟩ := h2
        refine .inr ⟨_, its, n, q, congrArg Value.type (of_decide_eq_true h3), rfl, Nat.le_trans (of_decide_eq_true h4) (by decide), He.relAll_ok h5⟩
      | _ => cases h
    | _ => cases dt <;> cases h
def strV : V → Bool
  | .str a => wordB a
  | _ => false
theorem all_strV : ∀ ws : List Str, (ws.map V.str).all strV = ws.all wordB := by
  intro ws
  induction ws with
  | nil => rfl
  | cons a r ih =>
    rw [List.map_cons, List.all_cons, List.all_cons, ih]
    rfl
/-! ### the program's rows -/
section
variable {P : Program} {w : World} {K : PySem.W.Frag} {mg : Str → Option Value} {base : Heap}
theorem scIsNumber : FnScope ["kind", "number"] ["kind", "number"] (defScope sIsNumber) := ⟨rfl, rfl, rfl, by decide +kernel, rfl, by decide +kernel, by decide +kernel⟩
theorem scRowWords : FnScope ["words", "word"] ["words"] (defScope sRowWords) := ⟨rfl, rfl, rfl, by decide +kernel, rfl, by decide +kernel, by decide +kernel⟩
theorem scIsRow : FnScope ["row", "kind", "number", "words"] ["row"] (defScope sIsRow) := ⟨rfl, rfl, rfl, by decide +kernel, rfl, by decide +kernel, by decide +kernel⟩
theorem scCheckRows : FnScope ["rows", "at", "row"] ["rows"] (defScope sCheckRows) := ⟨rfl, rfl, rfl, by decide +kernel, rfl, by decide +kernel, by decide +kernel⟩
def spIsNumber : Sp := fun vs H Q _ => ∃ (k : Str) (n : Int), vs = [.str k, .int n] ∧ Q (.bl (numB k n)) H
theorem ok_is_number {aB f : Addr} {fd : FuncData} (F : FnP K "is_number" sIsNumber f fd) (mI : mg "isinstance" = none) (mN : mg "int" = none) (mO : mg "bool" = none) (mB : mg "BLOCK_KINDS" = some (.ref aB)) (kB : KTup K aB blockK) {tL : Tok} (mL : mg "LAST_BLOCK" = some (.int 999999999 tL)) :
    FnOk P w K mg base (L2.CX P w) 1 f fd ["kind", "number"] spIsNumber := by
  refine F.ok scIsNumber (fun vs H Q E h => ?_) (fun cdv A outer s H vs Q E hr h => ?_)
  · obtain ⟨k, n, rfl, _⟩ := h
    rfl
  · obtain ⟨k, n, rfl, q⟩ := h
    refine ⟨_, pss_cons (ps_if (PW.pt (pw_or (pt_not (pt_val (pe_callB call_isi (by rfl) mI (by decide +kernel) (pa_cons (pv 1) (pa_cons (pe_bltn (v := .ty "int") (by rfl) mN (by decide +kernel) rfl) pa_nil)))))
        (pw_or1 (pt_val (pe_callB call_isi (by rfl) mI (by decide +kernel) (pa_cons (pv 1) (pa_cons (pe_bltn (v := .ty "bool") (by rfl) mO (by decide +kernel) rfl) pa_nil))))))) (pss_one (ps_ret pe_bl)) pss_nil)
      (pss_cons (ps_if (pt_cmpR op_in_seq (pv 0) (pe_glob (v := .ref aB) (by rfl) mB rfl) (by rfl)) (pss_one (ps_ret (pe_chain op_le op_le pe_int (pv 1) (pe_glob (v := .int 999999999) (by rfl) mL ⟨_, rfl⟩)))) pss_nil)
      (pss_one (ps_ret (pe_cmpR op_eq (pv 1) pe_int (nomark _))))), ?_⟩
    refine ⟨_, rfl, .int n, .ty "int", _, _, true, rfl, .ty _, .base (.int n), kit_ty (by decide +kernel), true, rfl, iteF ?_⟩
    refine ⟨_, rfl, .int n, .ty "bool", _, _, false, rfl, .ty _, .base (.int n), kit_ty (by decide +kernel), false, rfl, iteF ?_⟩
    refine ⟨_, rfl, aB, blockK.map V.str, rfl, .inr (kB H), rfl, flat_strs _, _, rfl, ?_⟩
    unfold numB at q
    show if inV (.str k) (blockK.map V.str) = true then _ else _
    cases e : inV (.str k) (blockK.map V.str) with
    | true =>
      rw [e, if_pos rfl] at q
      refine iteT ⟨_, rfl, _, _, rfl, rfl, _, rfl, ?_⟩
      by_cases h1 : 1 ≤ n
      · rw [decide_eq_true h1] at q ⊢
        exact iteT ⟨_, _, rfl, rfl, q⟩
      · rw [decide_eq_false h1] at q ⊢
        exact iteF q
    | false =>
      rw [e, if_neg Bool.false_ne_true] at q
      exact iteF ⟨_, rfl, rfl, q⟩
def spRowWords (K : PySem.W.Frag) (Ps : List Addr) : Sp := fun vs H Q _ => ∃ (W : Addr) (ws : List Str), vs = [.ref W] ∧ SqT K H W (ws.map V.str) ∧ ws ≠ [] ∧ (∀ a ∈ ws, a.length ≤ sizeLine) ∧ Tb Ps H ∧ ∀ H', Kp Ps H H' → Q (.bl (ws.all wordB)) H'
theorem ok_row_words {Ps : List Addr} {f fW Pr : Addr} {fd fdW : FuncData} (F : FnP K "is_row_of_words" sRowWords f fd) (hf : f = He.fAd K ("is_row_of_words", none)) (hPr : Pr ∈ Ps) (TB : GxR.TabB base mg (He.codeOf K ("is_row_of_words", none)) Pr)
    (GW : FnOk P w K mg base (L2.CX P w) 3 fW fdW ["word"] (spIsWord Ps)) (kW : PySem.W.keepIn K (.ref fW) = true) (bW : Binds K fdW ["word"] []) (gW : mg "is_word" = some (.ref fW))
    (mI : mg "isinstance" = none) (mT : mg "tuple" = none) (mL : mg "len" = none) (mA : mg "all" = none) : FnOk P w K mg base (L2.CX P w) 5 f fd ["words"] (spRowWords K Ps) := by
  refine okC F hf scRowWords (fun vs H Q E h => ?_) (fun A outer s H vs Q E hr h => ?_)
  · obtain ⟨W, ws, rfl, _⟩ := h
    rfl
  · obtain ⟨W, ws, rfl, hS, hne, hz, ht, q⟩ := h
    refine ⟨_, pss_cons (ps_if (PW.pt (pw_or (pt_not (pt_val (pe_callB call_isi (by rfl) mI (by decide +kernel) (pa_cons (pv 0) (pa_cons (pe_bltn (v := .ty "tuple") (by rfl) mT (by decide +kernel) rfl) pa_nil)))))
        (pw_or1 (pt_cmpR op_eq (pe_callB call_len_seq (by rfl) mL PySem.boot_len (pa_cons (pv 0) pa_nil)) pe_int (nomark _))))) (pss_one (ps_ret pe_bl)) pss_nil)
      (pss_one (ps_ret (pe_allG (own := [("word", 1)]) (gt := gName 1) (tt := tYes) (P := Pr) hr scRowWords.nd (by rfl) mA (by decide +kernel) TB rfl ⟨rfl, by decide +kernel, rfl, blkOk_by (N := ["words", "word"]) (sc := defScope sRowWords) (by decide +kernel)⟩ (pi_tup (pv 0))
          (fun _ _ _ _ _ _ _ _ _ => pg_name (i := 1) scRowWords.nd rfl (Or.inl rfl)) (fun _ _ _ _ _ _ _ _ _ _ => pts_nil) (fun _ _ _ _ _ _ _ _ _ hb => pe_call GW hb (by rfl) gW kW bW .nil passL (pa_cons (pv 1) pa_nil))))), ?_⟩
    refine ⟨_, rfl, .ref W, .ty "tuple", _, _, true, rfl, .ty _, tyT hS, kit_ty (by decide +kernel), true, rfl, iteF ?_⟩
    refine ⟨_, rfl, W, _, rfl, .inr hS, rfl, _, rfl, ?_⟩
    have e0 : decide (V.int ((ws.map V.str).length : Int) = V.int 0) = false := decide_eq_false fun z => by
      have z2 := V.int.inj z
      rw [List.length_map] at z2
      exact hne (List.length_eq_zero_iff.mp (by omega))
    rw [e0]
    refine iteF ⟨_, rfl, W, rfl, ⟨_, hS⟩, ht Pr hPr, fun H2 hT => ?_⟩
    have k2 := Kp.tab ht hPr hT
    refine read_all_tup (xs := ws.map V.str) (pb := strV) (Pv := fun H3 => Kp Ps H H3) k2 (fun H3 p => p.seqT ht hS) (fun i v H3 R hx p hR => ?_) (fun H3 p => ?_)
    · rw [List.getElem?_map] at hx
      obtain ⟨a, ha, rfl⟩ := Option.map_eq_some_iff.mp hx
      exact ⟨rfl, _, rfl, a, rfl, hz a (List.mem_of_getElem? ha), p.1, fun H4 k4 => hR H4 (p.trans k4)⟩
    · rw [all_strV]
      exact q H3 p
def spIsRow (K : PySem.W.Frag) (Ps : List Addr) : Sp := fun vs H Q _ => ∃ (v : V) (r : RowD), vs = [v] ∧ RowAt K H v r ∧ RowOk r ∧ Tb Ps H ∧ ∀ H', Kp Ps H H' → Q (.bl true) H'
theorem ok_is_row {Ps : List Addr} {aP aB f fN fW : Addr} {fd fdN fdW : FuncData} (F : FnP K "is_row" sIsRow f fd)
    (GN : FnOk P w K mg base (L2.CX P w) 1 fN fdN ["kind", "number"] spIsNumber) (kN : PySem.W.keepIn K (.ref fN) = true) (bN : Binds K fdN ["kind", "number"] []) (gN : mg "is_number" = some (.ref fN))
    (GW : FnOk P w K mg base (L2.CX P w) 5 fW fdW ["words"] (spRowWords K Ps)) (kW : PySem.W.keepIn K (.ref fW) = true) (bW : Binds K fdW ["words"] []) (gW : mg "is_row_of_words" = some (.ref fW))
    (mI : mg "isinstance" = none) (mT : mg "tuple" = none) (mL : mg "len" = none) (mP : mg "PLAIN_KINDS" = some (.ref aP)) (kP : KTup K aP plainK) (mB : mg "BLOCK_KINDS" = some (.ref aB)) (kB : KTup K aB blockK) : FnOk P w K mg base (L2.CX P w) 6 f fd ["row"] (spIsRow K Ps) := by
  refine F.ok scIsRow (fun vs H Q E h => ?_) (fun cdv A outer s H vs Q E hr h => ?_)
  · obtain ⟨v, r, rfl, _⟩ := h
    rfl
  · obtain ⟨v, r, rfl, ⟨T, W, rfl, hT, hW⟩, ok, ht, q⟩ := h
    refine ⟨_, pss_cons (ps_if (PW.pt (pw_or (pt_not (pt_val (pe_callB call_isi (by rfl) mI (by decide +kernel) (pa_cons (pv 0) (pa_cons (pe_bltn (v := .ty "tuple") (by rfl) mT (by decide +kernel) rfl) pa_nil)))))
        (pw_or1 (pt_cmpR op_ne (pe_callB call_len_seq (by rfl) mL PySem.boot_len (pa_cons (pv 0) pa_nil)) pe_int (nomark _))))) (pss_one (ps_ret pe_bl)) pss_nil)
      (pss_cons (ps_asg (pv 0) (pg_tup (by rfl) (pgs_cons (pg_name (i := 1) scIsRow.nd rfl (.inl rfl)) (pgs_cons (pg_name (i := 2) scIsRow.nd rfl (.inl rfl)) (pgs_cons (pg_name (i := 3) scIsRow.nd rfl (.inl rfl)) pgs_nil)))))
      (pss_cons (ps_if (PW.pt (pw_and (pt_cmpR op_notIn_seq (pv 1) (pe_glob (v := .ref aP) (by rfl) mP rfl) (by rfl)) (pw_and1 (pt_cmpR op_notIn_seq (pv 1) (pe_glob (v := .ref aB) (by rfl) mB rfl) (by rfl))))) (pss_one (ps_ret pe_bl)) pss_nil)
      (pss_one (ps_ret (pe_and (pe_call GN (hr.mono (by decide)) (by rfl) gN kN bN .nil passL (pa_cons (pv 1) (pa_cons (pv 2) pa_nil))) (pe_one (pe_call GW hr (by rfl) gW kW bW .nil passL (pa_cons (pv 3) pa_nil)))))))), ?_⟩
    refine ⟨_, rfl, .ref T, .ty "tuple", _, _, true, rfl, .ty _, tyT hT, kit_ty (by decide +kernel), true, rfl, iteF ?_⟩
    refine ⟨_, rfl, T, _, rfl, .inr hT, rfl, _, rfl, iteF ?_⟩
    refine ⟨_, rfl, T, _, rfl, hT, rfl, _, _, rfl, _, _, rfl, _, _, rfl, rfl, ?_⟩
    refine ⟨_, rfl, aP, plainK.map V.str, rfl, .inr (kP H), rfl, flat_strs _, _, rfl, ?_⟩
    have rest : ∀ b : Bool, b = (!inV (.str r.kind) (blockK.map V.str)) → b = false ∨ (!inV (.str r.kind) (plainK.map V.str)) = false := fun b hb => by
      rw [inV_strs] at hb
      rw [inV_strs]
      rcases List.mem_append.mp ok.kind with h | h
      · exact .inr (by rw [decide_eq_true h]; rfl)
      · exact .inl (by rw [hb, decide_eq_true h]; rfl)
    have fin : ∀ H1, H1 = H → ((FnOk P w K mg base (L2.CX P w) 1 fN fdN ["kind", "number"] spIsNumber) → tAndV (tCall spIsNumber [] E0 (tCons (tVar 1) (tCons (tVar 2) tNil))) (tCall (spRowWords K Ps) [] E0 (tCons (tVar 3) tNil)) [some (.ref T), some (.str r.kind), some (.int r.num), some (.ref W)] H1 Q) := fun H1 e _ => by
      subst e
      refine ⟨_, rfl, _, rfl, r.kind, r.num, rfl, _, rfl, ?_⟩
      rw [ok.num]
      refine iteT ⟨_, rfl, W, r.ws, rfl, hW, ok.some, fun a ha => small_line (by have := wordB_len (ok.words a ha); omega), ht, fun H' k => ?_⟩
      rw [List.all_eq_true.mpr ok.words]
      exact q H' k
    cases e : inV (.str r.kind) (plainK.map V.str) with
    | true => exact iteF (iteF (fin H rfl GN))
    | false =>
      refine iteT ⟨_, rfl, aB, blockK.map V.str, rfl, .inr (kB H), rfl, flat_strs _, _, rfl, ?_⟩
      rcases rest _ rfl with h | h
      · show if (!inV (.str r.kind) (blockK.map V.str)) = true then _ else _
        rw [h]
        exact iteF (fin H rfl GN)
      · rw [e] at h
        cases h
def spCheckRows (K : PySem.W.Frag) (Ps : List Addr) : Sp := fun vs H Q _ => ∃ (p : Addr) (xs : List V) (rs : List RowD), vs = [.ref p] ∧ SqL K H p xs ∧ RowsAt K H xs rs ∧ (∀ r ∈ rs, RowOk r) ∧ Tb Ps H ∧ ∀ H', Kp Ps H H' → Q .non H'
theorem ok_check_rows {Ps : List Addr} {f fR : Addr} {fd fdR : FuncData} (F : FnP K "check_rows" sCheckRows f fd) (GR : FnOk P w K mg base (L2.CX P w) 6 fR fdR ["row"] (spIsRow K Ps)) (kR : PySem.W.keepIn K (.ref fR) = true) (bR : Binds K fdR ["row"] []) (gR : mg "is_row" = some (.ref fR))
    (mI : mg "isinstance" = none) (mT : mg "list" = none) (mE : mg "enumerate" = none) : FnOk P w K mg base (L2.CX P w) 7 f fd ["rows"] (spCheckRows K Ps) := by
  refine F.ok scCheckRows (fun vs H Q E h => ?_) (fun cdv A outer s H vs Q E hr h => ?_)
  · obtain ⟨p, xs, rs, rfl, _⟩ := h
    rfl
  · obtain ⟨p, xs, rs, rfl, hS, hR, hok, ht, q⟩ := h
    refine ⟨_, pss_cons (ps_if (pt_not (pt_val (pe_callB call_isi (by rfl) mI (by decide +kernel) (pa_cons (pv 0) (pa_cons (pe_bltn (v := .ty "list") (by rfl) mT (by decide +kernel) rfl) pa_nil))))) pss_never pss_nil)
      (pss_one (ps_for (passes_of rfl) rfl (pi_enum (by rfl) mE (pa_cons (pv 0) pa_nil)) (pg_tup rfl (pgs_cons (pg_name (i := 1) scCheckRows.nd rfl (.inl rfl)) (pgs_cons (pg_name (i := 2) scCheckRows.nd rfl (.inl rfl)) pgs_nil)))
        (pss_one (ps_if (pt_not (pt_val (pe_call GR hr (by rfl) gR kR bR .nil passL (pa_cons (pv 2) pa_nil)))) pss_never pss_nil)))), ?_⟩
    refine ⟨_, rfl, .ref p, .ty "list", _, _, true, rfl, .ty _, tyL hS, kit_ty (by decide +kernel), true, rfl, iteF ?_⟩
    refine ⟨_, rfl, p, _, rfl, hS, for_enum (xs := xs) (fun i σ' H' => Kp Ps H H' ∧ ∃ y1 y2, σ' = [some (.ref p), y1, y2]) ⟨Kp.refl ht, none, none, rfl⟩ (fun i σ' H' _ hp => hp.1.seq ht hS) (fun i x T σ' H' hx nT hp => ?_) (fun σ' H' hp => q H' hp.1)⟩
    obtain ⟨k, y1, y2, rfl⟩ := hp
    obtain ⟨r, hr1, hr2⟩ := hR.2 i x hx
    have k2 : Kp Ps H (upd H' T (.tup [.int (i : Nat), x])) := k.trans (Kp.new k.1 nT)
    refine ⟨T, _, rfl, .inl (.inl upd_same), rfl, _, _, rfl, _, _, rfl, rfl, ?_⟩
    exact ⟨_, rfl, x, r, rfl, hr2.kp ht k2, hok r (List.mem_of_getElem? hr1), k2.1, fun H3 k3 => ⟨_, rfl, iteF ⟨k2.trans k3, _, _, rfl⟩⟩⟩
end
/-! ### the way back, the cost -/
def wayB (k : Str) : Str := if k = "cut" then "put" else if k = "put" then "cut" else if k = "take" then "lay" else if k = "lay" then "take" else "keep"
def cutPut : List Str := ["cut", "put"]
def turnR (r : RowD) : RowD := { r with kind := wayB r.kind }
def rowCost (r : RowD) : Int := if inV (.str r.kind) (cutPut.map V.str) = true then (r.ws.length : Int) else if r.kind = "take" then 3 else 0
def costOf (rs : List RowD) : Int := (rs.map rowCost).sum
theorem RowAt.set {K : PySem.W.Frag} {H : Hp} {D : Addr} {o : HO} {v : V} {r : RowD} (hD : ∀ xs, ¬ Rd H D (.tup xs)) (h : RowAt K H v r) : RowAt K (upd H D o) v r := by
  obtain ⟨T, W, e, h1, h2⟩ := h
  have key : ∀ {a : Addr} {xs : List V}, SqT K H a xs → SqT K (upd H D o) a xs := fun {a xs} h => by
    rcases h with h | h
    · have ne : a ≠ D := fun z => hD xs (by rw [← z]; exact h)
      rcases h with h | ⟨ob, h⟩
      · exact .inl (.inl (by rw [upd_ne ne]; exact h))
      · exact .inl (.inr ⟨ob, by rw [upd_ne ne]; exact h⟩)
    · exact .inr h
  exact ⟨T, W, e, key h1, key h2⟩
theorem noTup {H : Hp} {D : Addr} {ys : List V} (h : H D = some (.lst ys)) : ∀ xs, ¬ Rd H D (.tup xs) := fun xs z => by
  rcases z with z | ⟨o, z⟩
  · rw [h] at z
    cases z
  · rw [h] at z
    cases z
/-! ### rows as data; what the laws say of rows -/
theorem signB_lt' {c : Nat} (h : signB c = true) : c < 127 := by
  unfold signB at h
  rw [Bool.or_eq_true, Bool.and_eq_true, Bool.and_eq_true, Bool.not_eq_true', Bool.not_eq_true', Bool.not_eq_true', Bool.not_eq_true'] at h
  rcases h with ⟨_, h⟩ | ⟨_, h⟩
  · have := of_decide_eq_false h
    omega
  · have := of_decide_eq_false h
    omega
theorem strOk_word {a : Str} (h : wordB a = true) : PyData.strOk a = true := by
  unfold PyData.strOk
  rw [Array.all_eq_true]
  intro i hi
  have h1 : a.cps[i] ∈ a.cps.toList := by simp
  have h2 := signB_lt' (wordB_signs h _ h1)
  exact decide_eq_true (by omega)
theorem dpStrs (H : Hp) (K : PySem.W.Frag) : ∀ ws : List Str, DpAll K H (ws.map V.str) (ws.map PyData.str)
  | [] => .nil
  | x :: r => .cons (.str x) (dpStrs H K r)
theorem lay_strs : ∀ ws : List Str, (∀ a ∈ ws, PyData.strOk a = true) → PyData.canLayAll0 (ws.map PyData.str) = true := fun ws => by
  induction ws with
  | nil => exact fun _ => rfl
  | cons x r ih =>
    intro h
    show (PyData.canLay0 (.str x) && PyData.canLayAll0 (r.map PyData.str)) = true
    rw [ih fun b hb => h b (List.mem_cons_of_mem _ hb), show PyData.canLay0 (.str x) = PyData.strOk x from rfl, h x List.mem_cons_self]
    rfl
theorem depth_strs : ∀ ws : List Str, PyData.depthAll (ws.map PyData.str) = 0 := fun ws => by
  induction ws with
  | nil => rfl
  | cons x r ih =>
    show max (PyData.depth (.str x)) (PyData.depthAll (r.map PyData.str)) = 0
    rw [ih]
    rfl
theorem shaped_words {ws : List Str} (h : ∀ a ∈ ws, PyData.strOk a = true) : SeqAt.shaped (.list (ws.map PyData.str)) = true := by
  show (PyData.canLayAll0 (ws.map PyData.str) && decide (PyData.depthAll (ws.map PyData.str) + 1 ≤ 64)) = true
  rw [lay_strs ws h, depth_strs]
  rfl
def rowData (r : RowD) : PyData := .tuple [.str r.kind, .int r.num, .tuple (r.ws.map PyData.str)]
theorem dpRow {K : PySem.W.Frag} {H : Hp} {v : V} {r : RowD} (h : RowAt K H v r) : Dp K H v (rowData r) := by
  obtain ⟨T, W, rfl, hT, hW⟩ := h
  exact .tup hT (.cons (.str _) (.cons (.int _) (.cons (.tup hW (dpStrs H K r.ws)) .nil)))
theorem dpRows {K : PySem.W.Frag} {H : Hp} : ∀ {xs : List V} {rs : List RowD}, RowsAt K H xs rs → DpAll K H xs (rs.map rowData)
  | [], [], _ => .nil
  | [], _ :: _, h => nomatch h.1
  | _ :: _, [], h => nomatch h.1
  | x :: xs, r :: rs, h => by
    obtain ⟨r', h1, h2⟩ := h.2 0 x rfl
    cases h1
    exact .cons (dpRow h2) (dpRows ⟨Nat.succ.inj h.1, fun i v e => h.2 (i + 1) v e⟩)
theorem kinds_strOk : ∀ k ∈ plainK ++ blockK, PyData.strOk k = true := by decide +kernel
theorem lay_rows : ∀ rs : List RowD, (∀ r ∈ rs, RowOk r) → PyData.canLayAll0 (rs.map rowData) = true := fun rs => by
  induction rs with
  | nil => exact fun _ => rfl
  | cons x r ih =>
    intro h
    have hx := h x List.mem_cons_self
    show (((PyData.strOk x.kind && (true && (PyData.canLayAll0 (x.ws.map PyData.str) && true)))) && PyData.canLayAll0 (r.map rowData)) = true
    rw [ih fun b hb => h b (List.mem_cons_of_mem _ hb), lay_strs x.ws fun a ha => strOk_word (hx.words a ha), kinds_strOk _ hx.kind]
    rfl
theorem depth_rows : ∀ rs : List RowD, PyData.depthAll (rs.map rowData) ≤ 2 := fun rs => by
  induction rs with
  | nil => exact Nat.zero_le _
  | cons x r ih =>
    show max (max (0 : Nat) (max (0 : Nat) (max (PyData.depthAll (x.ws.map PyData.str) + 1) 0)) + 1) (PyData.depthAll (r.map rowData)) ≤ 2
    rw [depth_strs]
    omega
theorem shaped_rows {rs : List RowD} (h : ∀ r ∈ rs, RowOk r) : SeqAt.shaped (.list (rs.map rowData)) = true := by
  show (PyData.canLayAll0 (rs.map rowData) && decide (PyData.depthAll (rs.map rowData) + 1 ≤ 64)) = true
  rw [lay_rows rs h, decide_eq_true (show PyData.depthAll (rs.map rowData) + 1 ≤ 64 by have := depth_rows rs; omega)]
  rfl
theorem noTb {H : Hp} : Tb [] H := fun _ h => by cases h
theorem RowAt.same {K : PySem.W.Frag} {H H' : Hp} {v : V} {r : RowD} (s : Same H H') (h : RowAt K H v r) : RowAt K H' v r := h.kp noTb (Kp.same noTb s)
theorem RowsAt.same {K : PySem.W.Frag} {H H' : Hp} {xs : List V} {rs : List RowD} (s : Same H H') (h : RowsAt K H xs rs) : RowsAt K H' xs rs := h.kp noTb (Kp.same noTb s)
theorem sameT {K : PySem.W.Frag} {H H' : Hp} {a : Addr} {xs : List V} (s : Same H H') (h : SqT K H a xs) : SqT K H' a xs := (Kp.same noTb s).seqT noTb h
theorem atM {α : Type} {l : List α} {c : Int} {n : Nat} {x : α} (hn : 0 < n) (h : l[(c % (n : Int)).toNat]? = some x) : atI l (c % (n : Int)) = some x := by
  have h1 : 0 ≤ c % (n : Int) := Int.emod_nonneg c (by omega)
  have e : c % (n : Int) = (((c % (n : Int)).toNat : Nat) : Int) := (Int.toNat_of_nonneg h1).symm
  rw [e]
  exact atI_nat h
theorem ltM {c : Int} {n : Nat} (hn : 0 < n) : (c % (n : Int)).toNat < n := by
  have h1 : 0 ≤ c % (n : Int) := Int.emod_nonneg c (by omega)
  have h2 : c % (n : Int) < (n : Int) := Int.emod_lt_of_pos c (by omega)
  omega
theorem lay_words {ws : List Str} (h : ∀ a ∈ ws, wordB a = true) : (PyData.tuple (ws.map PyData.str)).canLay0 = true := lay_strs ws fun a ha => strOk_word (h a ha)
theorem shaped_tup {ws : List Str} (h : ∀ a ∈ ws, wordB a = true) : SeqAt.shaped (.tuple (ws.map PyData.str)) = true := by
  show (PyData.canLayAll0 (ws.map PyData.str) && decide (PyData.depthAll (ws.map PyData.str) + 1 ≤ 64)) = true
  rw [lay_strs ws fun a ha => strOk_word (h a ha), depth_strs]
  rfl
theorem same_set {H H' : Hp} (m : Same H H') {D : Addr} {o : HO} (n : H D = none) : Same H (upd H' D o) := fun b u e => by
  rw [upd_ne (ne_of_none e n)]
  exact m b u e
/-! ### more of rows -/
theorem cut30 (xs : List V) : (cutV xs (some 4) (some 34)).length ≤ 30 := by
  unfold cutV
  have h1 : HT.sIx xs.length 0 (some 4) = min 4 xs.length := HT.sIx_nat _ _ 4
  have h2 : HT.sIx xs.length xs.length (some 34) = min 34 xs.length := HT.sIx_nat _ _ 34
  rw [h1, h2, List.length_take, List.length_drop]
  omega
theorem cut_mem {xs : List V} {lo hi : Option Int} {x : V} (h : x ∈ cutV xs lo hi) : x ∈ xs := List.mem_of_mem_drop (List.mem_of_mem_take h)
theorem RowsAt.snoc {K : PySem.W.Frag} {H : Hp} {xs : List V} {rs : List RowD} {v : V} {r : RowD} (h : RowsAt K H xs rs) (h2 : RowAt K H v r) : RowsAt K H (xs ++ [v]) (rs ++ [r]) := by
  refine ⟨by rw [List.length_append, List.length_append, h.1]; rfl, fun i x e => ?_⟩
  by_cases hi : i < xs.length
  · rw [List.getElem?_append_left hi] at e
    obtain ⟨r', h3, h4⟩ := h.2 i x e
    exact ⟨r', by rw [List.getElem?_append_left (by rw [← h.1]; exact hi)]; exact h3, h4⟩
  · have hl := (List.getElem?_eq_some_iff.mp e).1
    rw [List.length_append] at hl
    have hl : i < xs.length + 1 := hl
    have e2 : i = xs.length := by omega
    subst e2
    rw [List.getElem?_append_right (Nat.le_refl _), Nat.sub_self] at e
    cases e
    exact ⟨r, by rw [List.getElem?_append_right (by rw [← h.1]; exact Nat.le_refl _), h.1, Nat.sub_self]; rfl, h2⟩
theorem RowsAt.set {K : PySem.W.Frag} {H : Hp} {D : Addr} {o : HO} {xs : List V} {rs : List RowD} (hD : ∀ xs, ¬ Rd H D (.tup xs)) (h : RowsAt K H xs rs) : RowsAt K (upd H D o) xs rs :=
  ⟨h.1, fun i v e => let ⟨r, h1, h2⟩ := h.2 i v e; ⟨r, h1, h2.set hD⟩⟩
theorem turnR_ok {r : RowD} (h : RowOk r) : RowOk (turnR r) := by
  have key : ∀ k ∈ plainK ++ blockK, wayB k ∈ plainK ++ blockK ∧ (decide (k ∈ blockK) = decide (wayB k ∈ blockK)) := by decide +kernel
  obtain ⟨h1, h2⟩ := key _ h.kind
  refine ⟨h1, ?_, h.some, h.words⟩
  have h3 := h.num
  unfold numB at h3 ⊢
  rw [inV_strs] at h3 ⊢
  show (if decide (wayB r.kind ∈ blockK) = true then _ else _) = true
  rw [← h2]
  exact h3
theorem numB_block {k : Str} {n : Int} (hk : k = "take" ∨ k = "lay") (h1 : 1 ≤ n) (h2 : n ≤ 999999999) : numB k n = true := by
  unfold numB
  rw [inV_strs, decide_eq_true (show k ∈ blockK by rcases hk with rfl | rfl <;> decide +kernel), if_pos rfl, decide_eq_true h1, decide_eq_true h2]
  rfl
theorem numB_plain {k : Str} (h1 : k ≠ "take") (h2 : k ≠ "lay") : numB k 0 = true := by
  unfold numB
  rw [inV_strs, decide_eq_false (show ¬ k ∈ blockK from fun z => by
    rcases List.mem_cons.mp z with z | z
    · exact h1 z
    · rcases List.mem_cons.mp z with z | z
      · exact h2 z
      · cases z), if_neg Bool.false_ne_true]
  rfl
/-! ### the program's words, good or not -/
/-- a value that is no text -/
inductive NoStr (K : PySem.W.Frag) (H : Hp) : V → Prop
  | int (n : Int) : NoStr K H (.int n)
  | non : NoStr K H .non
  | bl (b : Bool) : NoStr K H (.bl b)
  | lst {a : Addr} {xs : List V} (h : SqL K H a xs) : NoStr K H (.ref a)
  | tup {a : Addr} {xs : List V} (h : SqT K H a xs) : NoStr K H (.ref a)
  | dic {a : Addr} {kvs : List (Key × V)} (h : H a = some (.dK kvs)) : NoStr K H (.ref a)
theorem NoStr.kp {K : PySem.W.Frag} {Ps : List Addr} {H H' : Hp} (t : Tb Ps H) (k : Kp Ps H H') {v : V} (h : NoStr K H v) : NoStr K H' v := by
  cases h with
  | int n => exact .int n
  | non => exact .non
  | bl b => exact .bl b
  | lst h => exact .lst (k.seq t h)
  | tup h => exact .tup (k.seqT t h)
  | dic h => exact .dic (k.at t h fun _ z => by cases z)
theorem NoStr.ty {K : PySem.W.Frag} {H : Hp} {v : V} (h : NoStr K H v) : ∃ T : String, TyX K H v (.type T) ∧ (T = "int" ∨ T = "NoneType" ∨ T = "bool" ∨ T = "list" ∨ T = "tuple" ∨ T = "dict") := by
  cases h with
  | int n => exact ⟨_, .base (.int n), .inl rfl⟩
  | non => exact ⟨_, .base .non, .inr (.inl rfl)⟩
  | bl b => exact ⟨_, .base (.bl b), .inr (.inr (.inl rfl))⟩
  | lst h => exact ⟨_, tyL h, .inr (.inr (.inr (.inl rfl)))⟩
  | tup h => exact ⟨_, tyT h, .inr (.inr (.inr (.inr (.inl rfl))))⟩
  | dic h => exact ⟨_, .base (.dK h), .inr (.inr (.inr (.inr (.inr rfl))))⟩
/-- a value that may stand among words -/
def WV (K : PySem.W.Frag) (H : Hp) (v : V) : Prop := (∃ a : Str, v = .str a ∧ a.length ≤ 1000000) ∨ NoStr K H v
theorem WV.kp {K : PySem.W.Frag} {Ps : List Addr} {H H' : Hp} (t : Tb Ps H) (k : Kp Ps H H') {v : V} (h : WV K H v) : WV K H' v := h.imp id (·.kp t k)
def isW : V → Bool
  | .str a => wordB a
  | _ => false
theorem isW_no {K : PySem.W.Frag} {H : Hp} {v : V} (h : NoStr K H v) : isW v = false := by
  cases h <;> rfl
theorem all_isW (ws : List Str) : (ws.map V.str).all isW = ws.all wordB := by
  induction ws with
  | nil => rfl
  | cons a r ih =>
    rw [List.map_cons, List.all_cons, List.all_cons, ih]
    rfl
theorem log_small {n : Nat} (h : n < 2 ^ 64) : n.log2 < 1920 := by
  by_cases h0 : n = 0
  · subst h0
    decide
  · exact (Nat.log2_lt h0).mpr (Nat.lt_of_lt_of_le h (Nat.pow_le_pow_right (by decide) (by decide)))
section
variable {P : Program} {w : World} {K : PySem.W.Frag} {mg : Str → Option Value} {base : Heap}
def spIsWordX (K : PySem.W.Frag) (Ps : List Addr) : Sp := fun vs H Q _ => ∃ v, vs = [v] ∧ WV K H v ∧ Tb Ps H ∧ ∀ H', Kp Ps H H' → Q (.bl (isW v)) H'
theorem ok_is_wordX {Ps : List Addr} {f fS Pw : Addr} {fd fdS : FuncData} (F : FnP K "is_word" sIsWord f fd) (hf : f = He.fAd K ("is_word", none)) (hPw : Pw ∈ Ps) (TB : GxR.TabB base mg (He.codeOf K ("is_word", none)) Pw)
    (FS : FnP K "is_sign" sIsSign fS fdS) (bS : Binds K fdS ["sign"] []) (gS : mg "is_sign" = some (.ref fS)) (mI : mg "isinstance" = none) (mS : mg "str" = none) (mL : mg "len" = none) (mA : mg "all" = none) {tL : Tok} (mN : mg "LONGEST" = some (.int 40 tL)) :
    FnOk P w K mg base (L2.CX P w) 3 f fd ["word"] (spIsWordX K Ps) := by
  have GS : FnOk P w K mg base (L2.CX P w) 1 fS fdS ["sign"] spIsSign := ok_is_sign FS
  refine okC F hf scIsWord (fun vs H Q E h => ?_) (fun A outer s H vs Q E hr h => ?_)
  · obtain ⟨v, rfl, _⟩ := h
    rfl
  · obtain ⟨v, rfl, hv, ht, q⟩ := h
    refine ⟨_, pss_cons (ps_if (pt_not (pt_val (pe_callB call_isi (by rfl) mI (by decide +kernel) (pa_cons (pv 0) (pa_cons (pe_bltn (v := .ty "str") (by rfl) mS (by decide +kernel) rfl) pa_nil))))) (pss_one (ps_ret pe_bl)) pss_nil)
      (pss_one (ps_ret (pe_and (pe_chain op_le op_le pe_int (pe_callB call_len_str (by rfl) mL PySem.boot_len (pa_cons (pv 0) pa_nil)) (pe_glob (v := .int 40) (by rfl) mN ⟨_, rfl⟩))
        (pe_one (pe_allG (own := [("sign", 1)]) (gt := gName 1) (tt := tYes) (P := Pw) hr scIsWord.nd (by rfl) mA (by decide +kernel) TB rfl ⟨rfl, by decide +kernel, rfl, blkOk_by (N := ["word", "sign"]) (sc := defScope sIsWord) (by decide +kernel)⟩ (pi_str (pv 0))
          (fun _ _ _ _ _ _ _ _ _ => pg_name (i := 1) scIsWord.nd rfl (Or.inl rfl)) (fun _ _ _ _ _ _ _ _ _ _ => pts_nil) (fun _ _ _ _ _ _ _ _ _ hb => pe_call GS hb (by rfl) gS FS.kp bS .nil passL (pa_cons (pv 1) pa_nil))))))), ?_⟩
    rcases hv with ⟨a, rfl, hz⟩ | hv
    · refine ⟨_, rfl, .str a, .ty "str", _, _, true, rfl, .ty _, .base (.str a), kit_ty (by decide +kernel), true, rfl, iteF ?_⟩
      refine ⟨_, rfl, a, rfl, small_line hz, 1, (a.length : Int), rfl, rfl, _, rfl, ?_⟩
      have eN : isW (.str a) = (decide ((1 : Int) ≤ (a.length : Int)) && (decide ((a.length : Int) ≤ 40) && a.cps.toList.all signB)) := rfl
      rw [eN] at q
      by_cases h1 : (1 : Int) ≤ (a.length : Int)
      · rw [decide_eq_true h1] at q ⊢
        refine iteT ⟨(a.length : Int), 40, rfl, rfl, _, rfl, ?_⟩
        by_cases h2 : (a.length : Int) ≤ 40
        · rw [decide_eq_true h2] at q ⊢
          refine iteT ⟨_, rfl, a, rfl, ht Pw hPw, fun H2 hT => ?_⟩
          have k2 := Kp.tab ht hPw hT
          refine read_all_str (pb := signB) (Pv := fun H3 => H3 = H2) rfl (fun i c H3 R _ p hR => ?_) (fun H3 p => ?_)
          · subst p
            refine ⟨rfl, _, rfl, c, rfl, hR _ rfl⟩
          · subst p
            exact q _ k2
        · rw [decide_eq_false h2] at q ⊢
          exact iteF (q H (Kp.refl ht))
      · rw [decide_eq_false h1] at q ⊢
        exact iteF ⟨_, rfl, iteF (q H (Kp.refl ht))⟩
    · obtain ⟨T, hT, hk⟩ := hv.ty
      rw [isW_no hv] at q
      have kk : kitB T "str" = some false := by
        rcases hk with rfl | rfl | rfl | rfl | rfl | rfl <;> decide +kernel
      exact ⟨_, rfl, v, .ty "str", _, _, false, rfl, .ty _, hT, kit_ty kk, false, rfl, iteT (q H (Kp.refl ht))⟩
/-- an own class of errors -/
structure ExcC (K : PySem.W.Frag) (mg : Str → Option Value) (x : Str) (c : Addr) : Prop where
  g : mg x = some (.ref c)
  ex : PySem.W.excIn K c He.veBase "ValueError.__new__" = true
  kp : PySem.W.keepIn K (.ref c) = true
  be : PySem.W.subIn K (.ref c) (.type "BaseException") = some true
  ty : PySem.W.typeIn K (.ref c) = some (.type "type")
/-- what is no list -/
inductive NoList (K : PySem.W.Frag) (H : Hp) : V → Prop
  | str (a : Str) : NoList K H (.str a)
  | int (n : Int) : NoList K H (.int n)
  | non : NoList K H .non
  | bl (b : Bool) : NoList K H (.bl b)
  | tup {a : Addr} {xs : List V} (h : SqT K H a xs) : NoList K H (.ref a)
  | dic {a : Addr} {kvs : List (Key × V)} (h : H a = some (.dK kvs)) : NoList K H (.ref a)
theorem NoList.kp {K : PySem.W.Frag} {Ps : List Addr} {H H' : Hp} (t : Tb Ps H) (k : Kp Ps H H') {v : V} (h : NoList K H v) : NoList K H' v := by
  cases h with
  | str a => exact .str a
  | int n => exact .int n
  | non => exact .non
  | bl b => exact .bl b
  | tup h => exact .tup (k.seqT t h)
  | dic h => exact .dic (k.at t h fun _ z => by cases z)
theorem NoList.ty {K : PySem.W.Frag} {H : Hp} {v : V} (h : NoList K H v) : ∃ T : String, TyX K H v (.type T) ∧ kitB T "list" = some false := by
  cases h with
  | str a => exact ⟨_, .base (.str a), by decide +kernel⟩
  | int n => exact ⟨_, .base (.int n), by decide +kernel⟩
  | non => exact ⟨_, .base .non, by decide +kernel⟩
  | bl b => exact ⟨_, .base (.bl b), by decide +kernel⟩
  | tup h => exact ⟨_, tyT h, by decide +kernel⟩
  | dic h => exact ⟨_, .base (.dK h), by decide +kernel⟩
/-- what is handed in where words are asked for: no list, or a list of such values -/
def TextV (K : PySem.W.Frag) (H : Hp) (v : V) (o : Option (List V)) : Prop := match o with
  | none => NoList K H v
  | some xs => ∃ p, v = .ref p ∧ SqL K H p xs ∧ (∀ x ∈ xs, WV K H x) ∧ xs.length ≤ 1000
theorem TextV.kp {K : PySem.W.Frag} {Ps : List Addr} {H H' : Hp} (t : Tb Ps H) (k : Kp Ps H H') {v : V} {o : Option (List V)} (h : TextV K H v o) : TextV K H' v o := by
  cases o with
  | none => exact NoList.kp t k h
  | some xs =>
    obtain ⟨p, e, h1, h2, h3⟩ := h
    exact ⟨p, e, k.seq t h1, fun x hx => (h2 x hx).kp t k, h3⟩
def wordsB (o : Option (List V)) : Bool := match o with
  | none => false
  | some xs => xs.all isW
def shortB (o : Option (List V)) : Bool := match o with
  | none => false
  | some xs => decide (xs.length ≤ 120)
end
/-! ### the program's checks of words -/
section
variable {P : Program} {w : World} {K : PySem.W.Frag} {mg : Str → Option Value} {base : Heap}
theorem scCheckWords : FnScope ["words", "at", "word"] ["words"] (defScope sCheckWords) := ⟨rfl, rfl, rfl, by decide +kernel, rfl, by decide +kernel, by decide +kernel⟩
theorem scCheckLength : FnScope ["words"] ["words"] (defScope sCheckLength) := ⟨rfl, rfl, rfl, by decide +kernel, rfl, by decide +kernel, by decide +kernel⟩
theorem scCheckText : FnScope ["words"] ["words"] (defScope sCheckText) := ⟨rfl, rfl, rfl, by decide +kernel, rfl, by decide +kernel, by decide +kernel⟩
def spCheckWordsX (K : PySem.W.Frag) (Ps : List Addr) (cW : Addr) : Sp := fun vs H Q E => ∃ v o, vs = [v] ∧ TextV K H v o ∧ Tb Ps H ∧ (wordsB o = true → ∀ H', Kp Ps H H' → Q .non H') ∧ (wordsB o = false → ∀ H', Kp Ps H H' → E (.ref cW) none H')
theorem ok_check_wordsX {Ps : List Addr} {cW f fW : Addr} {fd fdW : FuncData} (F : FnP K "check_words" sCheckWords f fd) (GW : FnOk P w K mg base (L2.CX P w) 3 fW fdW ["word"] (spIsWordX K Ps)) (kW : PySem.W.keepIn K (.ref fW) = true) (bW : Binds K fdW ["word"] []) (gW : mg "is_word" = some (.ref fW))
    (X : ExcC K mg "NoWord" cW) (mI : mg "isinstance" = none) (mT : mg "list" = none) (mE : mg "enumerate" = none) : FnOk P w K mg base (L2.CX P w) 4 f fd ["words"] (spCheckWordsX K Ps cW) := by
  refine F.ok scCheckWords (fun vs H Q E h => ?_) (fun cdv A outer s H vs Q E hr h => ?_)
  · obtain ⟨v, o, rfl, _⟩ := h
    rfl
  · obtain ⟨v, o, rfl, hv, ht, q, e⟩ := h
    refine ⟨_, pss_cons (ps_if (pt_not (pt_val (pe_callB call_isi (by rfl) mI (by decide +kernel) (pa_cons (pv 0) (pa_cons (pe_bltn (v := .ty "list") (by rfl) mT (by decide +kernel) rfl) pa_nil)))))
        (pss_one (ps_raise rfl (takes_of rfl rfl rfl rfl) (pmk_own PySem.F.excBase_ValueError X.ex X.g X.kp (raises_own X.be X.ty) (by rfl)))) pss_nil)
      (pss_one (ps_for (passes_of rfl) rfl (pi_enum (by rfl) mE (pa_cons (pv 0) pa_nil)) (pg_tup rfl (pgs_cons (pg_name (i := 1) scCheckWords.nd rfl (.inl rfl)) (pgs_cons (pg_name (i := 2) scCheckWords.nd rfl (.inl rfl)) pgs_nil)))
        (pss_one (ps_if (pt_not (pt_val (pe_call GW hr (by rfl) gW kW bW .nil passL (pa_cons (pv 2) pa_nil))))
          (pss_one (ps_raise rfl (takes_of rfl rfl rfl rfl) (SkE.pmk_own1 PySem.F.excBase_ValueError X.ex X.g X.kp (raises_own X.be X.ty) (by rfl) (pe_joined (.cons pe_str (.cons (pe_fmt (pv 1)) (.cons pe_str .nil))))))) pss_nil)))), ?_⟩
    cases o with
    | none =>
      obtain ⟨T, hT, hk⟩ := NoList.ty hv
      exact ⟨_, rfl, v, .ty "list", _, _, false, rfl, .ty _, hT, kit_ty hk, false, rfl, iteT (e rfl H (Kp.refl ht))⟩
    | some xs =>
      obtain ⟨p, rfl, hS, hw, hl⟩ := hv
      refine ⟨_, rfl, .ref p, .ty "list", _, _, true, rfl, .ty _, tyL hS, kit_ty (by decide +kernel), true, rfl, iteF ?_⟩
      refine ⟨_, rfl, p, _, rfl, hS, for_enum (xs := xs) (fun i σ' H' => Kp Ps H H' ∧ (xs.take i).all isW = true ∧ ∃ y1 y2, σ' = [some (.ref p), y1, y2]) ⟨Kp.refl ht, rfl, none, none, rfl⟩ (fun i σ' H' _ hp => hp.1.seq ht hS) (fun i x T σ' H' hx nT hp => ?_) (fun σ' H' hp => ?_)⟩
      · obtain ⟨k, hall, y1, y2, rfl⟩ := hp
        have hi : i < xs.length := (List.getElem?_eq_some_iff.mp hx).1
        have k2 : Kp Ps H (upd H' T (.tup [.int (i : Nat), x])) := k.trans (Kp.new k.1 nT)
        refine ⟨T, _, rfl, .inl (.inl upd_same), rfl, _, _, rfl, _, _, rfl, rfl, ?_⟩
        refine ⟨_, rfl, x, rfl, (hw x (List.mem_of_getElem? hx)).kp ht k2, k2.1, fun H3 k3 => ⟨_, rfl, ?_⟩⟩
        cases hb : isW x with
        | true => exact iteF ⟨k2.trans k3, by rw [take_all hx hall, hb], _, _, rfl⟩
        | false =>
          have hlog : ((i : Nat) : Int).natAbs.log2 < 1920 := log_small (by omega)
          have hnl := int_text_len_1921 hlog
          refine iteT ⟨_, rfl, small_line (by decide +kernel), _, rfl, .inr ⟨_, rfl, hlog, _, rfl, small_line ?_, _, rfl, small_line ?_, e (all_fail hx hb) H3 (k2.trans k3)⟩⟩
          · rw [Str.length_append, show (Str.empty ++ ("item " : Str)).length = 5 by decide +kernel]
            omega
          · rw [Str.length_append, Str.length_append, show (Str.empty ++ ("item " : Str)).length = 5 by decide +kernel, show (" of the list is no word" : Str).length = 23 by decide +kernel]
            omega
      · obtain ⟨k, hall, y1, y2, rfl⟩ := hp
        rw [List.take_of_length_le (Nat.le_refl _)] at hall
        exact q hall H' k
def spCheckLengthX (K : PySem.W.Frag) (cL : Addr) : Sp := fun vs H Q E => ∃ (p : Addr) (xs : List V), vs = [.ref p] ∧ SqL K H p xs ∧ xs.length ≤ 1000 ∧ (xs.length ≤ 120 → Q .non H) ∧ (¬ xs.length ≤ 120 → E (.ref cL) none H)
theorem ok_check_lengthX {cL f : Addr} {fd : FuncData} (F : FnP K "check_length" sCheckLength f fd) (X : ExcC K mg "TooLong" cL) (mL : mg "len" = none) {tM : Tok} (mM : mg "MOST" = some (.int 120 tM)) : FnOk P w K mg base (L2.CX P w) 1 f fd ["words"] (spCheckLengthX K cL) := by
  refine F.ok scCheckLength (fun vs H Q E h => ?_) (fun cdv A outer s H vs Q E hr h => ?_)
  · obtain ⟨p, xs, rfl, _⟩ := h
    rfl
  · obtain ⟨p, xs, rfl, hS, hl, q, e⟩ := h
    refine ⟨_, pss_one (ps_if (pt_cmpR op_gt (pe_callB call_len_seq (by rfl) mL PySem.boot_len (pa_cons (pv 0) pa_nil)) (pe_glob (v := .int 120) (by rfl) mM ⟨_, rfl⟩) (nomark _))
      (pss_one (ps_raise rfl (takes_of rfl rfl rfl rfl) (SkE.pmk_own1 PySem.F.excBase_ValueError X.ex X.g X.kp (raises_own X.be X.ty) (by rfl) (pe_joined (.cons pe_str (.cons (pe_fmt (pe_glob (v := .int 120) (by rfl) mM ⟨_, rfl⟩)) (.cons pe_str (.cons (pe_fmt (pe_callB call_len_seq (by rfl) mL PySem.boot_len (pa_cons (pv 0) pa_nil))) .nil)))))))) pss_nil), ?_⟩
    refine ⟨_, rfl, p, _, rfl, .inl hS, _, _, rfl, rfl, _, rfl, ?_⟩
    by_cases h : xs.length ≤ 120
    · have e1 : decide ((xs.length : Int) > 120) = false := decide_eq_false (by omega)
      show if decide ((xs.length : Int) > 120) = true then _ else _
      rw [e1]
      exact iteF (q h)
    · have e1 : decide ((xs.length : Int) > 120) = true := decide_eq_true (by omega)
      show if decide ((xs.length : Int) > 120) = true then _ else _
      rw [e1]
      have hlog : ((xs.length : Nat) : Int).natAbs.log2 < 1920 := log_small (by omega)
      have hnl := int_text_len_1921 hlog
      have e120 : (Str.ofString (toString (120 : Int))).length = 3 := by decide +kernel
      have e0 : (Str.empty ++ ("a text has at most " : Str)).length = 19 := by decide +kernel
      have e2 : (" words, not " : Str).length = 12 := by decide +kernel
      refine iteT ⟨_, rfl, small_line (by rw [e0]; decide), .inr ⟨_, rfl, by decide +kernel, _, rfl, small_line ?_, _, rfl, small_line ?_, _, rfl, p, _, rfl, .inl hS, .inr ⟨_, rfl, hlog, _, rfl, small_line ?_, e h⟩⟩⟩
      · rw [Str.length_append, e0, e120]
        decide
      · rw [Str.length_append, Str.length_append, e0, e120, e2]
        decide
      · rw [Str.length_append, Str.length_append, Str.length_append, e0, e120, e2]
        omega
def spCheckTextX (K : PySem.W.Frag) (Ps : List Addr) (cW cL : Addr) : Sp := fun vs H Q E => ∃ v o, vs = [v] ∧ TextV K H v o ∧ Tb Ps H ∧ (wordsB o = true → shortB o = true → ∀ H', Kp Ps H H' → Q .non H') ∧ (wordsB o = false → ∀ H', Kp Ps H H' → E (.ref cW) none H') ∧ (wordsB o = true → shortB o = false → ∀ H', Kp Ps H H' → E (.ref cL) none H')
theorem ok_check_textX {Ps : List Addr} {cW cL f fW fL : Addr} {fd fdW fdL : FuncData} (F : FnP K "check_text" sCheckText f fd) (GW : FnOk P w K mg base (L2.CX P w) 4 fW fdW ["words"] (spCheckWordsX K Ps cW)) (kW : PySem.W.keepIn K (.ref fW) = true) (bW : Binds K fdW ["words"] []) (gW : mg "check_words" = some (.ref fW))
    (GL : FnOk P w K mg base (L2.CX P w) 1 fL fdL ["words"] (spCheckLengthX K cL)) (kL : PySem.W.keepIn K (.ref fL) = true) (bL : Binds K fdL ["words"] []) (gL : mg "check_length" = some (.ref fL)) : FnOk P w K mg base (L2.CX P w) 5 f fd ["words"] (spCheckTextX K Ps cW cL) := by
  refine F.ok scCheckText (fun vs H Q E h => ?_) (fun cdv A outer s H vs Q E hr h => ?_)
  · obtain ⟨v, o, rfl, _⟩ := h
    rfl
  · obtain ⟨v, o, rfl, hv, ht, q, e1, e2⟩ := h
    refine ⟨_, pss_cons (ps_expr (pe_callS GW hr (by rfl) gW kW bW (fun σ => passAt (takes_of rfl rfl rfl rfl) σ) (pa_cons (pv 0) pa_nil))) (pss_one (ps_expr (pe_callS GL (hr.mono (by decide)) (by rfl) gL kL bL (fun σ => passAt (takes_of rfl rfl rfl rfl) σ) (pa_cons (pv 0) pa_nil)))), ?_⟩
    refine ⟨_, rfl, v, o, rfl, hv, ht, fun hb H1 k1 => ?_, fun hb H1 k1 => e1 hb H1 k1⟩
    cases o with
    | none => cases hb
    | some xs =>
      obtain ⟨p, rfl, hS, hw, hl⟩ := hv
      exact ⟨_, rfl, p, xs, rfl, k1.seq ht hS, hl, fun h => q hb (decide_eq_true h) H1 k1, fun h => e2 hb (decide_eq_false h) H1 k1⟩
end
/-! ### good texts, by what is known of any -/
def spCheckText (K : PySem.W.Frag) (Ps : List Addr) : Sp := fun vs H Q _ => ∃ (p : Addr) (ws : List Str), vs = [.ref p] ∧ SqL K H p (ws.map V.str) ∧ (∀ a ∈ ws, wordB a = true) ∧ ws.length ≤ 120 ∧ Tb Ps H ∧ ∀ H', Kp Ps H H' → Q .non H'
theorem textV_good {K : PySem.W.Frag} {H : Hp} {p : Addr} {ws : List Str} (hS : SqL K H p (ws.map V.str)) (hw : ∀ a ∈ ws, wordB a = true) (hl : ws.length ≤ 1000) : TextV K H (.ref p) (some (ws.map V.str)) := by
  refine ⟨p, rfl, hS, fun x hx => ?_, by rw [List.length_map]; exact hl⟩
  obtain ⟨a, ha, rfl⟩ := List.mem_map.mp hx
  have := wordB_len (hw a ha)
  exact .inl ⟨a, rfl, by omega⟩
theorem wordsB_good {ws : List Str} (hw : ∀ a ∈ ws, wordB a = true) : wordsB (some (ws.map V.str)) = true := by
  show (ws.map V.str).all isW = true
  rw [all_isW]
  exact List.all_eq_true.mpr hw
theorem check_text_good {P : Program} {w : World} {K : PySem.W.Frag} {mg : Str → Option Value} {base : Heap} {Ps : List Addr} {cW cL f : Addr} {fd : FuncData} {k : Nat} (G : FnOk P w K mg base (L2.CX P w) k f fd ["words"] (spCheckTextX K Ps cW cL)) : FnOk P w K mg base (L2.CX P w) k f fd ["words"] (spCheckText K Ps) :=
  G.imp fun vs H Q E ⟨p, ws, e, hS, hw, hl, ht, q⟩ => by
    refine ⟨.ref p, some (ws.map V.str), e, textV_good hS hw (by omega), ht, fun _ _ => q, fun z => ?_, fun _ z => ?_⟩
    · rw [wordsB_good hw] at z
      cases z
    · have z : decide ((ws.map V.str).length ≤ 120) = false := z
      rw [List.length_map, decide_eq_true hl] at z
      cases z
/-! ### rows whose words are tracked -/
def RowT (K : PySem.W.Frag) (H : Hp) (v : V) (r : RowD) : Prop := ∃ T W, v = .ref T ∧ SqT K H T [.str r.kind, .int r.num, .ref W] ∧ H W = some (.tup (r.ws.map V.str))
def RowsT (K : PySem.W.Frag) (H : Hp) (xs : List V) (rs : List RowD) : Prop := xs.length = rs.length ∧ ∀ (i : Nat) (v : V), xs[i]? = some v → ∃ r, rs[i]? = some r ∧ RowT K H v r
theorem RowT.at {K : PySem.W.Frag} {H : Hp} {v : V} {r : RowD} (h : RowT K H v r) : RowAt K H v r := let ⟨T, W, e, h1, h2⟩ := h; ⟨T, W, e, h1, .inl (.inl h2)⟩
theorem RowsT.at {K : PySem.W.Frag} {H : Hp} {xs : List V} {rs : List RowD} (h : RowsT K H xs rs) : RowsAt K H xs rs := ⟨h.1, fun i v e => let ⟨r, h1, h2⟩ := h.2 i v e; ⟨r, h1, h2.at⟩⟩
theorem RowT.same {K : PySem.W.Frag} {H H' : Hp} {v : V} {r : RowD} (s : Same H H') (h : RowT K H v r) : RowT K H' v r := let ⟨T, W, e, h1, h2⟩ := h; ⟨T, W, e, sameT s h1, s _ _ h2⟩
theorem RowsT.same {K : PySem.W.Frag} {H H' : Hp} {xs : List V} {rs : List RowD} (s : Same H H') (h : RowsT K H xs rs) : RowsT K H' xs rs := ⟨h.1, fun i v e => let ⟨r, h1, h2⟩ := h.2 i v e; ⟨r, h1, h2.same s⟩⟩
theorem RowT.kp {K : PySem.W.Frag} {Ps : List Addr} {H H' : Hp} {v : V} {r : RowD} (t : Tb Ps H) (k : Kp Ps H H') (h : RowT K H v r) : RowT K H' v r := let ⟨T, W, e, h1, h2⟩ := h; ⟨T, W, e, k.seqT t h1, k.at t h2 fun _ z => by cases z⟩
theorem RowsT.kp {K : PySem.W.Frag} {Ps : List Addr} {H H' : Hp} {xs : List V} {rs : List RowD} (t : Tb Ps H) (k : Kp Ps H H') (h : RowsT K H xs rs) : RowsT K H' xs rs := ⟨h.1, fun i v e => let ⟨r, h1, h2⟩ := h.2 i v e; ⟨r, h1, h2.kp t k⟩⟩
/-- a place that holds no tuple is written -/
theorem sqT_set {K : PySem.W.Frag} {H : Hp} {D T : Addr} {o : HO} {xs : List V} (hD : ∀ ys, ¬ Rd H D (.tup ys)) (h : SqT K H T xs) : SqT K (upd H D o) T xs := by
  rcases h with h | h
  · have ne : T ≠ D := fun z => hD _ (z ▸ h)
    refine .inl ?_
    rcases h with h | ⟨o2, h⟩
    · exact .inl (by rw [upd_ne ne]; exact h)
    · exact .inr ⟨o2, by rw [upd_ne ne]; exact h⟩
  · exact .inr h
theorem RowT.set {K : PySem.W.Frag} {H : Hp} {D : Addr} {o : HO} {v : V} {r : RowD} (hD : ∀ ys, ¬ Rd H D (.tup ys)) (h : RowT K H v r) : RowT K (upd H D o) v r := by
  obtain ⟨T, W, e, h1, h2⟩ := h
  refine ⟨T, W, e, sqT_set hD h1, ?_⟩
  rw [upd_ne fun z => hD _ (.inl (z ▸ h2))]
  exact h2
theorem RowsT.set {K : PySem.W.Frag} {H : Hp} {D : Addr} {o : HO} {xs : List V} {rs : List RowD} (hD : ∀ ys, ¬ Rd H D (.tup ys)) (h : RowsT K H xs rs) : RowsT K (upd H D o) xs rs :=
  ⟨h.1, fun i v e => let ⟨r, h1, h2⟩ := h.2 i v e; ⟨r, h1, h2.set hD⟩⟩
theorem RowsT.nil {K : PySem.W.Frag} {H : Hp} : RowsT K H [] [] := ⟨rfl, fun i v e => by cases e⟩
theorem RowsT.one {K : PySem.W.Frag} {H : Hp} {v : V} {r : RowD} (h : RowT K H v r) : RowsT K H [v] [r] := ⟨rfl, fun i v' e => by
  cases i with
  | zero => cases e; exact ⟨r, rfl, h⟩
  | succ i => cases e⟩
theorem RowsT.app {K : PySem.W.Frag} {H : Hp} {xs ys : List V} {rs ps : List RowD} (h : RowsT K H xs rs) (g : RowsT K H ys ps) : RowsT K H (xs ++ ys) (rs ++ ps) := by
  refine ⟨by rw [List.length_append, List.length_append, h.1, g.1], fun i v e => ?_⟩
  rcases Nat.lt_or_ge i xs.length with c | c
  · rw [List.getElem?_append_left c] at e
    obtain ⟨r, h1, h2⟩ := h.2 i v e
    exact ⟨r, by rw [List.getElem?_append_left (by rw [← h.1]; exact c)]; exact h1, h2⟩
  · rw [List.getElem?_append_right c] at e
    obtain ⟨r, h1, h2⟩ := g.2 _ v e
    exact ⟨r, by rw [List.getElem?_append_right (by rw [← h.1]; exact c), ← h.1]; exact h1, h2⟩
/-! ### the program's blocks: small defs -/
section
variable {P : Program} {w : World} {K : PySem.W.Frag} {mg : Str → Option Value} {base : Heap}
theorem scNoBlocks : FnScope ["rows", "at", "row"] ["rows"] (defScope sCheckNoBlocks) := ⟨rfl, rfl, rfl, by decide +kernel, rfl, by decide +kernel, by decide +kernel⟩
def spNoBlocks (K : PySem.W.Frag) (Ps : List Addr) (cR : Addr) : Sp := fun vs H Q E => ∃ (p : Addr) (xs : List V) (rs : List RowD), vs = [.ref p] ∧ SqL K H p xs ∧ RowsAt K H xs rs ∧ (∀ r ∈ rs, RowOk r ∧ r.ws.length ≤ 1000) ∧ rs.length ≤ 1000 ∧ Tb Ps H ∧
  ((∀ r ∈ rs, ¬ r.kind ∈ blockK) → ∀ H', Kp Ps H H' → Q .non H') ∧ ((∃ r ∈ rs, r.kind ∈ blockK) → ∀ H', Kp Ps H H' → E (.ref cR) none H')
theorem ok_no_blocks {Ps : List Addr} {aB cR f fC : Addr} {fd fdC : FuncData} (F : FnP K "check_no_blocks" sCheckNoBlocks f fd)
    (GC : FnOk P w K mg base (L2.CX P w) 7 fC fdC ["rows"] (spCheckRows K Ps)) (kC : PySem.W.keepIn K (.ref fC) = true) (bC : Binds K fdC ["rows"] []) (gC : mg "check_rows" = some (.ref fC))
    (X : ExcC K mg "NoRow" cR) (mE : mg "enumerate" = none) (mB : mg "BLOCK_KINDS" = some (.ref aB)) (kB : KTup K aB blockK) : FnOk P w K mg base (L2.CX P w) 8 f fd ["rows"] (spNoBlocks K Ps cR) := by
  refine F.ok scNoBlocks (fun vs H Q E h => ?_) (fun cdv A outer s H vs Q E hr h => ?_)
  · obtain ⟨p, xs, rs, rfl, _⟩ := h
    rfl
  · obtain ⟨p, xs, rs, rfl, hp, hR, hok, hl, ht, q, e⟩ := h
    refine ⟨_, pss_cons (ps_expr (pe_call GC hr (by rfl) gC kC bC .nil passL (pa_cons (pv 0) pa_nil)))
      (pss_one (ps_for (passes_of rfl) rfl (pi_enum (by rfl) mE (pa_cons (pv 0) pa_nil)) (pg_tup rfl (pgs_cons (pg_name (i := 1) scNoBlocks.nd rfl (.inl rfl)) (pgs_cons (pg_name (i := 2) scNoBlocks.nd rfl (.inl rfl)) pgs_nil)))
        (pss_one (ps_if (pt_cmpR op_in_seq (pe_ix ix_tup (pv 2) pe_int (fun _ _ => rfl)) (pe_glob (v := .ref aB) (by rfl) mB rfl) (by rfl))
          (pss_one (ps_raise rfl (takes_of rfl rfl rfl rfl) (SkE.pmk_own1 PySem.F.excBase_ValueError X.ex X.g X.kp (raises_own X.be X.ty) (by rfl) (pe_joined (.cons pe_str (.cons (pe_fmt (pv 1)) (.cons pe_str .nil))))))) pss_nil)))), ?_⟩
    refine ⟨_, rfl, p, xs, rs, rfl, hp, hR, fun r hr => (hok r hr).1, ht, fun H1 k1 => ?_⟩
    have hp1 := k1.seq ht hp
    have hlen := hR.1
    refine ⟨_, rfl, p, _, rfl, hp1, for_enum (xs := xs) (fun i σ' H' => Kp Ps H H' ∧ (∀ r ∈ rs.take i, ¬ r.kind ∈ blockK) ∧ ∃ y1 y2, σ' = [some (.ref p), y1, y2]) ⟨k1, (fun r hr => by rw [List.take_zero] at hr; cases hr), none, none, rfl⟩ (fun i σ' H' _ hp' => hp'.1.seq ht hp) (fun i x T σ' H' hx nT hp' => ?_) (fun σ' H' hp' => ?_)⟩
    · obtain ⟨k, hall, y1, y2, rfl⟩ := hp'
      have hi : i < xs.length := (List.getElem?_eq_some_iff.mp hx).1
      obtain ⟨r, hr1, hr2⟩ := hR.2 i x hx
      have k2 : Kp Ps H (upd H' T (.tup [.int (i : Nat), x])) := k.trans (Kp.new k.1 nT)
      obtain ⟨T2, W2, rfl, hT2, hW2⟩ := hr2.kp ht k2
      refine ⟨T, _, rfl, .inl (.inl upd_same), rfl, _, _, rfl, _, _, rfl, rfl, ?_⟩
      refine ⟨_, rfl, T2, _, _, _, rfl, rfl, hT2, at_of (j := 0) rfl rfl, aB, blockK.map V.str, rfl, .inr (kB _), rfl, flat_strs _, _, rfl, ?_⟩
      show if inV (.str r.kind) (blockK.map V.str) = true then _ else _
      rw [inV_strs]
      by_cases hb : r.kind ∈ blockK
      · rw [decide_eq_true hb]
        have hlog : ((i : Nat) : Int).natAbs.log2 < 1920 := log_small (by omega)
        have hnl := int_text_len_1921 hlog
        refine iteT ⟨_, rfl, small_line (by decide +kernel), _, rfl, .inr ⟨_, rfl, hlog, _, rfl, small_line ?_, _, rfl, small_line ?_, e ⟨r, List.mem_of_getElem? hr1, hb⟩ _ k2⟩⟩
        · rw [Str.length_append, show (Str.empty ++ ("row " : Str)).length = 4 by decide +kernel]
          omega
        · rw [Str.length_append, Str.length_append, show (Str.empty ++ ("row " : Str)).length = 4 by decide +kernel, show (" is part of a block already" : Str).length = 27 by decide +kernel]
          omega
      · rw [decide_eq_false hb]
        refine iteF ⟨k2, fun r' hr' => ?_, _, _, rfl⟩
        rw [take_snoc hr1] at hr'
        rcases List.mem_append.mp hr' with h | h
        · exact hall r' h
        · rw [List.mem_singleton.mp h]
          exact hb
    · obtain ⟨k, hall, y1, y2, rfl⟩ := hp'
      rw [List.take_of_length_le (by rw [hlen]; exact Nat.le_refl _)] at hall
      exact q hall H' k
end
/-! ### the places of runs -/
def plOf (k : Str) (L i : Nat) (r : RowD) : List (Nat × Nat) := if r.kind = k then (List.range (r.ws.length + 1 - L)).map fun b => (i, b) else []
def plD (k : Str) (L : Nat) (rs : List RowD) (n : Nat) : List (Nat × Nat) := (List.range n).flatMap fun i => match rs[i]? with
  | some r => plOf k L i r
  | none => []
def PairsAt (K : PySem.W.Frag) (H : Hp) (ys : List V) (ps : List (Nat × Nat)) : Prop := ys.length = ps.length ∧ ∀ (i : Nat) (v : V), ys[i]? = some v → ∃ p T, ps[i]? = some p ∧ v = .ref T ∧ SqT K H T [.int (p.1 : Int), .int (p.2 : Int)]
theorem PairsAt.same {K : PySem.W.Frag} {H H' : Hp} {ys : List V} {ps : List (Nat × Nat)} (s : Same H H') (h : PairsAt K H ys ps) : PairsAt K H' ys ps :=
  ⟨h.1, fun i v e => let ⟨p, T, h1, h2, h3⟩ := h.2 i v e; ⟨p, T, h1, h2, sameT s h3⟩⟩
theorem PairsAt.app {K : PySem.W.Frag} {H : Hp} {ys zs : List V} {ps qs : List (Nat × Nat)} (h : PairsAt K H ys ps) (g : PairsAt K H zs qs) : PairsAt K H (ys ++ zs) (ps ++ qs) := by
  refine ⟨by rw [List.length_append, List.length_append, h.1, g.1], fun i v e => ?_⟩
  rcases Nat.lt_or_ge i ys.length with c | c
  · rw [List.getElem?_append_left c] at e
    obtain ⟨p, T, h1, h2⟩ := h.2 i v e
    exact ⟨p, T, by rw [List.getElem?_append_left (by rw [← h.1]; exact c)]; exact h1, h2⟩
  · rw [List.getElem?_append_right c] at e
    obtain ⟨p, T, h1, h2⟩ := g.2 _ v e
    exact ⟨p, T, by rw [List.getElem?_append_right (by rw [← h.1]; exact c), ← h.1]; exact h1, h2⟩
theorem PairsAt.one {K : PySem.W.Frag} {H : Hp} {T : Addr} {a b : Nat} (h : SqT K H T [.int (a : Int), .int (b : Int)]) : PairsAt K H [.ref T] [(a, b)] :=
  ⟨rfl, fun i v e => by
    cases i with
    | zero => cases e; exact ⟨_, T, rfl, rfl, h⟩
    | succ i => cases e⟩
theorem PairsAt.set {K : PySem.W.Frag} {H : Hp} {D : Addr} {o : HO} {ys : List V} {ps : List (Nat × Nat)} (hD : ∀ xs, ¬ Rd H D (.tup xs)) (h : PairsAt K H ys ps) : PairsAt K (upd H D o) ys ps :=
  ⟨h.1, fun i v e => by
    obtain ⟨p, T, h1, h2, h3⟩ := h.2 i v e
    refine ⟨p, T, h1, h2, ?_⟩
    rcases h3 with h3 | h3
    · have ne : T ≠ D := fun z => hD _ (z ▸ h3)
      refine .inl ?_
      rcases h3 with h3 | ⟨o2, h3⟩
      · exact .inl (by rw [upd_ne ne]; exact h3)
      · exact .inr ⟨o2, by rw [upd_ne ne]; exact h3⟩
    · exact .inr h3⟩
theorem plOf_len {k : Str} {L i : Nat} {r : RowD} : (plOf k L i r).length ≤ r.ws.length + 1 := by
  unfold plOf
  split
  · rw [List.length_map, List.length_range]
    omega
  · exact Nat.zero_le _
theorem plD_succ {k : Str} {L : Nat} {rs : List RowD} {n : Nat} {r : RowD} (h : rs[n]? = some r) : plD k L rs (n + 1) = plD k L rs n ++ plOf k L n r := by
  unfold plD
  rw [List.range_succ, List.flatMap_append]
  simp [h]
section
variable {P : Program} {w : World} {K : PySem.W.Frag} {mg : Str → Option Value} {base : Heap}
abbrev placesN : List Str := ["rows", "kind", "length", "places", "at", "row_kind", "_", "words", "begin"]
theorem scPlaces : FnScope placesN ["rows", "kind", "length"] (defScope sPlacesIn) := ⟨rfl, rfl, rfl, by decide +kernel, rfl, by decide +kernel, by decide +kernel⟩
def spPlaces (K : PySem.W.Frag) : Sp := fun vs H Q _ => ∃ (p : Addr) (xs : List V) (rs : List RowD) (k : Str) (L : Nat), vs = [.ref p, .str k, .int (L : Int)] ∧ SqL K H p xs ∧ RowsAt K H xs rs ∧ (∀ r ∈ rs, r.ws.length ≤ 1000) ∧ rs.length ≤ 1000 ∧ 1 ≤ L ∧ L ≤ 5000 ∧
  ∀ (H' : Hp) (D : Addr) (ys : List V), Same H H' → H D = none → H' D = some (.lst ys) → PairsAt K H' ys (plD k L rs rs.length) → Q (.ref D) H'
theorem ok_places {f : Addr} {fd : FuncData} (F : FnP K "places_in" sPlacesIn f fd) (mE : mg "enumerate" = none) (mR : mg "range" = none) (mL : mg "len" = none) : FnOk P w K mg base (L2.CX P w) 1 f fd ["rows", "kind", "length"] (spPlaces K) := by
  refine F.ok scPlaces (fun vs H Q E h => ?_) (fun cdv A outer s H vs Q E hr h => ?_)
  · obtain ⟨p, xs, rs, k, L, rfl, _⟩ := h
    rfl
  · obtain ⟨p, xs, rs, k, L, rfl, hp, hR, hw, hl, hL, hL2, q⟩ := h
    refine ⟨_, pss_cons (ps_set (i := 3) scPlaces.nd rfl (.inl rfl) (pe_lst pa_nil))
      (pss_cons (ps_for (passes_of rfl) rfl (pi_enum (by rfl) mE (pa_cons (pv 0) pa_nil)) (pg_tup rfl (pgs_cons (pg_name (i := 4) scPlaces.nd rfl (.inr rfl)) (pgs_cons (pg_tup rfl (pgs_cons (pg_name (i := 5) scPlaces.nd rfl (.inl rfl)) (pgs_cons (pg_name (i := 6) scPlaces.nd rfl (.inl rfl)) (pgs_cons (pg_name (i := 7) scPlaces.nd rfl (.inl rfl)) pgs_nil)))) pgs_nil)))
        (pss_one (ps_if (pt_cmpR op_eq (pv 5) (pv 1) (nomark _))
          (pss_one (ps_expr (pe_bm PySem.F.plainAttrs_list PySem.F.slot_list_extend PySem.F.type_list_extend mt_extend (pv 3) (pa_cons (pe_lc (own := [("begin", 8)]) (g := gName 8) (tt := tYes) rfl scPlaces.nd (pi_range1 (by rfl) mR (pa_cons (pe_op op_add (pe_op op_sub (pe_callB call_len_seq (by rfl) mL PySem.boot_len (pa_cons (pv 7) pa_nil)) (pv 2)) pe_int) pa_nil)) (blkOk_by (N := placesN) (sc := defScope sPlacesIn) (by decide +kernel))
            (fun _ _ _ _ _ => pg_name (i := 8) scPlaces.nd rfl (Or.inl rfl)) (fun _ _ _ _ _ => pts_nil) (fun _ _ _ _ _ => pe_tup (pa_cons (pv 4) (pa_cons (pv 8) pa_nil)))) pa_nil)))) pss_nil)))
      (pss_one (ps_ret (pv 3)))), ?_⟩
    refine ⟨by show 0 ≤ sizeLine; decide, fun D nD => ?_⟩
    have s0 : Same H (upd H D (.lst [])) := same_upd nD
    refine ⟨_, rfl, p, _, rfl, s0.seq hp, for_enum (xs := xs) (fun i σ' H' => Same H H' ∧ ∃ ys y4 y5 y6 y7, σ' = [some (.ref p), some (.str k), some (.int (L : Int)), some (.ref D), y4, y5, y6, y7, none] ∧ H' D = some (.lst ys) ∧ ys.length ≤ 1001 * i ∧ PairsAt K H' ys (plD k L rs i)) ⟨s0, [], none, none, none, none, rfl, upd_same, Nat.zero_le _, rfl, fun i v e => by cases e⟩ (fun i σ' H' _ hp' => hp'.1.seq hp) (fun i x T σ' H' hx nT hp' => ?_) (fun σ' H' hp' => ?_)⟩
    · obtain ⟨sm, ys, y4, y5, y6, y7, rfl, hD, hy, hP⟩ := hp'
      obtain ⟨r, hr1, hr2⟩ := hR.2 i x hx
      have hi : i < xs.length := (List.getElem?_eq_some_iff.mp hx).1
      have hwr := hw r (List.mem_of_getElem? hr1)
      have sT : Same H' (upd H' T (.tup [.int (i : Nat), x])) := same_upd nT
      obtain ⟨T2, W2, rfl, hT2, hW2⟩ := hr2.same (sm.trans sT)
      refine ⟨T, _, rfl, .inl (.inl upd_same), rfl, _, _, rfl, _, _, rfl, ?_⟩
      have hDT := sT _ _ hD
      have hPT := hP.same sT
      have smT := sm.trans sT
      have e1 := plD_succ (k := k) (L := L) hr1
      generalize upd H' T (.tup [.int (i : Nat), .ref T2]) = HT at sT hT2 hW2 hDT hPT smT ⊢
      refine ⟨T2, _, rfl, hT2, rfl, _, _, rfl, _, _, rfl, _, _, rfl, rfl, rfl, ?_⟩
      refine ⟨_, rfl, _, rfl, rfl, _, rfl, ite2 (fun e => ?_) (fun e => ?_)⟩
      · have ek : r.kind = k := V.str.inj (of_decide_eq_true e)
        have eo : plOf k L i r = (List.range (r.ws.length + 1 - L)).map fun b => (i, b) := if_pos ek
        refine ⟨_, rfl, .inl ⟨rfl, _, .inl (.inl hDT)⟩, _, rfl, W2, _, rfl, .inr hW2, _, rfl, _, _, rfl, rfl, _, _, rfl, rfl, _, rfl, ?_, ?_, fun B nB => ?_⟩
        · rw [List.length_map]
          omega
        · rw [List.length_map]
          omega
        have en : ((((r.ws.map V.str).length : Nat) : Int) - (L : Int) + 1).toNat = r.ws.length + 1 - L := by
          rw [List.length_map]
          omega
        refine lc_range (lo := 0) (n := ((((r.ws.map V.str).length : Nat) : Int) - (L : Int) + 1).toNat) (fun t H3 => Same HT H3 ∧ ∃ zs, H3 B = some (.lst zs) ∧ PairsAt K H3 zs ((List.range t).map fun b => (i, b))) ⟨same_upd nB, [], upd_same, rfl, fun i v e => by cases e⟩ (fun t H3 ht hp3 => ?_) (fun H3 hp3 => ?_)
        · obtain ⟨s3, zs, hB, hZ⟩ := hp3
          rw [en] at ht
          refine ⟨rfl, yesT ⟨_, rfl, _, rfl, by show 2 ≤ sizeLine; decide, fun T3 nT3 => ?_⟩⟩
          have s4 : Same H3 (upd H3 T3 (.tup [.int (i : Int), .int (0 + (t : Int))])) := same_upd nT3
          have h3 : SqT K (upd H3 T3 (.tup [.int (i : Int), .int (0 + (t : Int))])) T3 [.int (i : Int), .int (t : Int)] := by
            refine .inl (.inl ?_)
            rw [upd_same, show (0 + (t : Int)) = (t : Int) by omega]
          have hB4 := s4 _ _ hB
          have hzl := hZ.1
          rw [List.length_map, List.length_range] at hzl
          generalize upd H3 T3 (.tup [.int (i : Int), .int (0 + (t : Int))]) = H4 at s4 h3 hB4 ⊢
          have hZ4 := (hZ.same s4).app (PairsAt.one h3)
          refine ⟨_, hB4, ?_, same_set (s3.trans s4) nB, zs ++ [.ref T3], upd_same, ?_⟩
          · exact Nat.lt_of_le_of_lt (show zs.length ≤ 1000 by omega) (by decide)
          · rw [List.range_succ, List.map_append]
            exact PairsAt.set (noTup hB4) hZ4
        · obtain ⟨s3, zs, hB, hZ⟩ := hp3
          rw [en, ← eo] at hZ
          have hzl := hZ.1
          have hol := plOf_len (k := k) (L := L) (i := i) (r := r)
          have hD3 := s3 _ _ hDT
          refine ⟨D, B, ys, zs, rfl, rfl, hD3, hB, ?_, same_set (smT.trans s3) nD, ys ++ zs, some (.int (i : Int)), some (.str r.kind), some (.int r.num), some (.ref W2), rfl, upd_same, ?_, ?_⟩
          · have hRl := hR.1
            exact Nat.le_trans (show ys.length + zs.length ≤ 2000000 by omega) (by decide)
          · rw [List.length_append]
            omega
          · rw [e1]
            exact PairsAt.set (noTup hD3) ((hPT.same s3).app hZ)
      · have ek : ¬ r.kind = k := fun z => e (decide_eq_true (congrArg V.str z))
        have eo : plOf k L i r = [] := if_neg ek
        rw [eo, List.append_nil] at e1
        refine ⟨smT, ys, some (.int (i : Int)), some (.str r.kind), some (.int r.num), some (.ref W2), rfl, hDT, by omega, ?_⟩
        rw [e1]
        exact hPT
    · obtain ⟨sm, ys, y4, y5, y6, y7, rfl, hD, hy, hP⟩ := hp'
      rw [hR.1] at hP
      exact ⟨_, rfl, q H' D ys sm nD hD hP⟩
end
/-! ### the run at a place -/
theorem cut_runs (xs : List V) (a b : Nat) (h : a + b ≤ xs.length) : cutV xs (some (a : Int)) (some ((a + b : Nat) : Int)) = (xs.drop a).take b := by
  unfold cutV
  rw [HT.sIx_nat, HT.sIx_nat, Nat.min_eq_left h, Nat.min_eq_left (show a ≤ xs.length by omega), Nat.add_sub_cancel_left]
section
variable {P : Program} {w : World} {K : PySem.W.Frag} {mg : Str → Option Value} {base : Heap}
theorem scRunAt : FnScope ["rows", "place", "length", "at", "begin", "words"] ["rows", "place", "length"] (defScope sRunAt) := ⟨rfl, rfl, rfl, by decide +kernel, rfl, by decide +kernel, by decide +kernel⟩
def spRunAt (K : PySem.W.Frag) : Sp := fun vs H Q _ => ∃ (p T : Addr) (xs : List V) (rs : List RowD) (a b L : Nat) (r : RowD), vs = [.ref p, .ref T, .int (L : Int)] ∧ SqL K H p xs ∧ RowsT K H xs rs ∧ SqT K H T [.int (a : Int), .int (b : Int)] ∧ rs[a]? = some r ∧ b + L ≤ r.ws.length ∧
  ∀ (H' : Hp) (W : Addr), Same H H' → H' W = some (.tup (((r.ws.drop b).take L).map V.str)) → Q (.ref W) H'
theorem ok_run_at {f : Addr} {fd : FuncData} (F : FnP K "run_at" sRunAt f fd) : FnOk P w K mg base (L2.CX P w) 1 f fd ["rows", "place", "length"] (spRunAt K) := by
  refine F.ok scRunAt (fun vs H Q E h => ?_) (fun cdv A outer s H vs Q E hr h => ?_)
  · obtain ⟨p, T, xs, rs, a, b, L, r, rfl, _⟩ := h
    rfl
  · obtain ⟨p, T, xs, rs, a, b, L, r, rfl, hp, hR, hT, ha, hb, q⟩ := h
    refine ⟨_, pss_cons (ps_asg (pv 1) (pg_tup (by rfl) (pgs_cons (pg_name (i := 3) scRunAt.nd rfl (.inl rfl)) (pgs_cons (pg_name (i := 4) scRunAt.nd rfl (.inl rfl)) pgs_nil))))
      (pss_cons (ps_set (i := 5) scRunAt.nd rfl (.inl rfl) (pe_ix ix_tup (pe_ix ix_list (pv 0) (pv 3) (fun _ _ => rfl)) pe_int (fun _ _ => rfl)))
      (pss_one (ps_ret (pe_slice sl_tupA (pv 5) (po_some (pv 4)) (po_some (pe_op op_add (pv 4) (pv 2))))))), ?_⟩
    have hax : a < xs.length := by
      rw [hR.1]
      exact (List.getElem?_eq_some_iff.mp ha).1
    have hx := List.getElem?_eq_getElem hax
    obtain ⟨r', h1, T2, W2, e2, hT2, hW2⟩ := hR.2 a _ hx
    have er : r' = r := Option.some.inj (h1.symm.trans ha)
    subst er
    rw [e2] at hx
    refine ⟨_, rfl, T, _, rfl, hT, rfl, _, _, rfl, _, _, rfl, rfl, ?_⟩
    refine ⟨_, rfl, _, rfl, p, _, _, _, rfl, rfl, hp, atI_nat hx, T2, _, _, _, rfl, rfl, hT2, at_of (j := 2) rfl rfl, ?_⟩
    refine ⟨_, rfl, _, rfl, _, rfl, _, rfl, _, rfl, _, _, rfl, rfl, _, rfl, W2, _, rfl, .inl (.inl hW2), fun hw => ?_, fun hw V0 nV => ?_⟩
    · rw [show ((b : Int) + (L : Int)) = ((b + L : Nat) : Int) by omega, HT.sIx_nat, HT.sIx_nat, List.length_map] at hw
      have e0 : b = 0 ∨ r'.ws.length = 0 := by omega
      have e3 : (r'.ws.drop b).take L = r'.ws := by
        rcases e0 with e0 | e0
        · subst e0
          rw [List.drop_zero, List.take_of_length_le (by omega)]
        · have e4 := List.length_eq_zero_iff.mp e0
          rw [e4]
          simp
      exact q _ W2 (Same.refl _) (by rw [e3]; exact hW2)
    · refine q _ V0 (same_upd nV) ?_
      rw [upd_same, show ((b : Int) + (L : Int)) = ((b + L : Nat) : Int) by omega, cut_runs _ _ _ (by rw [List.length_map]; exact hb), List.map_take, List.map_drop]
end
/-! ### the places that are used -/
abbrev plK (a b : Nat) : List L2.Key := [.inl (a : Int), .inl (b : Int)]
abbrev UsedD := List (List L2.Key × V)
def usedB (kvs : UsedD) (a b : Nat) : Bool := (valV kvs (plK a b)).isSome
section
variable {P : Program} {w : World} {K : PySem.W.Frag} {mg : Str → Option Value} {base : Heap}
theorem scIsFree : FnScope ["used", "place", "length", "at", "begin"] ["used", "place", "length"] (defScope sIsFree) := ⟨rfl, rfl, rfl, by decide +kernel, rfl, by decide +kernel, by decide +kernel⟩
def spIsFree (K : PySem.W.Frag) : Sp := fun vs H Q _ => ∃ (d T : Addr) (kvs : UsedD) (a b L : Nat), vs = [.ref d, .ref T, .int (L : Int)] ∧ H d = some (.dT kvs) ∧ SqT K H T [.int (a : Int), .int (b : Int)] ∧ 1 ≤ L ∧ ∀ H', Same H H' → Q (.bl (!usedB kvs a b && !usedB kvs a (b + L - 1))) H'
theorem ok_is_free {f : Addr} {fd : FuncData} (F : FnP K "is_free" sIsFree f fd) : FnOk P w K mg base (L2.CX P w) 1 f fd ["used", "place", "length"] (spIsFree K) := by
  refine F.ok scIsFree (fun vs H Q E h => ?_) (fun cdv A outer s H vs Q E hr h => ?_)
  · obtain ⟨d, T, kvs, a, b, L, rfl, _⟩ := h
    rfl
  · obtain ⟨d, T, kvs, a, b, L, rfl, hd, hT, hL, q⟩ := h
    refine ⟨_, pss_cons (ps_asg (pv 1) (pg_tup (by rfl) (pgs_cons (pg_name (i := 3) scIsFree.nd rfl (.inl rfl)) (pgs_cons (pg_name (i := 4) scIsFree.nd rfl (.inl rfl)) pgs_nil))))
      (pss_one (ps_ret (pe_and (pe_cmp (pc_dnotin (hu_of hr) (pe_tup (pa_cons (pv 3) (pa_cons (pv 4) pa_nil))) (pv 0)) (by rfl))
        (pe_one (pe_cmp (pc_dnotin (hu_of hr) (pe_tup (pa_cons (pv 3) (pa_cons (pe_op op_sub (pe_op op_add (pv 4) (pv 2)) pe_int) pa_nil))) (pv 0)) (by rfl)))))), ?_⟩
    refine ⟨_, rfl, T, _, rfl, hT, rfl, _, _, rfl, _, _, rfl, rfl, ?_⟩
    refine ⟨_, rfl, _, rfl, by show 2 ≤ sizeLine; decide, fun T1 n1 => ?_⟩
    have s1 : Same H (upd H T1 (.tup ((plK a b).map kV))) := same_upd n1
    refine ⟨_, rfl, d, _, rfl, DGet.t (s1 _ _ hd) (k := plK a b) upd_same, _, rfl, ?_⟩
    have e1 : usedB kvs a b = (valV kvs (plK a b)).isSome := rfl
    rw [← e1]
    cases h1 : usedB kvs a b with
    | true =>
      rw [h1] at q
      exact iteF (q _ s1)
    | false =>
      rw [h1] at q
      refine iteT ⟨_, rfl, _, rfl, _, rfl, _, _, rfl, rfl, _, _, rfl, rfl, by show 2 ≤ sizeLine; decide, fun T2 n2 => ?_⟩
      have ek : (b : Int) + (L : Int) - 1 = ((b + L - 1 : Nat) : Int) := by omega
      dsimp only
      rw [ek]
      have s2 := s1.trans (same_upd n2 (o := .tup ((plK a (b + L - 1)).map kV)))
      exact ⟨_, rfl, d, _, rfl, DGet.t (s2 _ _ hd) (k := plK a (b + L - 1)) upd_same, q _ s2⟩
end
def useD (kvs : UsedD) (a b : Nat) : Nat → UsedD
  | 0 => kvs
  | n + 1 => putK (useD kvs a b n) (plK a (b + n)) (.bl true)
theorem useD_len (kvs : UsedD) (a b : Nat) : ∀ n, (useD kvs a b n).length ≤ kvs.length + n
  | 0 => Nat.le_refl _
  | n + 1 => by
    have h1 := useD_len kvs a b n
    have h2 := length_putK (useD kvs a b n) (plK a (b + n)) (.bl true)
    unfold useD
    omega
/-- the same but at d -/
def SameB (d : Addr) (H H' : Hp) : Prop := ∀ c o, c ≠ d → H c = some o → H' c = some o
section
variable {P : Program} {w : World} {K : PySem.W.Frag} {mg : Str → Option Value} {base : Heap}
theorem scUse : FnScope ["used", "place", "length", "at", "begin", "k"] ["used", "place", "length"] (defScope sUse) := ⟨rfl, rfl, rfl, by decide +kernel, rfl, by decide +kernel, by decide +kernel⟩
def spUse (K : PySem.W.Frag) : Sp := fun vs H Q _ => ∃ (d T : Addr) (kvs : UsedD) (a b L : Nat), vs = [.ref d, .ref T, .int (L : Int)] ∧ H d = some (.dT kvs) ∧ SqT K H T [.int (a : Int), .int (b : Int)] ∧ kvs.length + L ≤ 10000000 ∧ b + L ≤ 10000000 ∧ ∀ H', SameB d H H' → H' d = some (.dT (useD kvs a b L)) → Q .non H'
theorem ok_use {f : Addr} {fd : FuncData} (F : FnP K "use" sUse f fd) (mR : mg "range" = none) : FnOk P w K mg base (L2.CX P w) 1 f fd ["used", "place", "length"] (spUse K) := by
  refine F.ok scUse (fun vs H Q E h => ?_) (fun cdv A outer s H vs Q E hr h => ?_)
  · obtain ⟨d, T, kvs, a, b, L, rfl, _⟩ := h
    rfl
  · obtain ⟨d, T, kvs, a, b, L, rfl, hd, hT, hl, hb, q⟩ := h
    refine ⟨_, pss_cons (ps_asg (pv 1) (pg_tup (by rfl) (pgs_cons (pg_name (i := 3) scUse.nd rfl (.inl rfl)) (pgs_cons (pg_name (i := 4) scUse.nd rfl (.inl rfl)) pgs_nil))))
      (pss_one (ps_for (passes_of rfl) rfl (pi_range2 (by rfl) mR (pa_cons (pv 4) (pa_cons (pe_op op_add (pv 4) (pv 2)) pa_nil))) (pg_name (i := 5) scUse.nd rfl (.inl rfl))
        (pss_one (ps_dput (hu_of hr) (pv 0) (pe_tup (pa_cons (pv 3) (pa_cons (pv 5) pa_nil))) pe_bl (by rfl))))), ?_⟩
    refine ⟨_, rfl, T, _, rfl, hT, rfl, _, _, rfl, _, _, rfl, rfl, ?_⟩
    refine ⟨_, rfl, _, rfl, _, rfl, _, _, rfl, rfl, _, _, rfl, ⟨by omega, by omega, by omega, by omega⟩, for_range (lo := (b : Int)) (n := ((b : Int) + (L : Int) - (b : Int)).toNat) (fun i σ' H' => SameB d H H' ∧ H' d = some (.dT (useD kvs a b i)) ∧ ∃ y, σ' = [some (.ref d), some (.ref T), some (.int (L : Int)), some (.int (a : Int)), some (.int (b : Int)), y]) ⟨fun c o _ e => e, hd, none, rfl⟩ (fun i σ' H' hi hp => ?_) (fun σ' H' hp => ?_)⟩
    · obtain ⟨sm, hd', y, rfl⟩ := hp
      refine ⟨_, rfl, _, rfl, _, rfl, by show 2 ≤ sizeLine; decide, fun T1 n1 => ?_⟩
      have s1 : Same H' (upd H' T1 (.tup [.int (a : Int), .int ((b : Int) + (i : Int))])) := same_upd n1
      have hT1 : (upd H' T1 (.tup [.int (a : Int), .int ((b : Int) + (i : Int))])) T1 = some (.tup ((plK a (b + i)).map kV)) := by
        rw [upd_same]
        rfl
      have hl2 := useD_len kvs a b i
      generalize upd H' T1 (.tup [.int (a : Int), .int ((b : Int) + (i : Int))]) = H1 at s1 hT1 ⊢
      refine ⟨d, _, rfl, DPut.t (s1 _ _ hd') hT1 (Nat.lt_of_le_of_lt (show (useD kvs a b i).length ≤ 10000000 by omega) (by decide)), fun c o hc e => ?_, upd_same, _, rfl⟩
      rw [upd_ne hc]
      exact s1 _ _ (sm c o hc e)
    · obtain ⟨sm, hd', y, rfl⟩ := hp
      rw [show ((b : Int) + (L : Int) - (b : Int)).toNat = L by omega] at hd'
      exact q H' sm hd'
end
/-! ### is there a run of a length both cut and put -/
def runD (rs : List RowD) (L : Nat) (p : Nat × Nat) : List Str := match rs[p.1]? with
  | some r => (r.ws.drop p.2).take L
  | none => []
theorem runD_at {rs : List RowD} {L a b : Nat} {r : RowD} (h : rs[a]? = some r) : runD rs L (a, b) = (r.ws.drop b).take L := by
  unfold runD
  dsimp only
  rw [h]
def hasD (rs : List RowD) (L : Nat) : Bool := (plD "cut" L rs rs.length).any fun c => (plD "put" L rs rs.length).any fun p => decide (runD rs L p = runD rs L c)
/-- a text as a key of a dict or set of tuples -/
def txK (l : List Str) : Sx.Ky := l.map Sum.inr
theorem txK_V (l : List Str) : (txK l).map kV = l.map V.str := by
  unfold txK
  rw [List.map_map]
  rfl
theorem txK_inj {l m : List Str} (h : txK l = txK m) : l = m := by
  unfold txK at h
  exact List.map_inj_right (fun a b e => Sum.inr.inj e) |>.1 h
theorem mem_plD {k : Str} {L : Nat} {rs : List RowD} {a b : Nat} : (a, b) ∈ plD k L rs rs.length ↔ ∃ r, rs[a]? = some r ∧ r.kind = k ∧ b + L ≤ r.ws.length := by
  unfold plD plOf
  simp only [List.mem_flatMap, List.mem_range]
  constructor
  · rintro ⟨i, hi, h⟩
    rw [List.getElem?_eq_getElem hi] at h
    dsimp only at h
    split at h
    · obtain ⟨b', hb, e⟩ := List.mem_map.mp h
      cases e
      have := List.mem_range.mp hb
      exact ⟨_, List.getElem?_eq_getElem hi, by assumption, by omega⟩
    · cases h
  · rintro ⟨r, hr, hk, hb⟩
    refine ⟨a, (List.getElem?_eq_some_iff.mp hr).1, ?_⟩
    rw [hr]
    dsimp only
    rw [if_pos hk]
    exact List.mem_map.mpr ⟨b, List.mem_range.mpr (by omega), rfl⟩
theorem noTupX {P : Program} {w : World} {H : Hp} {D : Addr} {M : Sx.Mem} (h : H D = some (Sx.SetO P w D M)) : ∀ ys, ¬ Rd H D (.tup ys) := by
  unfold Sx.SetO at h
  rintro ys (z | ⟨o, z⟩)
  · rw [h] at z
    cases z
  · rw [h] at z
    cases z
theorem put_len {M M' : Sx.Mem} {T : Addr} {k : Sx.Ky} (h : Sx.Put M T k M') : M'.length ≤ M.length + 1 := by
  rcases h with ⟨_, e⟩ | ⟨_, e⟩
  · rw [e]
    exact Nat.le_succ _
  · rw [e.length_eq]
    exact Nat.le_refl _
theorem put_mem {M M' : Sx.Mem} {T : Addr} {k j : Sx.Ky} (h : Sx.Put M T k M') : j ∈ Sx.ksOf M' ↔ j = k ∨ j ∈ Sx.ksOf M := by
  rcases h with ⟨m, e⟩ | ⟨_, e⟩
  · rw [e]
    exact ⟨.inr, fun z => z.elim (fun z => z ▸ m) id⟩
  · have q := (e.map fun p => p.2).mem_iff (a := j)
    exact q.trans (by simp)
theorem put_all {K : PySem.W.Frag} {H : Hp} {M M' : Sx.Mem} {T : Addr} {k : Sx.Ky} (h : Sx.Put M T k M') (hM : Sx.MemT K H M) (hT : SqT K H T (k.map kV)) : Sx.MemT K H M' := by
  rcases h with ⟨m, e⟩ | ⟨_, e⟩
  · rw [e]
    exact hM
  · intro p hp
    rcases List.mem_cons.mp (e.mem_iff.mp hp) with z | z
    · rw [z]
      exact hT
    · exact hM p z
theorem PairsAt.get {K : PySem.W.Frag} {H : Hp} {ys : List V} {ps : List (Nat × Nat)} (h : PairsAt K H ys ps) {i : Nat} {v : V} (e : ys[i]? = some v) : ∃ a b T, ps[i]? = some (a, b) ∧ v = .ref T ∧ SqT K H T [.int (a : Int), .int (b : Int)] := by
  obtain ⟨⟨a, b⟩, T, h1, h2, h3⟩ := h.2 i v e
  exact ⟨a, b, T, h1, h2, h3⟩
section
variable {P : Program} {w : World} {K : PySem.W.Frag} {mg : Str → Option Value} {base : Heap}
theorem scHasRun : FnScope ["rows", "length", "place", "put_runs"] ["rows", "length"] (defScope sHasRun) := ⟨rfl, rfl, rfl, by decide +kernel, rfl, by decide +kernel, by decide +kernel⟩
/-- rows that are small -/
def Small (rs : List RowD) : Prop := (∀ r ∈ rs, r.ws.length ≤ 1000) ∧ rs.length ≤ 1000
def spHasRun (K : PySem.W.Frag) : Sp := fun vs H Q _ => ∃ (p : Addr) (xs : List V) (rs : List RowD) (L : Nat), vs = [.ref p, .int (L : Int)] ∧ SqL K H p xs ∧ RowsT K H xs rs ∧ Small rs ∧ (plD "put" L rs rs.length).length ≤ 299 ∧ 1 ≤ L ∧ L ≤ 5000 ∧
  ∀ H', Same H H' → Q (.bl (hasD rs L)) H'
theorem ok_has_run {f fP fR : Addr} {fd fdP fdR : FuncData} (F : FnP K "has_run" sHasRun f fd)
    (GP : FnOk P w K mg base (L2.CX P w) 1 fP fdP ["rows", "kind", "length"] (spPlaces K)) (kP : PySem.W.keepIn K (.ref fP) = true) (bP : Binds K fdP ["rows", "kind", "length"] []) (gP : mg "places_in" = some (.ref fP))
    (GR : FnOk P w K mg base (L2.CX P w) 1 fR fdR ["rows", "place", "length"] (spRunAt K)) (kR : PySem.W.keepIn K (.ref fR) = true) (bR : Binds K fdR ["rows", "place", "length"] []) (gR : mg "run_at" = some (.ref fR)) :
    FnOk P w K mg base (L2.CX P w) 2 f fd ["rows", "length"] (spHasRun K) := by
  refine F.ok scHasRun (fun vs H Q E h => ?_) (fun cdv A outer s H vs Q E hr h => ?_)
  · obtain ⟨p, xs, rs, L, rfl, _⟩ := h
    rfl
  · obtain ⟨p, xs, rs, L, rfl, hp, hR, hs, few, hL, hL2, q⟩ := h
    refine ⟨_, pss_cons (Sx.ps_setX (i := 3) (own := [("place", 2)]) (g := gName 2) (tt := tYes) hr.units rfl scHasRun.nd rfl rfl (Sx.sw_set rfl rfl rfl (by decide +kernel))
        (pi_list (pe_call GP hr (by rfl) gP kP bP .nil passL (pa_cons (pv 0) (pa_cons pe_str (pa_cons (pv 1) pa_nil))))) (blkOk_by (N := ["rows", "length", "place", "put_runs"]) (sc := defScope sHasRun) (by decide +kernel))
        (fun _ _ _ _ _ => pg_name (i := 2) scHasRun.nd rfl (Or.inl rfl)) (fun _ _ _ _ _ => pts_nil) (fun _ _ _ _ _ => pe_call GR hr (by rfl) gR kR bR .nil passL (pa_cons (pv 0) (pa_cons (pv 2) (pa_cons (pv 1) pa_nil)))))
      (pss_cons (ps_for (passes_of rfl) rfl (pi_list (pe_call GP hr (by rfl) gP kP bP .nil passL (pa_cons (pv 0) (pa_cons pe_str (pa_cons (pv 1) pa_nil))))) (pg_name (i := 2) scHasRun.nd rfl (.inl rfl))
        (pss_one (ps_if (pt_cmpR (Sx.op_inX hr.units) (pe_call GR hr (by rfl) gR kR bR .nil passL (pa_cons (pv 0) (pa_cons (pv 2) (pa_cons (pv 1) pa_nil)))) (pv 3) (by rfl)) (pss_one (ps_ret pe_bl)) pss_nil)))
      (pss_one (ps_ret pe_bl))), ?_⟩
    refine ⟨_, rfl, _, rfl, p, xs, rs, "put", L, rfl, hp, hR.at, hs.1, hs.2, hL, hL2, fun H1 D1 ys s1 n1 hD1 hP1 => ?_⟩
    refine ⟨D1, rfl, ⟨_, .inl (.inl hD1)⟩, fun D nD => ?_⟩
    have yl := hP1.1
    refine Sx.sx_lst (xs := ys) (fun i H' => ∃ M, Same H1 H' ∧ H' D = some (Sx.SetO P w D M) ∧ Sx.MemT K H' M ∧ M.length ≤ i ∧ ∀ k, k ∈ Sx.ksOf M ↔ ∃ pl ∈ (plD "put" L rs rs.length).take i, txK (runD rs L pl) = k) ⟨[], same_upd nD, upd_same, (fun p hp => by cases hp), Nat.le_refl _, fun k => ⟨fun z => (by cases z), fun ⟨pl, z, _⟩ => (by cases z)⟩⟩ (fun i H' hi hp' => ?_) (fun i x H' hx hp' => ?_) (fun H' hp' => ?_)
    · obtain ⟨M, sm, _⟩ := hp'
      exact sm.seq (.inl (.inl hD1))
    · obtain ⟨M, sm, hD, hM, hl, hk⟩ := hp'
      obtain ⟨a, b, T, e1, rfl, hT⟩ := hP1.get hx
      have hi : i < ys.length := (List.getElem?_eq_some_iff.mp hx).1
      obtain ⟨r, hr1, hr2, hr3⟩ := mem_plD.1 (List.mem_of_getElem? e1)
      have sH := s1.trans sm
      refine ⟨rfl, yesT ⟨_, rfl, _, rfl, _, rfl, p, T, xs, rs, a, b, L, r, rfl, sH.seq hp, hR.same sH, sameT sm hT, hr1, hr3, fun H2 W s2 hW => ?_⟩⟩
      have hD2 := s2 _ _ hD
      have hM2 : Sx.MemT K H2 M := fun p hp => sameT s2 (hM p hp)
      have hW2 : SqT K H2 W ((txK ((r.ws.drop b).take L)).map kV) := by
        rw [txK_V]
        exact .inl (.inl hW)
      refine ⟨W, txK ((r.ws.drop b).take L), M, rfl, hW2, hD2, hM2, by omega, fun M' pu => ⟨M', same_set (sm.trans s2) nD, upd_same, fun p hp => sqT_set (noTupX hD2) (put_all pu hM2 hW2 p hp), ?_, fun k => ?_⟩⟩
      · have := put_len pu
        omega
      · rw [put_mem pu, hk, take_snoc e1]
        simp only [List.mem_append, List.mem_singleton]
        constructor
        · rintro (z | ⟨pl, z1, z2⟩)
          · exact ⟨(a, b), .inr rfl, by rw [runD_at hr1, z]⟩
          · exact ⟨pl, .inl z1, z2⟩
        · rintro ⟨pl, z1 | z1, z2⟩
          · exact .inr ⟨pl, z1, z2⟩
          · subst z1
            rw [runD_at hr1] at z2
            exact .inl z2.symm
    · obtain ⟨M, sm, hD, hM, hl, hk⟩ := hp'
      rw [List.take_of_length_le (by rw [yl]; exact Nat.le_refl _)] at hk
      have has : ∀ l, Sx.hasK M (txK l) = (plD "put" L rs rs.length).any fun pl => decide (runD rs L pl = l) := fun l => by
        rw [Bool.eq_iff_iff, Sx.hasK_iff, hk, List.any_eq_true]
        exact ⟨fun ⟨pl, z1, z2⟩ => ⟨pl, z1, decide_eq_true (txK_inj z2)⟩, fun ⟨pl, z1, z2⟩ => ⟨pl, z1, by rw [of_decide_eq_true z2]⟩⟩
      have sH := s1.trans sm
      refine ⟨_, rfl, _, rfl, p, xs, rs, "cut", L, rfl, sH.seq hp, (hR.same sH).at, hs.1, hs.2, hL, hL2, fun H2 D2 zs s2 n2 hD2 hP2 => ?_⟩
      refine ⟨D2, rfl, ⟨_, .inl (.inl hD2)⟩, for_list (xs := zs) (fun i σ' H' => Same H2 H' ∧ (∀ c ∈ (plD "cut" L rs rs.length).take i, ((plD "put" L rs rs.length).any fun pl => decide (runD rs L pl = runD rs L c)) = false) ∧ ∃ y, σ' = [some (.ref p), some (.int (L : Int)), y, some (.ref D)]) ⟨Same.refl _, (fun c hc => by cases hc), none, rfl⟩ (fun i σ' H' _ hp' => hp'.1.seq (.inl (.inl hD2))) (fun i x σ' H' hx hp' => ?_) (fun σ' H' hp' => ?_)⟩
      · obtain ⟨s3, hn, y, rfl⟩ := hp'
        obtain ⟨a, b, T, e1, rfl, hT⟩ := hP2.get hx
        obtain ⟨r, hr1, hr2, hr3⟩ := mem_plD.1 (List.mem_of_getElem? e1)
        have sH3 := (sH.trans s2).trans s3
        refine ⟨_, rfl, _, rfl, _, rfl, p, T, xs, rs, a, b, L, r, rfl, sH3.seq hp, hR.same sH3, sameT s3 hT, hr1, hr3, fun H4 W s4 hW => ?_⟩
        have s24 := s2.trans (s3.trans s4)
        refine ⟨_, rfl, W, D, txK ((r.ws.drop b).take L), M, rfl, rfl, by rw [txK_V]; exact .inl (.inl hW), s24 _ _ hD, fun p hp => sameT s24 (hM p hp), _, rfl, ?_⟩
        rw [has]
        have e2 : (r.ws.drop b).take L = runD rs L (a, b) := (runD_at hr1).symm
        rw [e2]
        have whole : hasD rs L = true → Q (.bl true) H4 := fun e => by
          have := q H4 (sH3.trans s4)
          rwa [e] at this
        cases hb : ((plD "put" L rs rs.length).any fun pl => decide (runD rs L pl = runD rs L (a, b))) with
        | true => exact iteT (whole (List.any_eq_true.mpr ⟨(a, b), List.mem_of_getElem? e1, hb⟩))
        | false =>
          refine iteF ⟨s3.trans s4, fun c hc => ?_, _, rfl⟩
          rw [take_snoc e1] at hc
          rcases List.mem_append.mp hc with z | z
          · exact hn c z
          · rw [List.mem_singleton.mp z]
            exact hb
      · obtain ⟨s3, hn, y, rfl⟩ := hp'
        rw [List.take_of_length_le (by rw [hP2.1]; exact Nat.le_refl _)] at hn
        have e : hasD rs L = false := by
          unfold hasD
          rw [List.any_eq_false]
          intro c hc
          rw [hn c hc]
          exact Bool.false_ne_true
        have := q H' ((sH.trans s2).trans s3)
        rw [e] at this
        exact this
end
/-! ### the longest run -/
theorem hasD_iff {rs : List RowD} {L : Nat} : hasD rs L = true ↔ ∃ (a b a' b' : Nat) (r r' : RowD), rs[a]? = some r ∧ r.kind = "cut" ∧ b + L ≤ r.ws.length ∧ rs[a']? = some r' ∧ r'.kind = "put" ∧ b' + L ≤ r'.ws.length ∧ (r'.ws.drop b').take L = (r.ws.drop b).take L := by
  unfold hasD
  simp only [List.any_eq_true, decide_eq_true_eq]
  constructor
  · rintro ⟨⟨a, b⟩, hc, ⟨a', b'⟩, hp, e⟩
    obtain ⟨r, h1, h2, h3⟩ := mem_plD.1 hc
    obtain ⟨r', g1, g2, g3⟩ := mem_plD.1 hp
    rw [runD_at h1, runD_at g1] at e
    exact ⟨a, b, a', b', r, r', h1, h2, h3, g1, g2, g3, e⟩
  · rintro ⟨a, b, a', b', r, r', h1, h2, h3, g1, g2, g3, e⟩
    refine ⟨(a, b), mem_plD.2 ⟨r, h1, h2, h3⟩, (a', b'), mem_plD.2 ⟨r', g1, g2, g3⟩, ?_⟩
    rw [runD_at h1, runD_at g1]
    exact e
theorem hasD_mono {rs : List RowD} {L M : Nat} (hLM : L ≤ M) (h : hasD rs M = true) : hasD rs L = true := by
  obtain ⟨a, b, a', b', r, r', h1, h2, h3, g1, g2, g3, e⟩ := hasD_iff.1 h
  refine hasD_iff.2 ⟨a, b, a', b', r, r', h1, h2, by omega, g1, g2, by omega, ?_⟩
  have q := congrArg (List.take L) e
  rwa [List.take_take, List.take_take, Nat.min_eq_left hLM] at q
theorem hasD_small {rs : List RowD} {L : Nat} (hs : Small rs) (h : hasD rs L = true) : L ≤ 1000 := by
  obtain ⟨a, b, _, _, r, _, h1, _, h3, _⟩ := hasD_iff.1 h
  have := hs.1 r (List.mem_of_getElem? h1)
  omega
section
variable {P : Program} {w : World} {K : PySem.W.Frag} {mg : Str → Option Value} {base : Heap}
theorem scLongest : FnScope ["rows", "lower", "upper", "middle"] ["rows"] (defScope sLongestRun) := ⟨rfl, rfl, rfl, by decide +kernel, rfl, by decide +kernel, by decide +kernel⟩
def spLongest (K : PySem.W.Frag) : Sp := fun vs H Q _ => ∃ (p : Addr) (xs : List V) (rs : List RowD), vs = [.ref p] ∧ SqL K H p xs ∧ RowsT K H xs rs ∧ Small rs ∧ (∀ L, 1 ≤ L → (plD "put" L rs rs.length).length ≤ 299) ∧
  ∀ (H' : Hp) (n : Nat), Same H H' → 1 ≤ n → (n = 1 ∨ hasD rs n = true) → hasD rs (n + 1) = false → Q (.int (n : Int)) H'
theorem ok_longest {f fH : Addr} {fd fdH : FuncData} (F : FnP K "longest_run" sLongestRun f fd)
    (GH : FnOk P w K mg base (L2.CX P w) 2 fH fdH ["rows", "length"] (spHasRun K)) (kH : PySem.W.keepIn K (.ref fH) = true) (bH : Binds K fdH ["rows", "length"] []) (gH : mg "has_run" = some (.ref fH)) :
    FnOk P w K mg base (L2.CX P w) 3 f fd ["rows"] (spLongest K) := by
  refine F.ok scLongest (fun vs H Q E h => ?_) (fun cdv A outer s H vs Q E hr h => ?_)
  · obtain ⟨p, xs, rs, rfl, _⟩ := h
    rfl
  · obtain ⟨p, xs, rs, rfl, hp, hR, hs, few, q⟩ := h
    refine ⟨_, pss_cons (ps_set (i := 1) scLongest.nd rfl (.inl rfl) pe_int)
      (pss_cons (ps_set (i := 2) scLongest.nd rfl (.inl rfl) pe_int)
      (pss_cons (ps_while (passes_of rfl) (pt_val (pe_call GH hr (by rfl) gH kH bH .nil passL (pa_cons (pv 0) (pa_cons (pv 2) pa_nil))))
        (pss_cons (ps_set (i := 1) scLongest.nd rfl (.inl rfl) (pv 2))
        (pss_one (ps_set (i := 2) scLongest.nd rfl (.inl rfl) (pe_op op_mul pe_int (pv 2))))))
      (pss_cons (ps_while (passes_of rfl) (pt_cmpR op_gt (pe_op op_sub (pv 2) (pv 1)) pe_int (nomark _))
        (pss_cons (ps_set (i := 3) scLongest.nd rfl (.inl rfl) (pe_op op_fdiv (pe_op op_add (pv 1) (pv 2)) pe_int))
        (pss_one (ps_if (pt_val (pe_call GH hr (by rfl) gH kH bH .nil passL (pa_cons (pv 0) (pa_cons (pv 3) pa_nil))))
          (pss_one (ps_set (i := 1) scLongest.nd rfl (.inl rfl) (pv 3))) (pss_one (ps_set (i := 2) scLongest.nd rfl (.inl rfl) (pv 3)))))))
      (pss_one (ps_ret (pv 1)))))), ?_⟩
    refine ⟨fun m σ' H' => ∃ l : Nat, m = 2000 - l ∧ Same H H' ∧ 1 ≤ l ∧ l ≤ 1000 ∧ (l = 1 ∨ hasD rs l = true) ∧ σ' = [some (.ref p), some (.int (l : Int)), some (.int ((2 * l : Nat) : Int)), none], ⟨_, 1, rfl, Same.refl _, Nat.le_refl _, by decide, .inl rfl, rfl⟩, fun m σ' H' hM => ?_⟩
    obtain ⟨l, rfl, sm, l1, l2, hl, rfl⟩ := hM
    refine ⟨_, rfl, _, rfl, p, xs, rs, 2 * l, rfl, sm.seq hp, hR.same sm, hs, few _ (by omega), by omega, by omega, fun H1 s1 => ⟨_, rfl, ?_⟩⟩
    have sm1 := sm.trans s1
    by_cases hu : hasD rs (2 * l) = true
    · rw [hu]
      have lu := hasD_small hs hu
      refine iteT ⟨_, fun _ _ h => h, _, rfl, _, rfl, _, _, rfl, rfl, .inl ⟨by decide, by decide⟩, 2000 - 2 * l, by omega, 2 * l, rfl, sm1, by omega, by omega, .inr hu, ?_⟩
      show _ = [_, _, _, _]
      have e : (2 : Int) * ((2 * l : Nat) : Int) = ((2 * (2 * l) : Nat) : Int) := by omega
      simp only [e]
      rfl
    · have hu : hasD rs (2 * l) = false := by simpa using hu
      rw [hu]
      refine iteF ⟨fun m σ' H' => ∃ l u : Nat, m = u - l ∧ Same H H' ∧ 1 ≤ l ∧ l < u ∧ u ≤ 2000 ∧ (l = 1 ∨ hasD rs l = true) ∧ hasD rs u = false ∧ ∃ y, σ' = [some (.ref p), some (.int (l : Int)), some (.int (u : Int)), y], ⟨_, l, 2 * l, rfl, sm1, l1, by omega, by omega, hl, hu, none, rfl⟩, fun m σ' H' hM => ?_⟩
      obtain ⟨l, u, rfl, s2, a1, a2, a3, a4, a5, y, rfl⟩ := hM
      refine ⟨_, rfl, _, rfl, _, _, rfl, rfl, _, _, rfl, rfl, _, rfl, ite2 (fun e => ?_) (fun e => ?_)⟩
      · have e := of_decide_eq_true e
        have em : ((l : Int) + (u : Int)) / 2 = (((l + u) / 2 : Nat) : Int) := by omega
        refine ⟨_, fun _ _ h => h, _, rfl, _, rfl, _, _, rfl, rfl, _, _, rfl, rfl, ⟨by decide, by decide⟩, ?_⟩
        dsimp only
        rw [em]
        refine ⟨_, rfl, _, rfl, p, xs, rs, (l + u) / 2, rfl, s2.seq hp, hR.same s2, hs, few _ (by omega), by omega, by omega, fun H3 s3 => ⟨_, rfl, ?_⟩⟩
        by_cases hm : hasD rs ((l + u) / 2) = true
        · rw [hm]
          exact iteT ⟨_, rfl, u - (l + u) / 2, by omega, (l + u) / 2, u, rfl, s2.trans s3, by omega, by omega, a3, .inr hm, a5, _, rfl⟩
        · have hm : hasD rs ((l + u) / 2) = false := by simpa using hm
          rw [hm]
          exact iteF ⟨_, rfl, (l + u) / 2 - l, by omega, l, (l + u) / 2, rfl, s2.trans s3, a1, by omega, by omega, a4, hm, _, rfl⟩
      · have e : ¬ ((1 : Int) < (u : Int) - (l : Int)) := fun z => e (decide_eq_true z)
        have eu : u = l + 1 := by omega
        subst eu
        exact ⟨_, rfl, q H' l s2 a1 a4 a5⟩
end
/-! ### the next free place -/
def freeB (kvs : UsedD) (L : Nat) (p : Nat × Nat) : Bool := !usedB kvs p.1 p.2 && !usedB kvs p.1 (p.2 + L - 1)
def nextD (kvs : UsedD) (L : Nat) : List (Nat × Nat) → Option (Nat × Nat) × List (Nat × Nat)
  | [] => (none, [])
  | c :: q => if freeB kvs L c = true then (some c, q) else nextD kvs L q
theorem SameB.refl {d : Addr} {H : Hp} : SameB d H H := fun _ _ _ e => e
theorem SameB.trans {d : Addr} {H H1 H2 : Hp} (a : SameB d H H1) (b : SameB d H1 H2) : SameB d H H2 := fun c o hc e => b c o hc (a c o hc e)
theorem same_b {d : Addr} {H H' : Hp} (s : Same H H') : SameB d H H' := fun c o _ e => s c o e
theorem sameB_upd {d : Addr} {H : Hp} {o : HO} : SameB d H (upd H d o) := fun c o hc e => by
  rw [upd_ne hc]
  exact e
theorem SameB.sqT {K : PySem.W.Frag} {d T : Addr} {H H' : Hp} {xs : List V} (s : SameB d H H') (hd : ∀ ys, ¬ Rd H d (.tup ys)) (h : SqT K H T xs) : SqT K H' T xs := by
  rcases h with h | h
  · have ne : T ≠ d := fun z => hd _ (z ▸ h)
    refine .inl ?_
    rcases h with h | ⟨o2, h⟩
    · exact .inl (s _ _ ne h)
    · exact .inr ⟨o2, s _ _ ne h⟩
  · exact .inr h
theorem SameB.pairs {K : PySem.W.Frag} {d : Addr} {H H' : Hp} {ys : List V} {ps : List (Nat × Nat)} (s : SameB d H H') (hd : ∀ ys, ¬ Rd H d (.tup ys)) (h : PairsAt K H ys ps) : PairsAt K H' ys ps :=
  ⟨h.1, fun i v e => let ⟨p, T, h1, h2, h3⟩ := h.2 i v e; ⟨p, T, h1, h2, s.sqT hd h3⟩⟩
theorem PairsAt.init {K : PySem.W.Frag} {H : Hp} {ys : List V} {ps : List (Nat × Nat)} {c : Nat × Nat} (h : PairsAt K H ys (ps ++ [c])) : PairsAt K H ys.dropLast ps ∧ ∃ T, ys[ys.length - 1]? = some (.ref T) ∧ SqT K H T [.int (c.1 : Int), .int (c.2 : Int)] := by
  have hl := h.1
  rw [List.length_append] at hl
  have hl : ys.length = ps.length + 1 := hl
  constructor
  · refine ⟨by rw [List.length_dropLast]; omega, fun i v e => ?_⟩
    rw [List.getElem?_dropLast] at e
    split at e
    · obtain ⟨p, T, h1, h2⟩ := h.2 i v e
      rw [List.getElem?_append_left (by omega)] at h1
      exact ⟨p, T, h1, h2⟩
    · cases e
  · obtain ⟨v, hv⟩ : ∃ v, ys[ys.length - 1]? = some v := ⟨_, List.getElem?_eq_getElem (by omega)⟩
    obtain ⟨p, T, h1, h2, h3⟩ := h.2 _ v hv
    have e : ys.length - 1 = ps.length := by omega
    rw [e, List.getElem?_append_right (Nat.le_refl _), Nat.sub_self] at h1
    cases h1
    exact ⟨T, by rw [hv, h2], h3⟩
section
variable {P : Program} {w : World} {K : PySem.W.Frag} {mg : Str → Option Value} {base : Heap}
theorem scNextFree : FnScope ["places", "used", "length", "place"] ["places", "used", "length"] (defScope sNextFree) := ⟨rfl, rfl, rfl, by decide +kernel, rfl, by decide +kernel, by decide +kernel⟩
def spNextFree (K : PySem.W.Frag) : Sp := fun vs H Q _ => ∃ (D d : Addr) (ys : List V) (q : List (Nat × Nat)) (kvs : UsedD) (L : Nat), vs = [.ref D, .ref d, .int (L : Int)] ∧ H D = some (.lst ys) ∧ PairsAt K H ys q.reverse ∧ H d = some (.dT kvs) ∧ 1 ≤ L ∧
  ∀ (H' : Hp) (zs : List V), SameB D H H' → H' D = some (.lst zs) → PairsAt K H' zs (nextD kvs L q).2.reverse → ((nextD kvs L q).1 = none → Q .non H') ∧ (∀ c T, (nextD kvs L q).1 = some c → SqT K H' T [.int (c.1 : Int), .int (c.2 : Int)] → Q (.ref T) H')
theorem ok_next_free {f fI : Addr} {fd fdI : FuncData} (F : FnP K "next_free" sNextFree f fd)
    (GI : FnOk P w K mg base (L2.CX P w) 1 fI fdI ["used", "place", "length"] (spIsFree K)) (kI : PySem.W.keepIn K (.ref fI) = true) (bI : Binds K fdI ["used", "place", "length"] []) (gI : mg "is_free" = some (.ref fI)) (mL : mg "len" = none) :
    FnOk P w K mg base (L2.CX P w) 2 f fd ["places", "used", "length"] (spNextFree K) := by
  refine F.ok scNextFree (fun vs H Q E h => ?_) (fun cdv A outer s H vs Q E hr h => ?_)
  · obtain ⟨D, d, ys, q, kvs, L, rfl, _⟩ := h
    rfl
  · obtain ⟨D, d, ys, q, kvs, L, rfl, hD, hP, hd, hL, fin⟩ := h
    refine ⟨_, pss_cons (ps_while (passes_of rfl) (pt_cmpR op_gt (pe_callB call_len_seq (by rfl) mL PySem.boot_len (pa_cons (pv 0) pa_nil)) pe_int (nomark _))
        (pss_cons (ps_set (i := 3) scNextFree.nd rfl (.inl rfl) (pe_bm0 PySem.F.plainAttrs_list PySem.F.slot_list_pop PySem.F.type_list_pop mt_pop (pv 0)))
        (pss_one (ps_if (pt_val (pe_call GI hr (by rfl) gI kI bI .nil passL (pa_cons (pv 1) (pa_cons (pv 3) (pa_cons (pv 2) pa_nil)))))
          (pss_one (ps_ret (pv 3))) pss_nil))))
      (pss_one (ps_ret pe_non)), ?_⟩
    have Dd : D ≠ d := ne_of hD hd (by intro z; cases z)
    refine ⟨fun m σ' H' => ∃ (q' : List (Nat × Nat)) (zs : List V) (y : Option V), m = q'.length ∧ SameB D H H' ∧ H' D = some (.lst zs) ∧ PairsAt K H' zs q'.reverse ∧ nextD kvs L q' = nextD kvs L q ∧ σ' = [some (.ref D), some (.ref d), some (.int (L : Int)), y], ⟨_, q, ys, none, rfl, SameB.refl, hD, hP, rfl, rfl⟩, fun m σ' H' hM => ?_⟩
    obtain ⟨q', zs, y, rfl, sb, hD', hP', hq, rfl⟩ := hM
    have hl := hP'.1
    rw [List.length_reverse] at hl
    refine ⟨_, rfl, D, zs, rfl, .inl (.inl (.inl hD')), _, _, rfl, rfl, _, rfl, ?_⟩
    cases q' with
    | nil =>
      have hl : zs.length = 0 := hl
      refine ite2 (fun e => ?_) (fun _ => ?_)
      · have e := of_decide_eq_true e
        omega
      · rw [← hq] at fin
        exact (fin H' zs sb hD' hP').1 rfl
    | cons c q2 =>
      have hl : zs.length = q2.length + 1 := hl
      refine ite2 (fun _ => ?_) (fun e => absurd (decide_eq_true (by omega)) e)
      rw [List.reverse_cons] at hP'
      obtain ⟨hPi, T, hT1, hT2⟩ := hP'.init
      have s1 : SameB D H' (upd H' D (.lst zs.dropLast)) := sameB_upd
      have nT := noTup hD'
      refine ⟨_, fun _ _ h => h, _, rfl, .inl ⟨rfl, _, .inl (.inl hD')⟩, D, zs, _, rfl, rfl, hD', hT1, ?_⟩
      have hd2 : (upd H' D (.lst zs.dropLast)) d = some (.dT kvs) := by
        rw [upd_ne (Ne.symm Dd)]
        exact sb _ _ (Ne.symm Dd) hd
      have hT3 := sqT_set (o := .lst zs.dropLast) nT hT2
      have hP3 := PairsAt.set (o := .lst zs.dropLast) nT hPi
      have hD3 : (upd H' D (.lst zs.dropLast)) D = some (.lst zs.dropLast) := upd_same
      generalize upd H' D (.lst zs.dropLast) = H2 at s1 hd2 hT3 hP3 hD3 ⊢
      refine ⟨_, rfl, _, rfl, _, rfl, d, T, kvs, c.1, c.2, L, rfl, hd2, hT3, hL, fun H3 s3 => ⟨_, rfl, ?_⟩⟩
      have sb3 := (sb.trans s1).trans (same_b s3)
      have hD4 := s3 _ _ hD3
      have hP4 := hP3.same s3
      have hT4 := sameT s3 hT3
      have ef : nextD kvs L (c :: q2) = if freeB kvs L c = true then (some c, q2) else nextD kvs L q2 := rfl
      cases hf : freeB kvs L c with
      | true =>
        rw [hf] at ef
        have ef : nextD kvs L (c :: q2) = (some c, q2) := ef
        rw [← hq, ef] at fin
        have hf : (!usedB kvs c.1 c.2 && !usedB kvs c.1 (c.2 + L - 1)) = true := hf
        rw [hf]
        exact iteT ⟨_, rfl, (fin H3 _ sb3 hD4 hP4).2 c T rfl hT4⟩
      | false =>
        rw [hf] at ef
        have ef : nextD kvs L (c :: q2) = nextD kvs L q2 := ef
        have hf : (!usedB kvs c.1 c.2 && !usedB kvs c.1 (c.2 + L - 1)) = false := hf
        rw [hf]
        exact iteF ⟨q2.length, Nat.lt_succ_self _, q2, _, _, rfl, sb3, hD4, hP4, by rw [← hq, ef], rfl⟩
end
/-! ### the places of each put run -/
/-- d: for each run the list of its places m, the first one last -/
structure PPl (K : PySem.W.Frag) (H0 H : Hp) (d : Addr) (kvs : UsedD) (m : List Str → List (Nat × Nat)) : Prop where
  dic : H d = some (.dT kvs)
  lsts : ∀ l v, valV kvs (txK l) = some v → ∃ D ys, v = .ref D ∧ H D = some (.lst ys) ∧ PairsAt K H ys (m l).reverse ∧ H0 D = none
  nil : ∀ l, valV kvs (txK l) = none → m l = []
  inj : ∀ l l' D, valV kvs (txK l) = some (.ref D) → valV kvs (txK l') = some (.ref D) → l = l'
theorem PPl.same {K : PySem.W.Frag} {H0 H H' : Hp} {d : Addr} {kvs : UsedD} {m : List Str → List (Nat × Nat)} (s : Same H H') (h : PPl K H0 H d kvs m) : PPl K H0 H' d kvs m :=
  ⟨s _ _ h.dic, fun l v e => let ⟨D, ys, h1, h2, h3, h4⟩ := h.lsts l v e; ⟨D, ys, h1, s _ _ h2, h3.same s, h4⟩, h.nil, h.inj⟩
/-- one of the lists is written -/
theorem PPl.set {K : PySem.W.Frag} {H0 H H' : Hp} {d D : Addr} {kvs : UsedD} {m : List Str → List (Nat × Nat)} {l : List Str} {ys zs : List V} {q : List (Nat × Nat)} (h : PPl K H0 H d kvs m) (e : valV kvs (txK l) = some (.ref D)) (hD : H D = some (.lst ys)) (sb : SameB D H H') (hz : H' D = some (.lst zs)) (hP : PairsAt K H' zs q.reverse) :
    PPl K H0 H' d kvs (fun l' => if l' = l then q else m l') := by
  have nT := noTup hD
  refine ⟨sb _ _ (fun z => ?_) h.dic, fun l' v e' => ?_, fun l' e' => ?_, h.inj⟩
  · subst z
    have := h.dic
    rw [hD] at this
    cases this
  · obtain ⟨D', ys', rfl, h2, h3, h4⟩ := h.lsts l' v e'
    by_cases c : l' = l
    · subst c
      rw [e] at e'
      cases e'
      exact ⟨_, zs, rfl, hz, by rw [if_pos rfl]; exact hP, h4⟩
    · refine ⟨D', ys', rfl, sb _ _ (fun z => ?_) h2, by rw [if_neg c]; exact sb.pairs nT h3, h4⟩
      subst z
      exact c (h.inj _ _ _ e' e)
  · rw [if_neg (fun z => by subst z; rw [e] at e'; cases e')]
    exact h.nil l' e'
/-- one more list -/
theorem PPl.new {K : PySem.W.Frag} {H0 H : Hp} {d D : Addr} {kvs : UsedD} {m : List Str → List (Nat × Nat)} {l : List Str} {ys : List V} (h : PPl K H0 H d kvs m) (e : valV kvs (txK l) = none) (hD : H D = some (.lst ys)) (hP : PairsAt K H ys []) (fr : H0 D = none) (far : ∀ l', valV kvs (txK l') ≠ some (.ref D)) :
    PPl K H0 (upd H d (.dT (putK kvs (txK l) (.ref D)))) d (putK kvs (txK l) (.ref D)) m := by
  have nT : ∀ ys, ¬ Rd H d (.tup ys) := by
    rintro ys (z | ⟨o, z⟩)
    · rw [h.dic] at z
      cases z
    · rw [h.dic] at z
      cases z
  have off : ∀ D' ys, H D' = some (.lst ys) → D' ≠ d := fun D' ys e z => by
    subst z
    rw [h.dic] at e
    cases e
  refine ⟨upd_same, fun l' v e' => ?_, fun l' e' => ?_, fun a b D' ea eb => ?_⟩
  · rw [valV_put] at e'
    by_cases c : l' = l
    · subst c
      rw [if_pos rfl] at e'
      cases e'
      exact ⟨D, ys, rfl, by rw [upd_ne (off _ _ hD)]; exact hD, by rw [h.nil _ e]; exact PairsAt.set nT hP, fr⟩
    · rw [if_neg fun z => c (txK_inj z)] at e'
      obtain ⟨D', ys', rfl, h2, h3, h4⟩ := h.lsts l' v e'
      exact ⟨D', ys', rfl, by rw [upd_ne (off _ _ h2)]; exact h2, PairsAt.set nT h3, h4⟩
  · rw [valV_put] at e'
    by_cases c : l' = l
    · subst c
      rw [if_pos rfl] at e'
      cases e'
    · rw [if_neg fun z => c (txK_inj z)] at e'
      exact h.nil l' e'
  · rw [valV_put] at ea eb
    by_cases c : a = l
    · by_cases c' : b = l
      · rw [c, c']
      · rw [if_neg fun z => c' (txK_inj z)] at eb
        rw [c, if_pos rfl] at ea
        cases ea
        exact absurd eb (far b)
    · rw [if_neg fun z => c (txK_inj z)] at ea
      by_cases c' : b = l
      · rw [c', if_pos rfl] at eb
        cases eb
        exact absurd ea (far a)
      · rw [if_neg fun z => c' (txK_inj z)] at eb
        exact h.inj a b D' ea eb
theorem PPl.congr {K : PySem.W.Frag} {H0 H : Hp} {d : Addr} {kvs : UsedD} {m m' : List Str → List (Nat × Nat)} (h : PPl K H0 H d kvs m) (e : ∀ l, m' l = m l) : PPl K H0 H d kvs m' := by
  have : m' = m := funext e
  rw [this]
  exact h
theorem PPl.weak {K : PySem.W.Frag} {H0 H1 H : Hp} {d : Addr} {kvs : UsedD} {m : List Str → List (Nat × Nat)} (w : ∀ D, H1 D = none → H0 D = none) (h : PPl K H1 H d kvs m) : PPl K H0 H d kvs m :=
  ⟨h.dic, fun l v e => let ⟨D, ys, h1, h2, h3, h4⟩ := h.lsts l v e; ⟨D, ys, h1, h2, h3, w D h4⟩, h.nil, h.inj⟩
theorem same_none {H H' : Hp} (s : Same H H') {D : Addr} (e : H' D = none) : H D = none := by
  cases q : H D with
  | none => rfl
  | some o =>
    rw [s _ _ q] at e
    cases e
def runsAt (rs : List RowD) (L : Nat) (ps : List (Nat × Nat)) (l : List Str) : List (Nat × Nat) := ps.filter fun p => decide (runD rs L p = l)
theorem runsAt_cons {rs : List RowD} {L : Nat} {ps : List (Nat × Nat)} {c : Nat × Nat} (l : List Str) : runsAt rs L (c :: ps) l = if l = runD rs L c then c :: runsAt rs L ps l else runsAt rs L ps l := by
  unfold runsAt
  rw [List.filter_cons]
  by_cases e : l = runD rs L c
  · subst e
    rw [if_pos (decide_eq_true rfl), if_pos rfl]
  · rw [if_neg (fun z => e (of_decide_eq_true z).symm), if_neg e]
section
variable {P : Program} {w : World} {K : PySem.W.Frag} {mg : Str → Option Value} {base : Heap}
theorem scPutPlaces : FnScope ["rows", "length", "put_places", "place", "run"] ["rows", "length"] (defScope sPutPlacesOf) := ⟨rfl, rfl, rfl, by decide +kernel, rfl, by decide +kernel, by decide +kernel⟩
def spPutPlaces (K : PySem.W.Frag) : Sp := fun vs H Q _ => ∃ (p : Addr) (xs : List V) (rs : List RowD) (L : Nat), vs = [.ref p, .int (L : Int)] ∧ SqL K H p xs ∧ RowsT K H xs rs ∧ Small rs ∧ (plD "put" L rs rs.length).length ≤ 299 ∧ 1 ≤ L ∧ L ≤ 5000 ∧
  ∀ (H' : Hp) (d : Addr) (kvs : UsedD), Same H H' → H d = none → PPl K H H' d kvs (runsAt rs L (plD "put" L rs rs.length)) → Q (.ref d) H'
theorem ok_put_places {f fP fR : Addr} {fd fdP fdR : FuncData} (F : FnP K "put_places_of" sPutPlacesOf f fd)
    (GP : FnOk P w K mg base (L2.CX P w) 1 fP fdP ["rows", "kind", "length"] (spPlaces K)) (kP : PySem.W.keepIn K (.ref fP) = true) (bP : Binds K fdP ["rows", "kind", "length"] []) (gP : mg "places_in" = some (.ref fP))
    (GR : FnOk P w K mg base (L2.CX P w) 1 fR fdR ["rows", "place", "length"] (spRunAt K)) (kR : PySem.W.keepIn K (.ref fR) = true) (bR : Binds K fdR ["rows", "place", "length"] []) (gR : mg "run_at" = some (.ref fR)) (mV : mg "reversed" = none) :
    FnOk P w K mg base (L2.CX P w) 2 f fd ["rows", "length"] (spPutPlaces K) := by
  refine F.ok scPutPlaces (fun vs H Q E h => ?_) (fun cdv A outer s H vs Q E hr h => ?_)
  · obtain ⟨p, xs, rs, L, rfl, _⟩ := h
    rfl
  · obtain ⟨p, xs, rs, L, rfl, hp, hR, hs, few, hL, hL2, q⟩ := h
    refine ⟨_, pss_cons (ps_set (i := 2) scPutPlaces.nd rfl (.inl rfl) pe_dnewT)
      (pss_cons (ps_for (passes_of rfl) rfl (RT.pi_revA (by rfl) mV (pe_call GP hr (by rfl) gP kP bP .nil passL (pa_cons (pv 0) (pa_cons pe_str (pa_cons (pv 1) pa_nil))))) (pg_name (i := 3) scPutPlaces.nd rfl (.inl rfl))
        (pss_cons (ps_set (i := 4) scPutPlaces.nd rfl (.inl rfl) (pe_call GR hr (by rfl) gR kR bR .nil passL (pa_cons (pv 0) (pa_cons (pv 3) (pa_cons (pv 1) pa_nil)))))
        (pss_one (ps_expr (pe_bm PySem.F.plainAttrs_list PySem.F.slot_list_append PySem.F.type_list_append mt_append (St.pe_dsetT (hu_of hr) (pv 2) (pv 4) (pe_lst pa_nil) ⟨rfl, rfl, rfl, rfl⟩) (pa_cons (pv 3) pa_nil))))))
      (pss_one (ps_ret (pv 2)))), ?_⟩
    intro d nd
    have s0 := same_upd nd (o := .dT [])
    refine ⟨_, rfl, _, rfl, p, xs, rs, "put", L, rfl, s0.seq hp, (hR.same s0).at, hs.1, hs.2, hL, hL2, fun H1 D1 ys s1 n1 hD1 hP1 => ?_⟩
    have sH1 := s0.trans s1
    have yl := hP1.1
    have hd1 : H1 d = some (.dT []) := s1 _ _ upd_same
    have D1d : D1 ≠ d := ne_of hD1 hd1 (by intro z; cases z)
    refine ⟨D1, ys, rfl, .inl ⟨.inl (.inl hD1), RT.for_Itv (xs := ys) (fun i σ' H' => SameB d H1 H' ∧ ∃ kvs y3 y4, PPl K H1 H' d kvs (runsAt rs L ((plD "put" L rs rs.length).drop (ys.length - i))) ∧ kvs.length ≤ i ∧ i ≤ ys.length ∧ σ' = [some (.ref p), some (.int (L : Int)), some (.ref d), y3, y4]) ?_ (fun i σ' H' hp' => ?_) (fun i x σ' H' hi hx hp' => ?_) (fun σ' H' hp' => ?_)⟩⟩
    · refine ⟨SameB.refl, [], none, none, ⟨hd1, (fun l v e => by cases e), (fun l _ => ?_), fun l l' D e => by cases e⟩, Nat.le_refl _, Nat.zero_le _, rfl⟩
      rw [Nat.sub_zero, List.drop_of_length_le (by rw [yl]; exact Nat.le_refl _)]
      rfl
    · exact .inl (.inl (hp'.1 _ _ D1d hD1))
    · obtain ⟨sb, kvs, y3, y4, hm, hl, hi2, rfl⟩ := hp'
      obtain ⟨a, b, T, e1, rfl, hT⟩ := hP1.get hx
      obtain ⟨r, hr1, hr2, hr3⟩ := mem_plD.1 (List.mem_of_getElem? e1)
      have ndT : ∀ ys, ¬ Rd H1 d (.tup ys) := by
        rintro ys (z | ⟨o, z⟩)
        · rw [hd1] at z
          cases z
        · rw [hd1] at z
          cases z
      have sH : Same H H' := fun c o e => sb c o (fun z => by subst z; rw [nd] at e; cases e) (sH1 c o e)
      refine ⟨_, rfl, _, rfl, _, rfl, p, T, xs, rs, a, b, L, r, rfl, sH.seq hp, hR.same sH, sb.sqT ndT hT, hr1, hr3, fun H2 W s2 hW => ?_⟩
      have sb2 := sb.trans (same_b s2)
      have hm2 := hm.same s2
      refine ⟨_, rfl, d, rfl, .inr ⟨kvs, .inl hm2.dic⟩, _, rfl, by show 0 ≤ sizeLine; decide, fun D nD => ?_⟩
      have s3 : Same H2 (upd H2 D (.lst [])) := same_upd nD
      have hm3 := hm2.same s3
      have hW3 : (upd H2 D (.lst [])) W = some (.tup ((txK ((r.ws.drop b).take L)).map kV)) := by
        rw [txK_V]
        exact s3 _ _ hW
      have hD3 : (upd H2 D (.lst [])) D = some (.lst []) := upd_same
      have sb3 := sb2.trans (same_b s3)
      have nD1 : H1 D = none := by
        cases q1 : H1 D with
        | none => rfl
        | some o =>
          by_cases z : D = d
          · subst z
            rw [hm2.dic] at nD
            cases nD
          · rw [sb2 _ _ z q1] at nD
            cases nD
      have far : ∀ l', valV kvs (txK l') ≠ some (.ref D) := fun l' e => by
        obtain ⟨D', ys', e1, h2, _⟩ := hm2.lsts l' _ e
        cases e1
        rw [nD] at h2
        cases h2
      have Dd : D ≠ d := ne_of hD3 hm3.dic (by intro z; cases z)
      generalize upd H2 D (.lst []) = H3 at s3 hm3 hW3 hD3 sb3
      have e2 : (r.ws.drop b).take L = runD rs L (a, b) := (runD_at hr1).symm
      have ed : (plD "put" L rs rs.length).drop (ys.length - (i + 1)) = (a, b) :: (plD "put" L rs rs.length).drop (ys.length - i) := by
        have e3 : ys.length - (i + 1) = ys.length - 1 - i := by omega
        have e4 : ys.length - i = ys.length - 1 - i + 1 := by omega
        rw [e3, e4]
        exact (List.drop_eq_getElem?_toList_append ..).trans (by rw [e1]; rfl)
      rw [e2] at hW3
      -- what stands behind the append at a list of the dict
      have tail : ∀ (kvs' : UsedD) (H4 : Hp) (D' : Addr) (zs : List V), PPl K H1 H4 d kvs' (runsAt rs L ((plD "put" L rs rs.length).drop (ys.length - i))) → kvs'.length ≤ i + 1 → SameB d H1 H4 → valV kvs' (txK (runD rs L (a, b))) = some (.ref D') → H4 D' = some (.lst zs) → PairsAt K H4 zs (runsAt rs L ((plD "put" L rs rs.length).drop (ys.length - i)) (runD rs L (a, b))).reverse → H1 D' = none →
          zs.length < sizeLine ∧ (SameB d H1 (upd H4 D' (.lst (zs ++ [.ref T]))) ∧ PPl K H1 (upd H4 D' (.lst (zs ++ [.ref T]))) d kvs' (runsAt rs L ((plD "put" L rs rs.length).drop (ys.length - (i + 1))))) := fun kvs' H4 D' zs m4 l4 b4 v4 d4 p4 f4 => by
        have nT := noTup d4
        have zl := p4.1
        rw [List.length_reverse] at zl
        have fl : (runsAt rs L ((plD "put" L rs rs.length).drop (ys.length - i)) (runD rs L (a, b))).length ≤ 299 := by
          unfold runsAt
          refine Nat.le_trans (List.length_filter_le ..) ?_
          rw [List.length_drop]
          omega
        refine ⟨Nat.lt_of_le_of_lt (show zs.length ≤ 299 by omega) (by decide), fun c o hc e => ?_, ?_⟩
        · rw [upd_ne fun z => by subst z; rw [f4] at e; cases e]
          exact b4 c o hc e
        · have hT4 : SqT K H4 T [.int (a : Int), .int (b : Int)] := b4.sqT ndT hT
          have hT5 := sqT_set (o := .lst (zs ++ [.ref T])) nT hT4
          have := m4.set (q := (a, b) :: runsAt rs L ((plD "put" L rs rs.length).drop (ys.length - i)) (runD rs L (a, b))) v4 d4 sameB_upd (upd_same (o := .lst (zs ++ [.ref T]))) (by
            rw [List.reverse_cons]
            exact (PairsAt.set nT p4).app (PairsAt.one hT5))
          refine this.congr fun l' => ?_
          rw [ed, runsAt_cons]
          by_cases z : l' = runD rs L (a, b)
          · rw [if_pos z, if_pos z, z]
          · rw [if_neg z, if_neg z]
      refine ⟨kvs, txK (runD rs L (a, b)), W, hm3.dic, rfl, hW3, Nat.lt_of_le_of_lt (show kvs.length ≤ 299 by omega) (by decide), fun v hv => ?_, fun hn => ?_⟩
      · obtain ⟨D', zs, rfl, d4, p4, f4⟩ := hm3.lsts _ _ hv
        obtain ⟨t1, t2, t3⟩ := tail kvs H3 D' zs hm3 (by omega) sb3 hv d4 p4 f4
        exact ⟨.inl ⟨rfl, _, .inl (.inl d4)⟩, _, rfl, D', zs, _, rfl, rfl, d4, t1, t2, kvs, _, _, t3, by omega, by omega, rfl⟩
      · have m4 := hm3.new hn hD3 ⟨rfl, fun i v e => by cases e⟩ nD1 far
        have hl2 := length_putK kvs (txK (runD rs L (a, b))) (.ref D)
        have d4 : (upd H3 d (.dT (putK kvs (txK (runD rs L (a, b))) (.ref D)))) D = some (.lst []) := by
          rw [upd_ne Dd]
          exact hD3
        have hnil := hm3.nil _ hn
        obtain ⟨t1, t2, t3⟩ := tail (putK kvs (txK (runD rs L (a, b))) (.ref D)) _ D [] m4 (by omega) (sb3.trans sameB_upd) (by rw [valV_put, if_pos rfl]) d4 (by rw [hnil]; exact ⟨rfl, fun i v e => by cases e⟩) nD1
        exact ⟨.inl ⟨rfl, _, .inl (.inl d4)⟩, _, rfl, D, [], _, rfl, rfl, d4, t1, t2, _, _, _, t3, by omega, by omega, rfl⟩
    · obtain ⟨sb, kvs, y3, y4, hm, hl, hi2, rfl⟩ := hp'
      rw [Nat.sub_self, List.drop_zero] at hm
      refine ⟨_, rfl, q H' d kvs (fun c o e => sb c o (fun z => by subst z; rw [nd] at e; cases e) (sH1 c o e)) nd (hm.weak fun D e => same_none sH1 e)⟩
end
/-! ### places, free ones, pairs -/
abbrev Pl := Nat × Nat
def Lt (p q : Pl) : Prop := p.1 < q.1 ∨ p.1 = q.1 ∧ p.2 < q.2
theorem Lt.trans {p q r : Pl} (a : Lt p q) (b : Lt q r) : Lt p r := by
  rcases a with a | ⟨a, a'⟩ <;> rcases b with b | ⟨b, b'⟩
  · exact .inl (by omega)
  · exact .inl (by omega)
  · exact .inl (by omega)
  · exact .inr ⟨by omega, by omega⟩
theorem Lt.irr {p : Pl} (a : Lt p p) : False := by
  rcases a with a | ⟨_, a⟩ <;> omega
theorem Lt.asymm {p q : Pl} (a : Lt p q) (b : Lt q p) : False := (a.trans b).irr
theorem lt_or {p q : Pl} (h : p ≠ q) : Lt p q ∨ Lt q p := by
  rcases Nat.lt_trichotomy p.1 q.1 with c | c | c
  · exact .inl (.inl c)
  · rcases Nat.lt_trichotomy p.2 q.2 with d | d | d
    · exact .inl (.inr ⟨c, d⟩)
    · exact absurd (Prod.ext c d) h
    · exact .inr (.inr ⟨c.symm, d⟩)
  · exact .inr (.inl c)
theorem plD_sorted (k : Str) (L : Nat) (rs : List RowD) : ∀ n, (plD k L rs n).Pairwise Lt ∧ ∀ p ∈ plD k L rs n, p.1 < n := by
  intro n
  induction n with
  | zero => exact ⟨List.Pairwise.nil, fun p hp => by cases hp⟩
  | succ n ih =>
    have e : plD k L rs (n + 1) = plD k L rs n ++ (match rs[n]? with | some r => plOf k L n r | none => []) := by
      unfold plD
      rw [List.range_succ, List.flatMap_append]
      cases h : rs[n]? <;> simp [h]
    rw [e]
    have one : ∀ p ∈ (match rs[n]? with | some r => plOf k L n r | none => []), p.1 = n := fun p hp => by
      split at hp
      · unfold plOf at hp
        split at hp
        · obtain ⟨b, _, rfl⟩ := List.mem_map.mp hp
          rfl
        · cases hp
      · cases hp
    refine ⟨List.pairwise_append.mpr ⟨ih.1, ?_, fun p hp q hq => .inl ?_⟩, fun p hp => ?_⟩
    · split
      · unfold plOf
        split
        · rw [List.pairwise_map]
          exact List.Pairwise.imp (fun h => .inr ⟨rfl, h⟩) List.pairwise_lt_range
        · exact List.Pairwise.nil
      · exact List.Pairwise.nil
    · rw [one q hq]
      exact ih.2 p hp
    · rcases List.mem_append.mp hp with z | z
      · exact Nat.lt_succ_of_lt (ih.2 p z)
      · rw [one p z]
        exact Nat.lt_succ_self n
/-- in a sorted list what is less stands ahead -/
theorem sorted_take {l : List Pl} (s : l.Pairwise Lt) {i : Nat} {c q : Pl} (h : l[i]? = some c) (hq : q ∈ l) (lt : Lt q c) : q ∈ l.take i := by
  obtain ⟨j, hj⟩ := List.mem_iff_getElem?.mp hq
  obtain ⟨i1, i2⟩ := List.getElem?_eq_some_iff.mp h
  obtain ⟨j1, j2⟩ := List.getElem?_eq_some_iff.mp hj
  have ji : j < i := by
    rcases Nat.lt_trichotomy j i with z | z | z
    · exact z
    · subst z
      rw [h] at hj
      cases hj
      exact lt.irr.elim
    · have := List.pairwise_iff_getElem.mp s i j i1 j1 z
      rw [i2, j2] at this
      exact (this.asymm lt).elim
  exact List.mem_of_getElem? (i := j) (by rw [List.getElem?_take, if_pos ji]; exact hj)
/-- the words of blocks of the length L -/
def UsedP (L : Nat) (bl : List Pl) (a x : Nat) : Prop := ∃ p ∈ bl, p.1 = a ∧ p.2 ≤ x ∧ x < p.2 + L
def FreeP (L : Nat) (bl : List Pl) (p : Pl) : Prop := ∀ x, p.2 ≤ x → x < p.2 + L → ¬ UsedP L bl p.1 x
theorem UsedP.mono {L : Nat} {bl bl' : List Pl} {a x : Nat} (s : ∀ p ∈ bl, p ∈ bl') (h : UsedP L bl a x) : UsedP L bl' a x := let ⟨p, h1, h2⟩ := h; ⟨p, s p h1, h2⟩
theorem FreeP.mono {L : Nat} {bl bl' : List Pl} {p : Pl} (s : ∀ p ∈ bl, p ∈ bl') (h : FreeP L bl' p) : FreeP L bl p := fun x h1 h2 u => h x h1 h2 (u.mono s)
/-- the ends tell it -/
theorem free_ends {L : Nat} {bl : List Pl} {p : Pl} (hL : 1 ≤ L) (h1 : ¬ UsedP L bl p.1 p.2) (h2 : ¬ UsedP L bl p.1 (p.2 + L - 1)) : FreeP L bl p := by
  rintro x a b ⟨q, q1, q2, q3, q4⟩
  rcases Nat.lt_or_ge p.2 q.2 with c | c
  · exact h2 ⟨q, q1, q2, by omega, by omega⟩
  · exact h1 ⟨q, q1, q2, c, by omega⟩
/-- what used holds -/
def UsedOk (L : Nat) (bl : List Pl) (kvs : UsedD) : Prop := ∀ a x, usedB kvs a x = true ↔ UsedP L bl a x
theorem free_iff {L : Nat} {bl : List Pl} {kvs : UsedD} (hL : 1 ≤ L) (U : UsedOk L bl kvs) {p : Pl} : freeB kvs L p = true ↔ FreeP L bl p := by
  unfold freeB
  rw [Bool.and_eq_true, Bool.not_eq_true', Bool.not_eq_true']
  constructor
  · rintro ⟨h1, h2⟩
    refine free_ends hL (fun z => ?_) fun z => ?_
    · rw [(U _ _).2 z] at h1
      cases h1
    · rw [(U _ _).2 z] at h2
      cases h2
  · intro h
    constructor
    · cases e : usedB kvs p.1 p.2 with
      | false => rfl
      | true => exact absurd ((U _ _).1 e) (h _ (Nat.le_refl _) (by omega))
    · cases e : usedB kvs p.1 (p.2 + L - 1) with
      | false => rfl
      | true => exact absurd ((U _ _).1 e) (h _ (by omega) (by omega))
theorem plK_inj {a b a' b' : Nat} (h : plK a b = plK a' b') : a = a' ∧ b = b' := by
  have h1 := List.cons.inj h
  have h2 := List.cons.inj h1.2
  exact ⟨Int.ofNat.inj (Sum.inl.inj h1.1), Int.ofNat.inj (Sum.inl.inj h2.1)⟩
theorem usedB_useD (kvs : UsedD) (a b a' x : Nat) : ∀ n, usedB (useD kvs a b n) a' x = true ↔ usedB kvs a' x = true ∨ a' = a ∧ b ≤ x ∧ x < b + n
  | 0 => ⟨.inl, fun h => h.elim id fun z => by omega⟩
  | n + 1 => by
    have ih := usedB_useD kvs a b a' x n
    have e : usedB (useD kvs a b (n + 1)) a' x = true ↔ (a' = a ∧ x = b + n) ∨ usedB (useD kvs a b n) a' x = true := by
      show (valV (putK (useD kvs a b n) (plK a (b + n)) (.bl true)) (plK a' x)).isSome = true ↔ _
      rw [valV_put]
      by_cases c : plK a' x = plK a (b + n)
      · rw [if_pos c]
        exact ⟨fun _ => .inl (plK_inj c), fun _ => rfl⟩
      · rw [if_neg c]
        exact ⟨.inr, fun h => h.elim (fun z => absurd (by rw [z.1, z.2]) c) id⟩
    rw [e, ih]
    constructor
    · rintro (⟨z1, z2⟩ | z | ⟨z1, z2, z3⟩)
      · exact .inr ⟨z1, by omega, by omega⟩
      · exact .inl z
      · exact .inr ⟨z1, z2, by omega⟩
    · rintro (z | ⟨z1, z2, z3⟩)
      · exact .inr (.inl z)
      · by_cases c : x = b + n
        · exact .inl ⟨z1, c⟩
        · exact .inr (.inr ⟨z1, z2, by omega⟩)
theorem UsedOk.put {L : Nat} {bl : List Pl} {kvs : UsedD} (U : UsedOk L bl kvs) (p : Pl) : UsedOk L (bl ++ [p]) (useD kvs p.1 p.2 L) := fun a x => by
  rw [usedB_useD, U a x]
  constructor
  · rintro (⟨q, h1, h2⟩ | ⟨h1, h2, h3⟩)
    · exact ⟨q, List.mem_append_left _ h1, h2⟩
    · exact ⟨p, List.mem_append_right _ (List.mem_singleton.mpr rfl), h1.symm, h2, h3⟩
  · rintro ⟨q, h1, h2, h3, h4⟩
    rcases List.mem_append.mp h1 with z | z
    · exact .inl ⟨q, z, h2, h3, h4⟩
    · rw [List.mem_singleton.mp z] at h2 h3 h4
      exact .inr ⟨h2.symm, h3, h4⟩
theorem nextD_spec (kvs : UsedD) (L : Nat) : ∀ q : List Pl, (∃ pre c q', nextD kvs L q = (some c, q') ∧ q = pre ++ c :: q' ∧ (∀ p ∈ pre, freeB kvs L p = false) ∧ freeB kvs L c = true) ∨ (nextD kvs L q = (none, []) ∧ ∀ p ∈ q, freeB kvs L p = false)
  | [] => .inr ⟨rfl, fun p hp => by cases hp⟩
  | c :: q => by
    have e : nextD kvs L (c :: q) = if freeB kvs L c = true then (some c, q) else nextD kvs L q := rfl
    cases h : freeB kvs L c with
    | true =>
      rw [h] at e
      exact .inl ⟨[], c, q, e, rfl, (fun p hp => by cases hp), h⟩
    | false =>
      rw [h] at e
      have e : nextD kvs L (c :: q) = nextD kvs L q := e
      rcases nextD_spec kvs L q with ⟨pre, c', q', h1, h2, h3, h4⟩ | ⟨h1, h2⟩
      · refine .inl ⟨c :: pre, c', q', e.trans h1, by rw [h2]; rfl, fun p hp => ?_, h4⟩
        rcases List.mem_cons.mp hp with z | z
        · rw [z]
          exact h
        · exact h3 p z
      · refine .inr ⟨e.trans h1, fun p hp => ?_⟩
        rcases List.mem_cons.mp hp with z | z
        · rw [z]
          exact h
        · exact h2 p z
abbrev Pr := Pl × Pl
def blkOf (ps : List Pr) : List Pl := ps.flatMap fun p => [p.1, p.2]
theorem blkOf_snoc (ps : List Pr) (p : Pr) : blkOf (ps ++ [p]) = blkOf ps ++ [p.1] ++ [p.2] := by
  unfold blkOf
  simp
theorem blkOf_mem {ps : List Pr} {p : Pr} (h : p ∈ ps) : p.1 ∈ blkOf ps ∧ p.2 ∈ blkOf ps := by
  unfold blkOf
  exact ⟨List.mem_flatMap.mpr ⟨p, h, by simp⟩, List.mem_flatMap.mpr ⟨p, h, by simp⟩⟩
abbrev cutP (rs : List RowD) (L : Nat) : List Pl := plD "cut" L rs rs.length
abbrev putP (rs : List RowD) (L : Nat) : List Pl := plD "put" L rs rs.length
/-- the first pair that is free -/
structure First (rs : List RowD) (L : Nat) (bl : List Pl) (c p : Pl) : Prop where
  cin : c ∈ cutP rs L
  pin : p ∈ putP rs L
  cfr : FreeP L bl c
  pfr : FreeP L bl p
  eq : runD rs L p = runD rs L c
  cut1 : ∀ c' ∈ cutP rs L, Lt c' c → FreeP L bl c' → ∀ p' ∈ putP rs L, FreeP L bl p' → runD rs L p' ≠ runD rs L c'
  put1 : ∀ p' ∈ putP rs L, Lt p' p → FreeP L bl p' → runD rs L p' ≠ runD rs L c
def Greedy (rs : List RowD) (L : Nat) (ps : List Pr) : Prop := ∀ (j : Nat) (c p : Pl), ps[j]? = some (c, p) → First rs L (blkOf (ps.take j)) c p
def NoMore (rs : List RowD) (L : Nat) (bl : List Pl) (cs : List Pl) : Prop := ∀ c ∈ cs, FreeP L bl c → ∀ p ∈ putP rs L, FreeP L bl p → runD rs L p ≠ runD rs L c
theorem Greedy.snoc {rs : List RowD} {L : Nat} {ps : List Pr} {c p : Pl} (g : Greedy rs L ps) (f : First rs L (blkOf ps) c p) : Greedy rs L (ps ++ [(c, p)]) := fun j c' p' e => by
  rcases Nat.lt_trichotomy j ps.length with z | z | z
  · rw [List.getElem?_append_left z] at e
    have q := g j c' p' e
    rw [List.take_append_of_le_length (Nat.le_of_lt z)]
    exact q
  · subst z
    rw [List.getElem?_append_right (Nat.le_refl _), Nat.sub_self] at e
    cases e
    rw [List.take_append_of_le_length (Nat.le_refl _), List.take_length]
    exact f
  · rw [List.getElem?_eq_none (by rw [List.length_append]; show ps.length + 1 ≤ j; omega)] at e
    cases e
theorem NoMore.mono {rs : List RowD} {L : Nat} {bl bl' : List Pl} {cs : List Pl} (s : ∀ p ∈ bl, p ∈ bl') (h : NoMore rs L bl cs) : NoMore rs L bl' cs := fun c hc f p hp f' => h c hc (f.mono s) p hp (f'.mono s)
theorem NoMore.snoc {rs : List RowD} {L : Nat} {bl : List Pl} {cs : List Pl} {c : Pl} (h : NoMore rs L bl cs) (q : FreeP L bl c → ∀ p ∈ putP rs L, FreeP L bl p → runD rs L p ≠ runD rs L c) : NoMore rs L bl (cs ++ [c]) := fun c' hc' => by
  rcases List.mem_append.mp hc' with z | z
  · exact h c' z
  · rw [List.mem_singleton.mp z]
    exact q
theorem mem_runsAt {rs : List RowD} {L : Nat} {ps : List Pl} {l : List Str} {p : Pl} : p ∈ runsAt rs L ps l ↔ p ∈ ps ∧ runD rs L p = l := by
  unfold runsAt
  rw [List.mem_filter, decide_eq_true_eq]
theorem runsAt_sorted (rs : List RowD) (L : Nat) (l : List Str) : (runsAt rs L (putP rs L) l).Pairwise Lt := List.Pairwise.filter _ (plD_sorted _ _ _ _).1
/-- what is left of the lists of places -/
def Left (rs : List RowD) (L : Nat) (bl : List Pl) (m : List Str → List Pl) : Prop := ∀ l, ∃ pre, runsAt rs L (putP rs L) l = pre ++ m l ∧ ∀ p ∈ pre, ¬ FreeP L bl p
theorem Left.mono {rs : List RowD} {L : Nat} {bl bl' : List Pl} {m : List Str → List Pl} (s : ∀ p ∈ bl, p ∈ bl') (h : Left rs L bl m) : Left rs L bl' m := fun l => let ⟨pre, h1, h2⟩ := h l; ⟨pre, h1, fun p hp f => h2 p hp (f.mono s)⟩
theorem FreeP.not {L : Nat} (hL : 1 ≤ L) {bl : List Pl} {p : Pl} (h : p ∈ bl) : ¬ FreeP L bl p := fun f => f p.2 (Nat.le_refl _) (by omega) ⟨p, h, rfl, Nat.le_refl _, by omega⟩
/-! ### the pairs of a pass -/
def PrAt (K : PySem.W.Frag) (H : Hp) (zs : List V) (ps : List Pr) : Prop := zs.length = ps.length ∧ ∀ (i : Nat) (v : V), zs[i]? = some v → ∃ c p T C D, ps[i]? = some (c, p) ∧ v = .ref T ∧ SqT K H T [.ref C, .ref D] ∧ SqT K H C [.int (c.1 : Int), .int (c.2 : Int)] ∧ SqT K H D [.int (p.1 : Int), .int (p.2 : Int)]
theorem PrAt.same {K : PySem.W.Frag} {H H' : Hp} {zs : List V} {ps : List Pr} (s : Same H H') (h : PrAt K H zs ps) : PrAt K H' zs ps :=
  ⟨h.1, fun i v e => let ⟨c, p, T, C, D, h1, h2, h3, h4, h5⟩ := h.2 i v e; ⟨c, p, T, C, D, h1, h2, sameT s h3, sameT s h4, sameT s h5⟩⟩
theorem SameB.pr {K : PySem.W.Frag} {d : Addr} {H H' : Hp} {zs : List V} {ps : List Pr} (s : SameB d H H') (hd : ∀ ys, ¬ Rd H d (.tup ys)) (h : PrAt K H zs ps) : PrAt K H' zs ps :=
  ⟨h.1, fun i v e => let ⟨c, p, T, C, D, h1, h2, h3, h4, h5⟩ := h.2 i v e; ⟨c, p, T, C, D, h1, h2, s.sqT hd h3, s.sqT hd h4, s.sqT hd h5⟩⟩
theorem PrAt.snoc {K : PySem.W.Frag} {H : Hp} {zs : List V} {ps : List Pr} {c p : Pl} {T C D : Addr} (h : PrAt K H zs ps) (h3 : SqT K H T [.ref C, .ref D]) (h4 : SqT K H C [.int (c.1 : Int), .int (c.2 : Int)]) (h5 : SqT K H D [.int (p.1 : Int), .int (p.2 : Int)]) : PrAt K H (zs ++ [.ref T]) (ps ++ [(c, p)]) := by
  refine ⟨by rw [List.length_append, List.length_append, h.1]; rfl, fun i v e => ?_⟩
  rcases Nat.lt_or_ge i zs.length with z | z
  · rw [List.getElem?_append_left z] at e
    obtain ⟨c, p, T, C, D, h1, h2⟩ := h.2 i v e
    exact ⟨c, p, T, C, D, by rw [List.getElem?_append_left (by rw [← h.1]; exact z)]; exact h1, h2⟩
  · rw [List.getElem?_append_right z] at e
    have hi : i = zs.length := by
      have := (List.getElem?_eq_some_iff.mp e).1
      have : i - zs.length < 1 := this
      omega
    subst hi
    rw [Nat.sub_self] at e
    cases e
    exact ⟨c, p, T, C, D, by rw [h.1, List.getElem?_append_right (Nat.le_refl _), Nat.sub_self]; rfl, rfl, h3, h4, h5⟩
theorem same_new {H H1 H2 : Hp} {x : Addr} (s : Same H H1) (b : SameB x H1 H2) (n : H x = none) : Same H H2 := fun c o e => b c o (fun z => by subst z; rw [n] at e; cases e) (s c o e)
theorem noTupD {H : Hp} {d : Addr} {kvs : UsedD} (h : H d = some (.dT kvs)) : ∀ ys, ¬ Rd H d (.tup ys) := by
  rintro ys (z | ⟨o, z⟩)
  · rw [h] at z
    cases z
  · rw [h] at z
    cases z
theorem PPl.far {K : PySem.W.Frag} {H0 H H' : Hp} {d x : Addr} {kvs : UsedD} {m : List Str → List Pl} (h : PPl K H0 H d kvs m) (sb : SameB x H H') (hx : ∀ ys, ¬ Rd H x (.tup ys)) (n1 : d ≠ x) (n2 : ∀ l D, valV kvs (txK l) = some (.ref D) → D ≠ x) : PPl K H0 H' d kvs m :=
  ⟨sb _ _ n1 h.dic, fun l v e => by
    obtain ⟨D, ys, rfl, h2, h3, h4⟩ := h.lsts l v e
    exact ⟨D, ys, rfl, sb _ _ (n2 l D e) h2, sb.pairs hx h3, h4⟩, h.nil, h.inj⟩
/-- a pass under way: i cut places looked at -/
structure Pass (K : PySem.W.Frag) (H H' : Hp) (rs : List RowD) (L : Nat) (d d2 D3 D4 : Addr) (kvs1 : UsedD) (ys : List V) (i : Nat) (kvs2 : UsedD) (zs : List V) (ps : List Pr) (m : List Str → List Pl) : Prop where
  sm : Same H H'
  pl : PPl K H H' d kvs1 m
  us : H' d2 = some (.dT kvs2)
  ok : UsedOk L (blkOf ps) kvs2
  ul : kvs2.length ≤ 2000 * ps.length
  d3 : H' D3 = some (.lst zs)
  pr : PrAt K H' zs ps
  d4 : H' D4 = some (.lst ys)
  le : ps.length ≤ i
  gr : Greedy rs L ps
  nm : NoMore rs L (blkOf ps) ((cutP rs L).take i)
  lf : Left rs L (blkOf ps) m
section
variable {P : Program} {w : World} {K : PySem.W.Frag} {mg : Str → Option Value} {base : Heap}
theorem scPairsOf : FnScope ["rows", "length", "put_places", "used", "pairs", "cut_place", "run", "put_place"] ["rows", "length"] (defScope sPairsOf) := ⟨rfl, rfl, rfl, by decide +kernel, rfl, by decide +kernel, by decide +kernel⟩
def spPairsOf (K : PySem.W.Frag) : Sp := fun vs H Q _ => ∃ (p : Addr) (xs : List V) (rs : List RowD) (L : Nat), vs = [.ref p, .int (L : Int)] ∧ SqL K H p xs ∧ RowsT K H xs rs ∧ Small rs ∧ (putP rs L).length ≤ 299 ∧ (cutP rs L).length ≤ 1000 ∧ 1 ≤ L ∧ L ≤ 5000 ∧
  ∀ (H' : Hp) (D : Addr) (zs : List V) (ps : List Pr), Same H H' → H D = none → H' D = some (.lst zs) → PrAt K H' zs ps → ps.length ≤ 1000 → Greedy rs L ps → NoMore rs L (blkOf ps) (cutP rs L) → Q (.ref D) H'
theorem ok_pairs_of {f fP fR fA fI fN fU : Addr} {fd fdP fdR fdA fdI fdN fdU : FuncData} (F : FnP K "pairs_of" sPairsOf f fd)
    (GP : FnOk P w K mg base (L2.CX P w) 1 fP fdP ["rows", "kind", "length"] (spPlaces K)) (kP : PySem.W.keepIn K (.ref fP) = true) (bP : Binds K fdP ["rows", "kind", "length"] []) (gP : mg "places_in" = some (.ref fP))
    (GR : FnOk P w K mg base (L2.CX P w) 1 fR fdR ["rows", "place", "length"] (spRunAt K)) (kR : PySem.W.keepIn K (.ref fR) = true) (bR : Binds K fdR ["rows", "place", "length"] []) (gR : mg "run_at" = some (.ref fR))
    (GA : FnOk P w K mg base (L2.CX P w) 2 fA fdA ["rows", "length"] (spPutPlaces K)) (kA : PySem.W.keepIn K (.ref fA) = true) (bA : Binds K fdA ["rows", "length"] []) (gA : mg "put_places_of" = some (.ref fA))
    (GI : FnOk P w K mg base (L2.CX P w) 1 fI fdI ["used", "place", "length"] (spIsFree K)) (kI : PySem.W.keepIn K (.ref fI) = true) (bI : Binds K fdI ["used", "place", "length"] []) (gI : mg "is_free" = some (.ref fI))
    (GN : FnOk P w K mg base (L2.CX P w) 2 fN fdN ["places", "used", "length"] (spNextFree K)) (kN : PySem.W.keepIn K (.ref fN) = true) (bN : Binds K fdN ["places", "used", "length"] []) (gN : mg "next_free" = some (.ref fN))
    (GU : FnOk P w K mg base (L2.CX P w) 1 fU fdU ["used", "place", "length"] (spUse K)) (kU : PySem.W.keepIn K (.ref fU) = true) (bU : Binds K fdU ["used", "place", "length"] []) (gU : mg "use" = some (.ref fU)) :
    FnOk P w K mg base (L2.CX P w) 3 f fd ["rows", "length"] (spPairsOf K) := by
  refine F.ok scPairsOf (fun vs H Q E h => ?_) (fun cdv A outer s H vs Q E hr h => ?_)
  · obtain ⟨p, xs, rs, L, rfl, _⟩ := h
    rfl
  · obtain ⟨p, xs, rs, L, rfl, hp, hR, hs, few, few2, hL, hL2, q⟩ := h
    have r1 : Room 1 (A.deeper (envOfC "pairs_of" (defScope sPairsOf) s.heap.objs.size f cdv)) := hr.mono (by decide)
    refine ⟨_, pss_cons (ps_set (i := 2) scPairsOf.nd rfl (.inl rfl) (pe_call GA hr (by rfl) gA kA bA .nil passL (pa_cons (pv 0) (pa_cons (pv 1) pa_nil))))
      (pss_cons (ps_set (i := 3) scPairsOf.nd rfl (.inl rfl) pe_dnewT)
      (pss_cons (ps_set (i := 4) scPairsOf.nd rfl (.inl rfl) (pe_lst pa_nil))
      (pss_cons (ps_for (passes_of rfl) rfl (pi_list (pe_call GP r1 (by rfl) gP kP bP .nil passL (pa_cons (pv 0) (pa_cons pe_str (pa_cons (pv 1) pa_nil))))) (pg_name (i := 5) scPairsOf.nd rfl (.inl rfl))
        (pss_cons (ps_set (i := 6) scPairsOf.nd rfl (.inl rfl) (pe_call GR r1 (by rfl) gR kR bR .nil passL (pa_cons (pv 0) (pa_cons (pv 5) (pa_cons (pv 1) pa_nil)))))
        (pss_one (ps_if (PW.pt (pw_and (pt_cmp (pc_din (hu_of hr) (pv 6) (pv 2)) (by rfl)) (pw_and1 (pt_val (pe_call GI r1 (by rfl) gI kI bI .nil passL (pa_cons (pv 3) (pa_cons (pv 5) (pa_cons (pv 1) pa_nil))))))))
          (pss_cons (ps_set (i := 7) scPairsOf.nd rfl (.inl rfl) (pe_call GN hr (by rfl) gN kN bN .nil passL (pa_cons (pe_dget (hu_of hr) (pv 2) (pv 6) (fun _ _ => rfl)) (pa_cons (pv 3) (pa_cons (pv 1) pa_nil)))))
          (pss_one (ps_if (pt_cmp (pc_notN (pv 7)) (by rfl))
            (pss_cons (ps_expr (pe_call GU r1 (by rfl) gU kU bU .nil passL (pa_cons (pv 3) (pa_cons (pv 5) (pa_cons (pv 1) pa_nil)))))
            (pss_cons (ps_expr (pe_call GU r1 (by rfl) gU kU bU .nil passL (pa_cons (pv 3) (pa_cons (pv 7) (pa_cons (pv 1) pa_nil)))))
            (pss_one (ps_expr (pe_bm PySem.F.plainAttrs_list PySem.F.slot_list_append PySem.F.type_list_append mt_append (pv 4) (pa_cons (pe_tup (pa_cons (pv 5) (pa_cons (pv 7) pa_nil))) pa_nil)))))) pss_nil)))
          pss_nil))))
      (pss_one (ps_ret (pv 4)))))), ?_⟩
    refine ⟨_, rfl, _, rfl, p, xs, rs, L, rfl, hp, hR, hs, few, hL, hL2, fun H1 d kvs1 s1 nd hm1 => ?_⟩
    intro d2 nd2
    have dd2 : d ≠ d2 := ne_of_none hm1.dic nd2
    have u1 := same_upd nd2 (o := .dT [])
    refine ⟨by show 0 ≤ sizeLine; decide, fun D3 nD3 => ?_⟩
    have u2 := same_upd nD3 (o := .lst [])
    have u12 := u1.trans u2
    have hd2 : (upd (upd H1 d2 (.dT [])) D3 (.lst [])) d2 = some (.dT []) := u2 _ _ upd_same
    have hD3 : (upd (upd H1 d2 (.dT [])) D3 (.lst [])) D3 = some (.lst []) := upd_same
    have nD3' : H1 D3 = none := same_none u1 nD3
    generalize upd (upd H1 d2 (.dT [])) D3 (.lst []) = H2 at u12 hd2 hD3
    have s2 := s1.trans u12
    refine ⟨_, rfl, _, rfl, p, xs, rs, "cut", L, rfl, s2.seq hp, (hR.same s2).at, hs.1, hs.2, hL, hL2, fun H3 D4 ys s3 nD4 hD4 hP4 => ?_⟩
    have s13 := u12.trans s3
    have nD4' : H1 D4 = none := same_none u12 nD4
    have s03 := s1.trans s13
    have far : ∀ l D, valV kvs1 (txK l) = some (.ref D) → D ≠ D3 ∧ D ≠ D4 ∧ D ≠ d2 := fun l D e => by
      obtain ⟨D', ys', e1, h2, _⟩ := hm1.lsts l _ e
      cases e1
      exact ⟨ne_of_none h2 nD3', ne_of_none h2 nD4', ne_of_none h2 nd2⟩
    have D34 : D3 ≠ D4 := ne_of_none hD3 nD4
    have yl : ys.length = (cutP rs L).length := hP4.1
    have n2 : H d2 = none := same_none s1 nd2
    have n3 : H D3 = none := same_none s1 nD3'
    refine ⟨D4, rfl, ⟨_, .inl (.inl hD4)⟩, for_list (xs := ys) (fun i σ' H' => PairsAt K H' ys (cutP rs L) ∧ ∃ kvs2 zs ps m y5 y6 y7, Pass K H H' rs L d d2 D3 D4 kvs1 ys i kvs2 zs ps m ∧ σ' = [some (.ref p), some (.int (L : Int)), some (.ref d), some (.ref d2), some (.ref D3), y5, y6, y7]) ?_ (fun i σ' H' _ hp' => ?_) (fun i x σ' H' hx hp' => ?_) (fun σ' H' hp' => ?_)⟩
    · refine ⟨hP4, [], [], [], _, none, none, none, ⟨s03, hm1.same s13, s3 _ _ hd2, (fun a x => ⟨fun z => (by cases z), fun ⟨p, z, _⟩ => (by cases z)⟩), Nat.zero_le _, s3 _ _ hD3, ⟨rfl, fun i v e => by cases e⟩, hD4, Nat.le_refl _, fun j c p e => (by cases e), fun c hc => (by cases hc), fun l => ⟨[], rfl, fun p hp => by cases hp⟩⟩, rfl⟩
    · obtain ⟨_, kvs2, zs, ps, m, y5, y6, y7, I, _⟩ := hp'
      exact .inl (.inl I.d4)
    · obtain ⟨hP, kvs2, zs, ps, m, y5, y6, y7, I, rfl⟩ := hp'
      obtain ⟨a, b, T, e1, rfl, hT⟩ := hP.get hx
      have hi : i < ys.length := (List.getElem?_eq_some_iff.mp hx).1
      have cin := List.mem_of_getElem? e1
      obtain ⟨r, hr1, hr2, hr3⟩ := mem_plD.1 cin
      have rl := hs.1 r (List.mem_of_getElem? hr1)
      have e2 : (r.ws.drop b).take L = runD rs L (a, b) := (runD_at hr1).symm
      refine ⟨_, rfl, _, rfl, _, rfl, p, T, xs, rs, a, b, L, r, rfl, I.sm.seq hp, hR.same I.sm, hT, hr1, hr3, fun H4 W s4 hW => ?_⟩
      rw [e2, ← txK_V] at hW
      have I4 : Pass K H H4 rs L d d2 D3 D4 kvs1 ys i kvs2 zs ps m := ⟨I.sm.trans s4, I.pl.same s4, s4 _ _ I.us, I.ok, I.ul, s4 _ _ I.d3, I.pr.same s4, s4 _ _ I.d4, I.le, I.gr, I.nm, I.lf⟩
      have hP4 := hP.same s4
      have hT4 := sameT s4 hT
      clear I hP hT
      -- nothing is found at this place
      have skip : ∀ (H5 : Hp) (m' : List Str → List Pl) (y : Option V), Pass K H H5 rs L d d2 D3 D4 kvs1 ys i kvs2 zs ps m' → PairsAt K H5 ys (cutP rs L) → (FreeP L (blkOf ps) (a, b) → ∀ p' ∈ putP rs L, FreeP L (blkOf ps) p' → runD rs L p' ≠ runD rs L (a, b)) →
          PairsAt K H5 ys (cutP rs L) ∧ ∃ kvs2 zs ps m y5 y6 y7, Pass K H H5 rs L d d2 D3 D4 kvs1 ys (i + 1) kvs2 zs ps m ∧ ([some (.ref p), some (.int (L : Int)), some (.ref d), some (.ref d2), some (.ref D3), some (.ref T), some (.ref W), y] : L2.St) = [some (.ref p), some (.int (L : Int)), some (.ref d), some (.ref d2), some (.ref D3), y5, y6, y7] := fun H5 m' y J hP5 no => by
        refine ⟨hP5, kvs2, zs, ps, m', some (.ref T), some (.ref W), y, ⟨J.sm, J.pl, J.us, J.ok, J.ul, J.d3, J.pr, J.d4, Nat.le_succ_of_le J.le, J.gr, ?_, J.lf⟩, rfl⟩
        rw [take_snoc e1]
        exact J.nm.snoc no
      refine ⟨_, rfl, _, rfl, d, _, rfl, DGet.t I4.pl.dic hW, _, rfl, ?_⟩
      cases hv : valV kvs1 (txK (runD rs L (a, b))) with
      | none =>
        refine iteF (iteF (skip H4 m _ I4 hP4 fun _ p' hp1 hp2 e => ?_))
        have z := I4.pl.nil _ hv
        obtain ⟨pre, h1, h2⟩ := I4.lf (runD rs L (a, b))
        rw [z, List.append_nil] at h1
        exact h2 p' (by rw [← h1]; exact mem_runsAt.2 ⟨hp1, e⟩) hp2
      | some v =>
        refine iteT ⟨_, rfl, _, rfl, _, rfl, d2, T, kvs2, a, b, L, rfl, I4.us, hT4, hL, fun H5 s5 => ⟨_, rfl, ?_⟩⟩
        have I5 : Pass K H H5 rs L d d2 D3 D4 kvs1 ys i kvs2 zs ps m := ⟨I4.sm.trans s5, I4.pl.same s5, s5 _ _ I4.us, I4.ok, I4.ul, s5 _ _ I4.d3, I4.pr.same s5, s5 _ _ I4.d4, I4.le, I4.gr, I4.nm, I4.lf⟩
        have hP5 := hP4.same s5
        have hT5 := sameT s5 hT4
        have hW5 := s5 _ _ hW
        clear I4 hP4 hT4 hW
        have cf := free_iff hL I5.ok (p := (a, b))
        have ef : (!usedB kvs2 a b && !usedB kvs2 a (b + L - 1)) = freeB kvs2 L (a, b) := rfl
        rw [ef]
        cases hf : freeB kvs2 L (a, b) with
        | false =>
          refine iteF (skip H5 m _ I5 hP5 fun z => ?_)
          rw [cf.2 z] at hf
          cases hf
        | true =>
          have cfr := cf.1 hf
          obtain ⟨D', ls, rfl, hD', hPl, nHD⟩ := I5.pl.lsts _ _ hv
          obtain ⟨f3, f4, f2⟩ := far _ _ hv
          have nT := noTup hD'
          refine iteT ⟨_, rfl, _, rfl, d, _, rfl, by rw [← hv]; exact DGet.t I5.pl.dic hW5, ?_⟩
          refine ⟨_, rfl, _, rfl, D', d2, ls, m (runD rs L (a, b)), kvs2, L, rfl, hD', hPl, I5.us, hL, fun H6 ws sb hD6 hP6 => ?_⟩
          have I6 : ∀ q', PairsAt K H6 ws q'.reverse → (∃ pre, m (runD rs L (a, b)) = pre ++ q' ∧ ∀ p ∈ pre, ¬ FreeP L (blkOf ps) p) → Pass K H H6 rs L d d2 D3 D4 kvs1 ys i kvs2 zs ps (fun l' => if l' = runD rs L (a, b) then q' else m l') := fun q' hq ⟨pre, g1, g2⟩ =>
            ⟨same_new I5.sm sb nHD, I5.pl.set hv hD' sb hD6 hq, sb _ _ (Ne.symm f2) I5.us, I5.ok, I5.ul, sb _ _ (Ne.symm f3) I5.d3, sb.pr nT I5.pr, sb _ _ (Ne.symm f4) I5.d4, I5.le, I5.gr, I5.nm, fun l => by
              obtain ⟨pre0, h1, h2⟩ := I5.lf l
              by_cases z : l = runD rs L (a, b)
              · subst z
                rw [if_pos rfl]
                refine ⟨pre0 ++ pre, by rw [h1, g1, List.append_assoc], fun p hp => ?_⟩
                rcases List.mem_append.mp hp with z | z
                · exact h2 p z
                · exact g2 p z
              · rw [if_neg z]
                exact ⟨pre0, h1, h2⟩⟩
          have hP7 := sb.pairs nT hP5
          have hT6 := sb.sqT nT hT5
          obtain ⟨pre0, h1, h2⟩ := I5.lf (runD rs L (a, b))
          rcases nextD_spec kvs2 L (m (runD rs L (a, b))) with ⟨pre, c', q', g1, g2, g3, g4⟩ | ⟨g1, g2⟩
          · have g3' : ∀ p ∈ pre, ¬ FreeP L (blkOf ps) p := fun p hp f => by
              have := g3 p hp
              rw [(free_iff hL I5.ok).2 f] at this
              cases this
            have pfr := (free_iff hL I5.ok).1 g4
            refine ⟨fun z => (by rw [g1] at z; cases z), fun c'' T' z hT' => ?_⟩
            rw [g1] at z hP6
            cases z
            obtain ⟨a2, b2⟩ := c'
            have cm : (a2, b2) ∈ runsAt rs L (putP rs L) (runD rs L (a, b)) := by
              rw [h1, g2]
              exact List.mem_append_right _ (List.mem_append_right _ List.mem_cons_self)
            obtain ⟨pin, peq⟩ := mem_runsAt.1 cm
            obtain ⟨r', k1, k2, k3⟩ := mem_plD.1 pin
            have rl' := hs.1 r' (List.mem_of_getElem? k1)
            have fst : First rs L (blkOf ps) (a, b) (a2, b2) := ⟨cin, pin, cfr, pfr, peq, fun c' hc' lt fr => I5.nm c' (sorted_take (plD_sorted _ _ _ _).1 e1 hc' lt) fr, fun p' hp1 lt hp2 e => by
              have hm : p' ∈ runsAt rs L (putP rs L) (runD rs L (a, b)) := mem_runsAt.2 ⟨hp1, e⟩
              have so := runsAt_sorted rs L (runD rs L (a, b))
              rw [h1, g2] at hm so
              rcases List.mem_append.mp hm with z | z
              · exact h2 p' z hp2
              · rcases List.mem_append.mp z with z | z
                · exact g3' p' z hp2
                · rcases List.mem_cons.mp z with z | z
                  · subst z
                    exact lt.irr
                  · have so := (List.pairwise_append.mp so).2.1
                    have so := (List.pairwise_append.mp so).2.1
                    exact (List.rel_of_pairwise_cons so z).asymm lt⟩
            have bl3 := blkOf_snoc ps ((a, b), (a2, b2))
            have sub : ∀ p ∈ blkOf ps, p ∈ blkOf (ps ++ [((a, b), (a2, b2))]) := fun p hp => by
              rw [bl3]
              exact List.mem_append_left _ (List.mem_append_left _ hp)
            have inn := blkOf_mem (ps := ps ++ [((a, b), (a2, b2))]) (p := ((a, b), (a2, b2))) (by simp)
            have lf' : Left rs L (blkOf (ps ++ [((a, b), (a2, b2))])) (fun l' => if l' = runD rs L (a, b) then q' else m l') := fun l => by
              obtain ⟨pre1, h3, h4⟩ := I5.lf l
              by_cases z : l = runD rs L (a, b)
              · subst z
                dsimp only
                rw [if_pos rfl]
                refine ⟨pre1 ++ (pre ++ [(a2, b2)]), by rw [h3, g2]; simp, fun p hp f => ?_⟩
                rcases List.mem_append.mp hp with z | z
                · exact h4 p z (f.mono sub)
                · rcases List.mem_append.mp z with z | z
                  · exact g3' p z (f.mono sub)
                  · rw [List.mem_singleton.mp z] at f
                    exact FreeP.not hL inn.2 f
              · dsimp only
                rw [if_neg z]
                exact ⟨pre1, h3, fun p hp f => h4 p hp (f.mono sub)⟩
            have ul := I5.ul
            have pl := I5.le
            have pl2 : ps.length ≤ 1000 := by omega
            have len1 := useD_len kvs2 a b L
            have len2 := useD_len (useD kvs2 a b L) a2 b2 L
            have sm6 := same_new I5.sm sb nHD
            have pl6 := I5.pl.set hv hD' sb hD6 hP6
            have us6 := sb _ _ (Ne.symm f2) I5.us
            have d36 := sb _ _ (Ne.symm f3) I5.d3
            have pr6 := sb.pr nT I5.pr
            have d46 := sb _ _ (Ne.symm f4) I5.d4
            have n2T := noTupD us6
            have D32 : D3 ≠ d2 := ne_of d36 us6 (by intro z; cases z)
            have D42 : D4 ≠ d2 := ne_of d46 us6 (by intro z; cases z)
            refine ⟨_, rfl, true, rfl, iteT ⟨_, rfl, _, rfl, _, rfl, d2, T, kvs2, a, b, L, rfl, us6, hT6, by omega, by omega, fun H7 sb7 us7 => ?_⟩⟩
            have n2T7 := noTupD us7
            refine ⟨_, rfl, _, rfl, _, rfl, d2, T', useD kvs2 a b L, a2, b2, L, rfl, us7, sb7.sqT n2T hT', by omega, by omega, fun H8 sb8 us8 => ?_⟩
            have sb78 := sb7.trans sb8
            have sm8 := same_new sm6 sb78 n2
            have pl8 := pl6.far sb78 n2T dd2 fun l D e => (far l D e).2.2
            have d38 := sb78 _ _ D32 d36
            have pr8 := sb78.pr n2T pr6
            have d48 := sb78 _ _ D42 d46
            have hP8 := sb78.pairs n2T hP7
            have hT8 := sb78.sqT n2T hT6
            have hT8' := sb78.sqT n2T hT'
            refine ⟨_, rfl, .inl ⟨rfl, _, .inl (.inl d38)⟩, _, rfl, _, rfl, by show 2 ≤ sizeLine; decide, fun Z nZ => ?_⟩
            have s9 : Same H8 (upd H8 Z (.tup [.ref T, .ref T'])) := same_upd nZ
            have hZ : SqT K (upd H8 Z (.tup [.ref T, .ref T'])) Z [.ref T, .ref T'] := .inl (.inl upd_same)
            generalize upd H8 Z (.tup [.ref T, .ref T']) = H9 at s9 hZ
            have d39 := s9 _ _ d38
            have zl := (pr8.same s9).1
            have n3T := noTup d39
            have sbD : SameB D3 H9 (upd H9 D3 (.lst (zs ++ [.ref Z]))) := sameB_upd
            refine ⟨D3, zs, _, rfl, rfl, d39, Nat.lt_of_le_of_lt (show zs.length ≤ 1000 by omega) (by decide), sbD.pairs n3T (hP8.same s9), useD (useD kvs2 a b L) a2 b2 L, zs ++ [.ref Z], ps ++ [((a, b), (a2, b2))], _, some (.ref T), some (.ref W), some (.ref T'), ⟨same_new (sm8.trans s9) sbD n3, (pl8.same s9).far sbD n3T (ne_of (s9 _ _ pl8.dic) d39 (by intro z; cases z)) fun l D e => (far l D e).1, sbD _ _ (Ne.symm D32) (s9 _ _ us8), ?_, ?_, upd_same, ?_, sbD _ _ (Ne.symm D34) (s9 _ _ d48), ?_, I5.gr.snoc fst, ?_, lf'⟩, rfl⟩
            · rw [bl3]
              exact (I5.ok.put (a, b)).put (a2, b2)
            · rw [List.length_append]
              show _ ≤ 2000 * (ps.length + 1)
              omega
            · exact (sbD.pr n3T (pr8.same s9)).snoc (sqT_set n3T hZ) (sqT_set n3T (sameT s9 hT8)) (sqT_set n3T (sameT s9 hT8'))
            · rw [List.length_append]
              exact Nat.succ_le_succ pl
            · rw [take_snoc e1]
              exact (I5.nm.mono sub).snoc fun f => absurd f (FreeP.not hL inn.1)
          · refine ⟨fun _ => ?_, fun c T' z => (by rw [g1] at z; cases z)⟩
            rw [g1] at hP6
            refine ⟨_, rfl, false, rfl, iteF (skip H6 _ _ (I6 [] hP6 ⟨_, (List.append_nil _).symm, fun p hp f => ?_⟩) hP7 fun _ p' hp1 hp2 e => ?_)⟩
            · have := g2 p hp
              rw [(free_iff hL I5.ok).2 f] at this
              cases this
            · have hm : p' ∈ runsAt rs L (putP rs L) (runD rs L (a, b)) := mem_runsAt.2 ⟨hp1, e⟩
              rw [h1] at hm
              rcases List.mem_append.mp hm with z | z
              · exact h2 p' z hp2
              · have := g2 p' z
                rw [(free_iff hL I5.ok).2 hp2] at this
                cases this
    · obtain ⟨_, kvs2, zs, ps, m, y5, y6, y7, I, rfl⟩ := hp'
      have nm := I.nm
      rw [List.take_of_length_le (by rw [yl]; exact Nat.le_refl _)] at nm
      have le := I.le
      exact ⟨_, rfl, q H' D3 zs ps I.sm n3 I.d3 I.pr (by omega) I.gr nm⟩
end
/-! ### a row in parts -/
abbrev rLenB (K : PySem.W.Frag) : List V → Hp → (V → Hp → Prop) → Prop := fun xs H Q => ∃ p ys, xs = [V.ref p] ∧ (SqL K H p ys ∨ SqT K H p ys) ∧ Q (.int ys.length) H
def BnAt (H : Hp) (ys : List V) (bs : List (Nat × Nat)) : Prop := ys.length = bs.length ∧ ∀ (i : Nat) (v : V), ys[i]? = some v → ∃ b n T, bs[i]? = some (b, n) ∧ v = .ref T ∧ H T = some (.tup [.int ((b : Nat) : Int), .int ((n : Nat) : Int)])
theorem BnAt.same {H H' : Hp} {ys : List V} {bs : List (Nat × Nat)} (s : Same H H') (h : BnAt H ys bs) : BnAt H' ys bs :=
  ⟨h.1, fun i v e => let ⟨b, n, T, h1, h2, h3⟩ := h.2 i v e; ⟨b, n, T, h1, h2, s _ _ h3⟩⟩
theorem BnAt.snoc {H : Hp} {ys : List V} {bs : List (Nat × Nat)} {b n : Nat} {T : Addr} (h : BnAt H ys bs) (h3 : H T = some (.tup [.int (b : Int), .int (n : Int)])) : BnAt H (ys ++ [.ref T]) (bs ++ [(b, n)]) := by
  refine ⟨by rw [List.length_append, List.length_append, h.1]; rfl, fun i v e => ?_⟩
  rcases Nat.lt_or_ge i ys.length with z | z
  · rw [List.getElem?_append_left z] at e
    obtain ⟨b, n, T, h1, h2⟩ := h.2 i v e
    exact ⟨b, n, T, by rw [List.getElem?_append_left (by rw [← h.1]; exact z)]; exact h1, h2⟩
  · rw [List.getElem?_append_right z] at e
    have hi : i = ys.length := by
      have := (List.getElem?_eq_some_iff.mp e).1
      have : i - ys.length < 1 := this
      omega
    subst hi
    rw [Nat.sub_self] at e
    cases e
    exact ⟨b, n, T, by rw [h.1, List.getElem?_append_right (Nat.le_refl _), Nat.sub_self]; rfl, rfl, h3⟩
/-- the two ints of a tracked pair -/
def intsV (H : Hp) : V → Int × Int
  | .ref t => match H t with
    | some (.tup [.int x, .int y]) => (x, y)
    | _ => (0, 0)
  | _ => (0, 0)
theorem intsV_of {H : Hp} {T : Addr} {x y : Int} (h : H T = some (.tup [.int x, .int y])) : intsV H (.ref T) = (x, y) := by
  unfold intsV
  dsimp only
  rw [h]
theorem SameB.bn {d : Addr} {H H' : Hp} {ys : List V} {bs : List (Nat × Nat)} (s : SameB d H H') (hd : ∀ ys, ¬ Rd H d (.tup ys)) (h : BnAt H ys bs) : BnAt H' ys bs :=
  ⟨h.1, fun i v e => let ⟨b, n, T, h1, h2, h3⟩ := h.2 i v e; ⟨b, n, T, h1, h2, s _ _ (fun z => hd _ (.inl (z ▸ h3))) h3⟩⟩
theorem SameB.rowT {K : PySem.W.Frag} {d : Addr} {H H' : Hp} {v : V} {r : RowD} (s : SameB d H H') (hd : ∀ ys, ¬ Rd H d (.tup ys)) (h : RowT K H v r) : RowT K H' v r :=
  let ⟨T, W, e, h1, h2⟩ := h; ⟨T, W, e, s.sqT hd h1, s _ _ (fun z => hd _ (.inl (z ▸ h2))) h2⟩
theorem SameB.rows {K : PySem.W.Frag} {d : Addr} {H H' : Hp} {xs : List V} {rs : List RowD} (s : SameB d H H') (hd : ∀ ys, ¬ Rd H d (.tup ys)) (h : RowsT K H xs rs) : RowsT K H' xs rs :=
  ⟨h.1, fun i v e => let ⟨r, h1, h2⟩ := h.2 i v e; ⟨r, h1, s.rowT hd h2⟩⟩
def natsV (H : Hp) (v : V) : Nat × Nat := ((intsV H v).1.toNat, (intsV H v).2.toNat)
theorem BnAt.map {H : Hp} {ys : List V} {bs : List (Nat × Nat)} (h : BnAt H ys bs) : ys.map (natsV H) = bs := by
  refine List.ext_getElem? fun i => ?_
  rw [List.getElem?_map]
  cases e : ys[i]? with
  | none =>
    have := List.getElem?_eq_none_iff.mp e
    rw [List.getElem?_eq_none (by rw [← h.1]; exact this)]
    rfl
  | some v =>
    obtain ⟨b, n, T, h1, rfl, h3⟩ := h.2 i v e
    rw [h1]
    show some (natsV H (.ref T)) = _
    unfold natsV
    rw [intsV_of h3]
    rfl
/-- another order -/
theorem BnAt.perm {H : Hp} {ys zs : List V} {bs : List (Nat × Nat)} (h : BnAt H ys bs) (p : zs.Perm ys) : BnAt H zs (zs.map (natsV H)) ∧ (zs.map (natsV H)).Perm bs := by
  refine ⟨⟨by rw [List.length_map], fun i v e => ?_⟩, by rw [← h.map]; exact p.map _⟩
  have hm : v ∈ ys := p.mem_iff.mp (List.mem_of_getElem? e)
  obtain ⟨j, hj⟩ := List.mem_iff_getElem?.mp hm
  obtain ⟨b, n, T, _, rfl, h3⟩ := h.2 j v hj
  refine ⟨b, n, T, ?_, rfl, h3⟩
  rw [List.getElem?_map, e]
  show some (natsV H (.ref T)) = _
  unfold natsV
  rw [intsV_of h3]
  rfl
/-- a row's parts, plainly -/
def partD (k bk : Str) (ws : List Str) (L : Nat) : Nat → List (Nat × Nat) → List RowD
  | e, [] => [⟨k, 0, ws.drop e⟩]
  | e, (b, n) :: bs => ⟨k, 0, (ws.drop e).take (b - e)⟩ :: ⟨bk, (n : Int), (ws.drop b).take L⟩ :: partD k bk ws L (b + L) bs
def someB (r : RowD) : Bool := decide (0 < r.ws.length)
theorem partD_len (k bk : Str) (ws : List Str) (L : Nat) : ∀ (bs : List (Nat × Nat)) (e : Nat), (partD k bk ws L e bs).length = 2 * bs.length + 1
  | [], _ => rfl
  | (b, n) :: bs, e => by
    show (partD k bk ws L (b + L) bs).length + 1 + 1 = _
    rw [partD_len k bk ws L bs, List.length_cons]
    omega
/-- the parts ahead of the rest -/
def partsTo (k bk : Str) (ws : List Str) (L : Nat) : Nat → List (Nat × Nat) → List RowD
  | _, [] => []
  | e, (b, n) :: bs => ⟨k, 0, (ws.drop e).take (b - e)⟩ :: ⟨bk, (n : Int), (ws.drop b).take L⟩ :: partsTo k bk ws L (b + L) bs
def endTo (L : Nat) : Nat → List (Nat × Nat) → Nat
  | e, [] => e
  | _, (b, _) :: bs => endTo L (b + L) bs
theorem partsTo_end (k bk : Str) (ws : List Str) (L : Nat) : ∀ (bs : List (Nat × Nat)) (e : Nat), partD k bk ws L e bs = partsTo k bk ws L e bs ++ [⟨k, 0, ws.drop (endTo L e bs)⟩]
  | [], _ => rfl
  | (b, n) :: bs, e => by
    show _ :: _ :: partD k bk ws L (b + L) bs = _ :: _ :: (partsTo k bk ws L (b + L) bs ++ _)
    rw [partsTo_end k bk ws L bs]
    rfl
theorem partsTo_snoc (k bk : Str) (ws : List Str) (L : Nat) (b n : Nat) : ∀ (bs : List (Nat × Nat)) (e : Nat), partsTo k bk ws L e (bs ++ [(b, n)]) = partsTo k bk ws L e bs ++ [⟨k, 0, (ws.drop (endTo L e bs)).take (b - endTo L e bs)⟩, ⟨bk, (n : Int), (ws.drop b).take L⟩]
  | [], _ => rfl
  | (b', n') :: bs, e => by
    show _ :: _ :: partsTo k bk ws L (b' + L) (bs ++ [(b, n)]) = _
    rw [partsTo_snoc k bk ws L b n bs]
    rfl
theorem endTo_snoc (L b n : Nat) : ∀ (bs : List (Nat × Nat)) (e : Nat), endTo L e (bs ++ [(b, n)]) = b + L
  | [], _ => rfl
  | (b', n') :: bs, e => endTo_snoc L b n bs (b' + L)
theorem endTo_le {L m : Nat} : ∀ (bs : List (Nat × Nat)) (e : Nat), e ≤ m → (∀ p ∈ bs, p.1 + L ≤ m) → endTo L e bs ≤ m
  | [], _, h, _ => h
  | p :: bs, _, _, h => endTo_le bs _ (h p List.mem_cons_self) fun q hq => h q (List.mem_cons_of_mem _ hq)
theorem cut_mm (xs : List Str) (a b : Nat) (ha : a ≤ xs.length) (hb : b ≤ xs.length) : cutV (xs.map V.str) (some (a : Int)) (some (b : Int)) = ((xs.drop a).take (b - a)).map V.str := by
  unfold cutV
  rw [HT.sIx_nat, HT.sIx_nat, List.length_map, Nat.min_eq_left ha, Nat.min_eq_left hb, List.map_take, List.map_drop]
theorem cut_mn (xs : List Str) (a : Nat) (ha : a ≤ xs.length) : cutV (xs.map V.str) (some (a : Int)) none = (xs.drop a).map V.str := by
  unfold cutV
  rw [HT.sIx_nat, HT.sIx_none, List.length_map, Nat.min_eq_left ha, List.map_drop]
  exact List.take_of_length_le (by rw [List.length_drop, List.length_map]; exact Nat.le_refl _)
/-- a slice of a tracked tuple of words -/
theorem sl_mm {K : PySem.W.Frag} {H : Hp} {W : Addr} {ws : List Str} {a b : Nat} {Q : VK} (hW : H W = some (.tup (ws.map V.str))) (ha : a ≤ ws.length) (hb : b ≤ ws.length) (q : ∀ H' W', Same H H' → H' W' = some (.tup (((ws.drop a).take (b - a)).map V.str)) → Q (.ref W') H') :
    rSlA K (.ref W) (some (a : Int)) (some (b : Int)) H Q := by
  refine ⟨W, _, rfl, .inl (.inl hW), fun hw => q H W (Same.refl _) ?_, fun hw p np => q _ p (same_upd np) ?_⟩
  · rw [HT.sIx_nat, HT.sIx_nat, List.length_map, Nat.min_eq_left ha, Nat.min_eq_left hb] at hw
    obtain ⟨e1, e2⟩ := hw
    subst e1 e2
    rw [List.drop_zero, Nat.sub_zero, List.take_length]
    exact hW
  · rw [upd_same, cut_mm ws a b ha hb]
theorem sl_mn {K : PySem.W.Frag} {H : Hp} {W : Addr} {ws : List Str} {a : Nat} {Q : VK} (hW : H W = some (.tup (ws.map V.str))) (ha : a ≤ ws.length) (q : ∀ H' W', Same H H' → H' W' = some (.tup ((ws.drop a).map V.str)) → Q (.ref W') H') :
    rSlA K (.ref W) (some (a : Int)) none H Q := by
  refine ⟨W, _, rfl, .inl (.inl hW), fun hw => q H W (Same.refl _) ?_, fun hw p np => q _ p (same_upd np) ?_⟩
  · rw [HT.sIx_nat, List.length_map, Nat.min_eq_left ha] at hw
    obtain ⟨e1, _⟩ := hw
    subst e1
    rw [List.drop_zero]
    exact hW
  · rw [upd_same, cut_mn ws a ha]
/-- a new row put behind a list of rows -/
theorem app_row {K : PySem.W.Frag} {H : Hp} {D T W : Addr} {zs : List V} {rs : List RowD} {k : Str} {n : Int} {ws : List Str} (hD : H D = some (.lst zs)) (hZ : RowsT K H zs rs) (hW : H W = some (.tup (ws.map V.str))) (nT : H T = none) :
    (upd H T (.tup [.str k, .int n, .ref W])) D = some (.lst zs) ∧ SameB D H (upd (upd H T (.tup [.str k, .int n, .ref W])) D (.lst (zs ++ [.ref T]))) ∧ RowsT K (upd (upd H T (.tup [.str k, .int n, .ref W])) D (.lst (zs ++ [.ref T]))) (zs ++ [.ref T]) (rs ++ [⟨k, n, ws⟩]) := by
  have s1 : Same H (upd H T (.tup [.str k, .int n, .ref W])) := same_upd nT
  have hD1 := s1 _ _ hD
  have hT1 : (upd H T (.tup [.str k, .int n, .ref W])) T = some (.tup [.str k, .int n, .ref W]) := upd_same
  have hZ1 := hZ.same s1
  have hW1 := s1 _ _ hW
  generalize upd H T (.tup [.str k, .int n, .ref W]) = H1 at s1 hD1 hT1 hZ1 hW1 ⊢
  refine ⟨hD1, (same_b s1).trans sameB_upd, RowsT.set (noTup hD1) (hZ1.app (RowsT.one (r := ⟨k, n, ws⟩) ⟨T, W, rfl, .inl (.inl hT1), hW1⟩))⟩
theorem nat_add_int (a b : Nat) : (a : Int) + (b : Int) = ((a + b : Nat) : Int) := by omega
section
variable {P : Program} {w : World} {K : PySem.W.Frag} {mg : Str → Option Value} {base : Heap}
abbrev partedN : List Str := ["row", "block_kind", "blocks", "length", "kind", "_", "words", "parts", "end", "begin", "number", "part"]
theorem scRowParted : FnScope partedN ["row", "block_kind", "blocks", "length"] (defScope sRowParted) := ⟨rfl, rfl, rfl, by decide +kernel, rfl, by decide +kernel, by decide +kernel⟩
def spRowParted (K : PySem.W.Frag) : Sp := fun vs H Q _ => ∃ (R B : Addr) (r : RowD) (bk : Str) (ys : List V) (bs : List (Nat × Nat)) (L : Nat), vs = [.ref R, .str bk, .ref B, .int (L : Int)] ∧ RowT K H (.ref R) r ∧ r.num = 0 ∧ SqL K H B ys ∧ BnAt H ys bs ∧ (∀ p ∈ bs, p.1 + L ≤ r.ws.length) ∧ bs.length ≤ 2000 ∧
  ∀ (H' : Hp) (D : Addr) (zs : List V) (bs' : List (Nat × Nat)), Same H H' → H D = none → H' D = some (.lst zs) → bs'.Perm bs → bs'.Pairwise (fun p q => p.1 ≤ q.1) → RowsT K H' zs ((partD r.kind bk r.ws L 0 bs').filter someB) → Q (.ref D) H'
theorem ok_row_parted {f : Addr} {fd : FuncData} (F : FnP K "row_parted" sRowParted f fd) (mS : mg "sorted" = none) (mL : mg "len" = none) : FnOk P w K mg base (L2.CX P w) 1 f fd ["row", "block_kind", "blocks", "length"] (spRowParted K) := by
  refine F.ok scRowParted (fun vs H Q E h => ?_) (fun cdv A outer s H vs Q E hr h => ?_)
  · obtain ⟨R, B, r, bk, ys, bs, L, rfl, _⟩ := h
    rfl
  · obtain ⟨R, B, r, bk, ys, bs, L, rfl, hR, hnum, hB, hbs, hin, hbl, q⟩ := h
    refine ⟨_, pss_cons (ps_asg (pv 0) (pg_tup (by rfl) (pgs_cons (pg_name (i := 4) scRowParted.nd rfl (.inl rfl)) (pgs_cons (pg_name (i := 5) scRowParted.nd rfl (.inl rfl)) (pgs_cons (pg_name (i := 6) scRowParted.nd rfl (.inl rfl)) pgs_nil)))))
      (pss_cons (ps_set (i := 7) scRowParted.nd rfl (.inl rfl) (pe_lst pa_nil))
      (pss_cons (ps_set (i := 8) scRowParted.nd rfl (.inl rfl) pe_int)
      (pss_cons (ps_for (passes_of rfl) rfl (pi_list (pe_callB cr_sortedPO (by rfl) mS PyProof.Rows.boot_sorted (pa_cons (pv 2) pa_nil))) (pg_tup (by rfl) (pgs_cons (pg_name (i := 9) scRowParted.nd rfl (.inl rfl)) (pgs_cons (pg_name (i := 10) scRowParted.nd rfl (.inl rfl)) pgs_nil)))
        (pss_cons (ps_expr (pe_bm PySem.F.plainAttrs_list PySem.F.slot_list_append PySem.F.type_list_append mt_append (pv 7) (pa_cons (pe_tup (pa_cons (pv 4) (pa_cons pe_int (pa_cons (pe_slice sl_tupA (pv 6) (po_some (pv 8)) (po_some (pv 9))) pa_nil)))) pa_nil)))
        (pss_cons (ps_set (i := 8) scRowParted.nd rfl (.inl rfl) (pe_op op_add (pv 9) (pv 3)))
        (pss_one (ps_expr (pe_bm PySem.F.plainAttrs_list PySem.F.slot_list_append PySem.F.type_list_append mt_append (pv 7) (pa_cons (pe_tup (pa_cons (pv 1) (pa_cons (pv 10) (pa_cons (pe_slice sl_tupA (pv 6) (po_some (pv 9)) (po_some (pv 8))) pa_nil)))) pa_nil)))))))
      (pss_cons (ps_expr (pe_bm PySem.F.plainAttrs_list PySem.F.slot_list_append PySem.F.type_list_append mt_append (pv 7) (pa_cons (pe_tup (pa_cons (pv 4) (pa_cons pe_int (pa_cons (pe_slice sl_tupA (pv 6) (po_some (pv 8)) po_none) pa_nil)))) pa_nil)))
      (pss_one (ps_ret (pe_lc (own := [("part", 11)]) (g := gName 11) rfl scRowParted.nd (pi_list (pv 7)) (blkOk_by (N := partedN) (sc := defScope sRowParted) (by decide +kernel))
        (fun _ _ _ _ _ => pg_name (i := 11) scRowParted.nd rfl (Or.inl rfl)) (fun _ _ _ _ _ => pts_one (pt_cmpR op_gt (pe_callB (r := rLenB K) call_len_seq (by rfl) mL PySem.boot_len (pa_cons (pe_ix (r := rIxT K) ix_tup (pv 11) pe_int (fun _ _ => rfl)) pa_nil)) pe_int (nomark _))) (fun _ _ _ _ _ => pv 11)))))))), ?_⟩
    obtain ⟨T, W, eR, hT, hW⟩ := hR
    cases eR
    refine ⟨_, rfl, R, _, rfl, hT, rfl, _, _, rfl, _, _, rfl, _, _, rfl, rfl, ?_⟩
    refine ⟨by show 0 ≤ sizeLine; decide, fun D nD => ?_⟩
    have s0 := same_upd nD (o := .lst [])
    have hD0 : (upd H D (.lst [])) D = some (.lst []) := upd_same
    generalize upd H D (.lst []) = H1 at s0 hD0
    have hb1 := hbs.same s0
    have keyOf : ∀ x ∈ ys, ∃ t, x = V.ref t ∧ H1 t = some (.tup [.int (intsV H1 x).1, .int (intsV H1 x).2]) := fun x hx => by
      obtain ⟨i, hi⟩ := List.mem_iff_getElem?.mp hx
      obtain ⟨b, n, T, _, rfl, h3⟩ := hb1.2 i x hi
      exact ⟨T, rfl, by rw [intsV_of h3]; exact h3⟩
    refine ⟨_, rfl, B, ys, intsV H1, rfl, s0.seq hB, keyOf, fun ys' p srt stb np => ?_⟩
    obtain ⟨hbn, hperm⟩ := hb1.perm stb.perm
    have hsort : (ys'.map (natsV H1)).Pairwise (fun p q => p.1 ≤ q.1) := by
      rw [List.pairwise_map]
      refine List.Pairwise.imp (fun {x y} h => ?_) srt
      have h := SrtO.lexB_no.mp h
      show (intsV H1 x).1.toNat ≤ (intsV H1 y).1.toNat
      omega
    generalize ys'.map (natsV H1) = bs' at hbn hperm hsort
    have s1 : Same H1 (upd H1 p (.lst ys')) := same_upd np
    have hp2 : (upd H1 p (.lst ys')) p = some (.lst ys') := upd_same
    have hb2 := hbn.same s1
    have hD2 := s1 _ _ hD0
    have s02 := s0.trans s1
    have hW2 := s02 _ _ hW
    generalize upd H1 p (.lst ys') = H2 at s1 hp2 hb2 hD2 s02 hW2
    have pD : p ≠ D := fun z => by
      subst z
      rw [hD0] at np
      cases np
    have nT := noTup hD2
    have yl := hb2.1
    have inb : ∀ p ∈ bs', p.1 + L ≤ r.ws.length := fun p hp => hin p (hperm.mem_iff.mp hp)
    have bl : bs'.length ≤ 2000 := by rw [hperm.length_eq]; exact hbl
    refine ⟨p, rfl, ⟨_, .inl (.inl hp2)⟩, for_list (xs := ys') (fun i σ' H' => SameB D H2 H' ∧ ∃ zs y9 y10, H' D = some (.lst zs) ∧ RowsT K H' zs (partsTo r.kind bk r.ws L 0 (bs'.take i)) ∧ zs.length ≤ 2 * i ∧ σ' = [some (.ref R), some (.str bk), some (.ref B), some (.int (L : Int)), some (.str r.kind), some (.int r.num), some (.ref W), some (.ref D), some (.int ((endTo L 0 (bs'.take i) : Nat) : Int)), y9, y10, none]) ⟨SameB.refl, [], none, none, hD2, ⟨rfl, fun i v e => by cases e⟩, Nat.le_refl _, rfl⟩ (fun i σ' H' _ hp' => .inl (.inl (hp'.1 _ _ pD hp2))) (fun i x σ' H' hx hp' => ?_) (fun σ' H' hp' => ?_)⟩
    · obtain ⟨sb, zs, y9, y10, hD, hZ, zl, rfl⟩ := hp'
      obtain ⟨b, n, T, e1, rfl, hT⟩ := (sb.bn nT hb2).2 i x hx
      have hi := (List.getElem?_eq_some_iff.mp hx).1
      have ib := inb _ (List.mem_of_getElem? e1)
      have ib : b + L ≤ r.ws.length := ib
      have ee := endTo_le (L := L) (m := r.ws.length) (bs'.take i) 0 (Nat.zero_le _) fun p hp => inb p (List.mem_of_mem_take hp)
      have hW' := sb _ _ (fun z => nT _ (.inl (z ▸ hW2))) hW2
      refine ⟨T, _, rfl, .inl (.inl hT), rfl, _, _, rfl, _, _, rfl, rfl, ?_⟩
      refine ⟨_, rfl, .inl ⟨rfl, _, .inl (.inl hD)⟩, _, rfl, _, rfl, _, rfl, _, rfl, _, rfl, _, rfl, sl_mm hW' ee (by omega) fun H3 W3 s3 hW3 => ⟨by show 3 ≤ sizeLine; decide, fun T3 nT3 => ?_⟩⟩
      have sb3 := sb.trans (same_b s3)
      obtain ⟨g1, g2, g3⟩ := app_row (k := r.kind) (n := 0) (s3 _ _ hD) (hZ.same s3) hW3 nT3
      refine ⟨D, zs, _, rfl, rfl, g1, Nat.lt_of_le_of_lt (show zs.length ≤ 4000 by omega) (by decide), ?_⟩
      have sb4 := sb3.trans g2
      have hW4 := sb4 _ _ (fun z => nT _ (.inl (z ▸ hW2))) hW2
      have d4 : (upd (upd H3 T3 (.tup [.str r.kind, .int 0, .ref W3])) D (.lst (zs ++ [.ref T3]))) D = some (.lst (zs ++ [.ref T3])) := upd_same
      generalize upd (upd H3 T3 (.tup [.str r.kind, .int 0, .ref W3])) D (.lst (zs ++ [.ref T3])) = H4 at g3 sb4 hW4 d4 ⊢
      refine ⟨_, rfl, _, rfl, _, _, rfl, rfl, ?_⟩
      dsimp only
      rw [nat_add_int]
      refine ⟨_, rfl, .inl ⟨rfl, _, .inl (.inl d4)⟩, _, rfl, _, rfl, _, rfl, _, rfl, _, rfl, _, rfl, _, rfl, sl_mm hW4 (by omega) ib fun H5 W5 s5 hW5 => ⟨by show 3 ≤ sizeLine; decide, fun T5 nT5 => ?_⟩⟩
      have eL : (r.ws.drop b).take (b + L - b) = (r.ws.drop b).take L := by rw [Nat.add_sub_cancel_left]
      rw [eL] at hW5
      obtain ⟨k1, k2, k3⟩ := app_row (k := bk) (n := ((n : Nat) : Int)) (s5 _ _ d4) (g3.same s5) hW5 nT5
      refine ⟨D, _, _, rfl, rfl, k1, Nat.lt_of_le_of_lt (show (zs ++ [V.ref T3]).length ≤ 4001 by rw [List.length_append]; show zs.length + 1 ≤ 4001; omega) (by decide), (sb4.trans (same_b s5)).trans k2, _, some (.int (b : Int)), some (.int (n : Int)), upd_same, ?_, ?_, ?_⟩
      · rw [take_snoc e1, partsTo_snoc]
        rw [List.append_assoc (partsTo r.kind bk r.ws L 0 (bs'.take i))] at k3
        exact k3
      · simp only [List.length_append, List.length_singleton]
        omega
      · rw [take_snoc e1, endTo_snoc]
        rfl
    · obtain ⟨sb, zs, y9, y10, hD, hZ, zl, rfl⟩ := hp'
      rw [List.take_of_length_le (by rw [yl]; exact Nat.le_refl _)] at hZ
      rw [List.take_of_length_le (by rw [yl]; exact Nat.le_refl _)]
      have ee := endTo_le (L := L) (m := r.ws.length) bs' 0 (Nat.zero_le _) inb
      have hW' := sb _ _ (fun z => nT _ (.inl (z ▸ hW2))) hW2
      refine ⟨_, rfl, .inl ⟨rfl, _, .inl (.inl hD)⟩, _, rfl, _, rfl, _, rfl, _, rfl, ?_⟩
      dsimp only [tNoPart]
      refine sl_mn hW' ee fun H3 W3 s3 hW3 => ⟨by show 3 ≤ sizeLine; decide, fun T3 nT3 => ?_⟩
      have sb3 := sb.trans (same_b s3)
      obtain ⟨g1, g2, g3⟩ := app_row (k := r.kind) (n := 0) (s3 _ _ hD) (hZ.same s3) hW3 nT3
      refine ⟨D, zs, _, rfl, rfl, g1, Nat.lt_of_le_of_lt (show zs.length ≤ 4000 by omega) (by decide), ?_⟩
      have sb4 := sb3.trans g2
      rw [← partsTo_end] at g3
      have nDH : H D = none := nD
      have sH4 : Same H (upd (upd H3 T3 (.tup [.str r.kind, .int 0, .ref W3])) D (.lst (zs ++ [.ref T3]))) := same_new s02 sb4 nD
      have d4 : (upd (upd H3 T3 (.tup [.str r.kind, .int 0, .ref W3])) D (.lst (zs ++ [.ref T3]))) D = some (.lst (zs ++ [.ref T3])) := upd_same
      have gl := g3.1
      generalize upd (upd H3 T3 (.tup [.str r.kind, .int 0, .ref W3])) D (.lst (zs ++ [.ref T3])) = H4 at g3 sH4 d4 ⊢
      generalize zs ++ [V.ref T3] = ws at g3 d4 gl
      rw [partD_len] at gl
      refine ⟨_, rfl, D, rfl, ⟨_, .inl (.inl d4)⟩, fun E' nE => ?_⟩
      refine lc_list (xs := ws) (fun i H5 => Same H4 H5 ∧ ∃ us, H5 E' = some (.lst us) ∧ us.length ≤ i ∧ RowsT K H5 us (((partD r.kind bk r.ws L 0 bs').take i).filter someB)) ⟨same_upd nE, [], upd_same, Nat.le_refl _, ⟨rfl, fun i v e => by cases e⟩⟩ (fun i H5 _ hp5 => hp5.1.seq (.inl (.inl d4))) (fun i x H5 hx hp5 => ?_) (fun H5 hp5 => ?_)
      · obtain ⟨s5, us, hE, ul, hU⟩ := hp5
        obtain ⟨r5, h1, T5, W5, rfl, h2, h3⟩ := g3.2 i x hx
        have hi := (List.getElem?_eq_some_iff.mp hx).1
        have h2' := sameT s5 h2
        have h3' := s5 _ _ h3
        refine ⟨rfl, ?_⟩
        refine ⟨_, rfl, T5, _, _, _, rfl, rfl, h2', at_of (j := 2) rfl rfl, W5, _, rfl, .inr (.inl (.inl h3')), _, _, rfl, rfl, _, rfl, ?_⟩
        have es : someB r5 = decide ((0 : Int) < (((r5.ws.map V.str).length : Nat) : Int)) := by
          unfold someB
          rw [List.length_map]
          by_cases z : 0 < r5.ws.length
          · rw [decide_eq_true z, decide_eq_true (by omega)]
          · rw [decide_eq_false z, decide_eq_false (by omega)]
        rw [take_snoc h1, List.filter_append]
        refine ite2 (fun e => ?_) (fun e => ?_)
        · refine ⟨_, rfl, us, hE, Nat.lt_of_le_of_lt (show us.length ≤ 5000 by omega) (by decide), same_set s5 nE, us ++ [.ref T5], upd_same, ?_, ?_⟩
          · rw [List.length_append]
            exact Nat.succ_le_succ ul
          · have e5 : [r5].filter someB = [r5] := by
              rw [List.filter_cons, if_pos (by rw [es]; exact e)]
              rfl
            rw [e5]
            exact RowsT.set (noTup hE) (hU.app (RowsT.one ⟨T5, W5, rfl, h2', h3'⟩))
        · have e5 : [r5].filter someB = [] := by
            rw [List.filter_cons, if_neg (by rw [es]; exact e)]
            rfl
          rw [e5, List.append_nil]
          exact ⟨s5, us, hE, by omega, hU⟩
      · obtain ⟨s5, us, hE, ul, hU⟩ := hp5
        rw [List.take_of_length_le (by rw [g3.1]; exact Nat.le_refl _)] at hU
        exact q H5 E' us bs' (sH4.trans s5) (same_none sH4 nE) hE hperm hsort hU
end
/-! ### the pairs made blocks -/
abbrev DkD := List (L2.Key × V)
/-- d: for each row the list of its blocks -/
structure BBl (H0 H : Hp) (d : Addr) (kvs : DkD) (m : Nat → List (Nat × Nat)) : Prop where
  dic : H d = some (.dK kvs)
  lsts : ∀ (i : Nat) v, valV kvs (.inl (i : Int)) = some v → ∃ D ys, v = .ref D ∧ H D = some (.lst ys) ∧ BnAt H ys (m i) ∧ H0 D = none ∧ m i ≠ []
  nil : ∀ (i : Nat), valV kvs (.inl (i : Int)) = none → m i = []
  inj : ∀ (i j : Nat) D, valV kvs (.inl (i : Int)) = some (.ref D) → valV kvs (.inl (j : Int)) = some (.ref D) → i = j
theorem BBl.same {H0 H H' : Hp} {d : Addr} {kvs : DkD} {m : Nat → List (Nat × Nat)} (s : Same H H') (h : BBl H0 H d kvs m) : BBl H0 H' d kvs m :=
  ⟨s _ _ h.dic, fun i v e => let ⟨D, ys, h1, h2, h3, h4⟩ := h.lsts i v e; ⟨D, ys, h1, s _ _ h2, h3.same s, h4⟩, h.nil, h.inj⟩
theorem key_inl {i j : Nat} (h : (Sum.inl (i : Int) : L2.Key) = Sum.inl (j : Int)) : i = j := Int.ofNat.inj (Sum.inl.inj h)
theorem noTupK {H : Hp} {d : Addr} {kvs : DkD} (h : H d = some (.dK kvs)) : ∀ ys, ¬ Rd H d (.tup ys) := by
  rintro ys (z | ⟨o, z⟩)
  · rw [h] at z
    cases z
  · rw [h] at z
    cases z
/-- one more block for a row: what stands at D, the row's list, has it -/
theorem BBl.put {H0 H H' : Hp} {d D : Addr} {kvs : DkD} {m : Nat → List (Nat × Nat)} {i : Nat} {ys zs : List V} {q : List (Nat × Nat)} (dic : H d = some (.dK kvs)) (old : ∀ (j : Nat) v, j ≠ i → valV kvs (.inl (j : Int)) = some v → ∃ D' ys, v = .ref D' ∧ D' ≠ D ∧ H D' = some (.lst ys) ∧ BnAt H ys (m j) ∧ H0 D' = none ∧ m j ≠ [])
    (nl : ∀ (j : Nat), valV kvs (.inl (j : Int)) = none → m j = []) (inj : ∀ (i j : Nat) D, valV kvs (.inl (i : Int)) = some (.ref D) → valV kvs (.inl (j : Int)) = some (.ref D) → i = j)
    (e : valV kvs (.inl (i : Int)) = some (.ref D)) (hD : H D = some (.lst ys)) (sb : SameB D H H') (hz : H' D = some (.lst zs)) (hP : BnAt H' zs q) (fr : H0 D = none) (ne : q ≠ []) :
    BBl H0 H' d kvs (fun j => if j = i then q else m j) := by
  have nT := noTup hD
  refine ⟨sb _ _ (fun z => ?_) dic, fun j v e' => ?_, fun j e' => ?_, inj⟩
  · subst z
    rw [hD] at dic
    cases dic
  · by_cases c : j = i
    · subst c
      rw [e] at e'
      cases e'
      exact ⟨D, zs, rfl, hz, by rw [if_pos rfl]; exact hP, fr, by rw [if_pos rfl]; exact ne⟩
    · obtain ⟨D', ys', rfl, h1, h2, h3, h4, h5⟩ := old j v c e'
      exact ⟨D', ys', rfl, sb _ _ h1 h2, by rw [if_neg c]; exact sb.bn nT h3, h4, by rw [if_neg c]; exact h5⟩
  · rw [if_neg (fun z => by subst z; rw [e] at e'; cases e')]
    exact nl j e'
theorem BBl.far {H0 H H' : Hp} {d x : Addr} {kvs : DkD} {m : Nat → List (Nat × Nat)} (h : BBl H0 H d kvs m) (sb : SameB x H H') (hx : ∀ ys, ¬ Rd H x (.tup ys)) (n1 : d ≠ x) (n2 : H0 x ≠ none ∨ ∀ (i : Nat) D, valV kvs (.inl (i : Int)) = some (.ref D) → D ≠ x) : BBl H0 H' d kvs m :=
  ⟨sb _ _ n1 h.dic, fun i v e => by
    obtain ⟨D, ys, rfl, h2, h3, h4, h5⟩ := h.lsts i v e
    refine ⟨D, ys, rfl, sb _ _ ?_ h2, sb.bn hx h3, h4, h5⟩
    rcases n2 with n2 | n2
    · exact fun z => n2 (z ▸ h4)
    · exact n2 i D e, h.nil, h.inj⟩
theorem BBl.congr {H0 H : Hp} {d : Addr} {kvs : DkD} {m m' : Nat → List (Nat × Nat)} (h : BBl H0 H d kvs m) (e : ∀ l, m' l = m l) : BBl H0 H d kvs m' := by
  have : m' = m := funext e
  rw [this]
  exact h
/-- the blocks, one after the other, with their numbers -/
def itB : Nat → List Pr → List (Pl × Nat)
  | _, [] => []
  | n, cp :: ps => (cp.1, n) :: (cp.2, n) :: itB (n + 1) ps
theorem itB_snoc (cp : Pr) : ∀ (ps : List Pr) (n : Nat), itB n (ps ++ [cp]) = itB n ps ++ [(cp.1, n + ps.length), (cp.2, n + ps.length)]
  | [], n => rfl
  | x :: ps, n => by
    show _ :: _ :: itB (n + 1) (ps ++ [cp]) = _ :: _ :: (itB (n + 1) ps ++ _)
    rw [itB_snoc cp ps, List.length_cons, show n + 1 + ps.length = n + (ps.length + 1) by omega]
theorem itB_len : ∀ (ps : List Pr) (n : Nat), (itB n ps).length = 2 * ps.length
  | [], _ => rfl
  | x :: ps, n => by
    show (itB (n + 1) ps).length + 1 + 1 = 2 * (ps.length + 1)
    rw [itB_len ps]
    omega
theorem itB_blk : ∀ (ps : List Pr) (n : Nat), (itB n ps).map (·.1) = blkOf ps
  | [], _ => rfl
  | x :: ps, n => by
    show x.1 :: x.2 :: (itB (n + 1) ps).map (·.1) = _
    rw [itB_blk ps]
    rfl
def bnAt (i : Nat) (l : List (Pl × Nat)) : List (Nat × Nat) := (l.filter fun x => decide (x.1.1 = i)).map fun x => (x.1.2, x.2)
theorem bnAt_snoc (i : Nat) (l : List (Pl × Nat)) (a b n : Nat) : bnAt i (l ++ [((a, b), n)]) = if i = a then bnAt i l ++ [(b, n)] else bnAt i l := by
  unfold bnAt
  rw [List.filter_append, List.map_append]
  by_cases c : i = a
  · subst c
    rw [if_pos rfl, List.filter_cons, if_pos (decide_eq_true rfl)]
    rfl
  · rw [if_neg c, List.filter_cons, if_neg (fun z => c (of_decide_eq_true z).symm)]
    show bnAt i l ++ [] = _
    rw [List.append_nil]
    rfl
theorem bnAt_mem {i : Nat} {l : List (Pl × Nat)} {b n : Nat} : (b, n) ∈ bnAt i l ↔ ((i, b), n) ∈ l := by
  unfold bnAt
  rw [List.mem_map]
  constructor
  · rintro ⟨⟨⟨a, b'⟩, n'⟩, h1, h2⟩
    obtain ⟨h3, h4⟩ := List.mem_filter.mp h1
    have h4 : a = i := of_decide_eq_true h4
    cases h2
    subst h4
    exact h3
  · intro h
    exact ⟨_, List.mem_filter.mpr ⟨h, decide_eq_true rfl⟩, rfl⟩
theorem bnAt_len (i : Nat) (l : List (Pl × Nat)) : (bnAt i l).length ≤ l.length := by
  unfold bnAt
  rw [List.length_map]
  exact List.length_filter_le ..
def bkOf (k : Str) : Str := if k = "cut" then "take" else "lay"
/-- a row of the new telling -/
def partR (r : RowD) (bs : List (Nat × Nat)) (L : Nat) : List RowD := if bs = [] then [r] else (partD r.kind (bkOf r.kind) r.ws L 0 bs).filter someB
def withD (rs : List RowD) (srt : Nat → List (Nat × Nat)) (L n : Nat) : List RowD := (List.range n).flatMap fun i => match rs[i]? with
  | some r => partR r (srt i) L
  | none => []
theorem withD_succ {rs : List RowD} {srt : Nat → List (Nat × Nat)} {L n : Nat} {r : RowD} (h : rs[n]? = some r) : withD rs srt L (n + 1) = withD rs srt L n ++ partR r (srt n) L := by
  unfold withD
  rw [List.range_succ, List.flatMap_append]
  simp [h]
theorem withD_congr {rs : List RowD} {srt srt' : Nat → List (Nat × Nat)} {L : Nat} : ∀ {n : Nat}, (∀ i, i < n → srt' i = srt i) → withD rs srt' L n = withD rs srt L n := fun {n} h => by
  unfold withD
  rw [List.flatMap_def, List.flatMap_def]
  refine congrArg List.flatten (List.map_congr_left fun i hi => ?_)
  rw [h i (List.mem_range.mp hi)]
theorem partR_len (r : RowD) (bs : List (Nat × Nat)) (L : Nat) : (partR r bs L).length ≤ 2 * bs.length + 1 := by
  unfold partR
  split
  · show 1 ≤ _
    omega
  · refine Nat.le_trans (List.length_filter_le ..) ?_
    rw [partD_len]
    exact Nat.le_refl _
section
variable {P : Program} {w : World} {K : PySem.W.Frag} {mg : Str → Option Value} {base : Heap}
abbrev pairsN : List Str := ["rows", "pairs", "length", "first_number", "blocks", "number", "pair", "at", "begin", "parted_rows", "row", "block_kind"]
theorem scWithPairs : FnScope pairsN ["rows", "pairs", "length", "first_number"] (defScope sWithPairs) := ⟨rfl, rfl, rfl, by decide +kernel, rfl, by decide +kernel, by decide +kernel⟩
def spWithPairs (K : PySem.W.Frag) : Sp := fun vs H Q _ => ∃ (p D : Addr) (xs zs : List V) (rs : List RowD) (ps : List Pr) (L n : Nat), vs = [.ref p, .ref D, .int (L : Int), .int (n : Int)] ∧ SqL K H p xs ∧ RowsT K H xs rs ∧ Small rs ∧ SqL K H D zs ∧ PrAt K H zs ps ∧ ps.length ≤ 1000 ∧ n ≤ 10000000 ∧
  (∀ c ∈ blkOf ps, ∃ r, rs[c.1]? = some r ∧ r.num = 0 ∧ c.2 + L ≤ r.ws.length) ∧
  ∀ (H' : Hp) (E : Addr) (us : List V) (srt : Nat → List (Nat × Nat)), Same H H' → H E = none → H' E = some (.lst us) → (∀ i, i < rs.length → (srt i).Perm (bnAt i (itB n ps)) ∧ (srt i).Pairwise (fun p q => p.1 ≤ q.1)) → RowsT K H' us (withD rs srt L rs.length) → Q (.ref E) H'
theorem ok_with_pairs {f fR : Addr} {fd fdR : FuncData} (F : FnP K "with_pairs" sWithPairs f fd)
    (GR : FnOk P w K mg base (L2.CX P w) 1 fR fdR ["row", "block_kind", "blocks", "length"] (spRowParted K)) (kR : PySem.W.keepIn K (.ref fR) = true) (bR : Binds K fdR ["row", "block_kind", "blocks", "length"] []) (gR : mg "row_parted" = some (.ref fR)) (mE : mg "enumerate" = none) :
    FnOk P w K mg base (L2.CX P w) 2 f fd ["rows", "pairs", "length", "first_number"] (spWithPairs K) := by
  refine F.ok scWithPairs (fun vs H Q E h => ?_) (fun cdv A outer s H vs Q E hr h => ?_)
  · obtain ⟨p, D, xs, zs, rs, ps, L, n, rfl, _⟩ := h
    rfl
  · obtain ⟨p, D, xs, zs, rs, ps, L, n, rfl, hp, hR, hs, hD, hP, hpl, hn, hin, q⟩ := h
    refine ⟨_, pss_cons (ps_set (i := 4) scWithPairs.nd rfl (.inl rfl) pe_dnewK)
      (pss_cons (ps_for (passes_of rfl) rfl (Ef.pi_enumF (by rfl) mE (pa_cons (pv 1) (pa_cons (pv 3) pa_nil))) (pg_tup rfl (pgs_cons (pg_name (i := 5) scWithPairs.nd rfl (.inl rfl)) (pgs_cons (pg_name (i := 6) scWithPairs.nd rfl (.inl rfl)) pgs_nil)))
        (pss_one (ps_for (passes_of rfl) rfl (pi_tup (pv 6)) (pg_tup (by rfl) (pgs_cons (pg_name (i := 7) scWithPairs.nd rfl (.inl rfl)) (pgs_cons (pg_name (i := 8) scWithPairs.nd rfl (.inl rfl)) pgs_nil)))
          (pss_one (ps_expr (pe_bm PySem.F.plainAttrs_list PySem.F.slot_list_append PySem.F.type_list_append mt_append (pe_dsetd (pv 4) (pv 7) (pe_lst pa_nil) ⟨rfl, rfl, rfl, rfl⟩) (pa_cons (pe_tup (pa_cons (pv 8) (pa_cons (pv 5) pa_nil))) pa_nil)))))))
      (pss_cons (ps_set (i := 9) scWithPairs.nd rfl (.inl rfl) (pe_lst pa_nil))
      (pss_cons (ps_for (passes_of rfl) rfl (pi_enum (by rfl) mE (pa_cons (pv 0) pa_nil)) (pg_tup rfl (pgs_cons (pg_name (i := 7) scWithPairs.nd rfl (.inl rfl)) (pgs_cons (pg_name (i := 10) scWithPairs.nd rfl (.inl rfl)) pgs_nil)))
        (pss_one (ps_if (pt_cmp (pc_din (hu_of hr) (pv 7) (pv 4)) (by rfl))
          (pss_cons (ps_set (i := 11) scWithPairs.nd rfl (.inl rfl) (pe_ifExp (pt_cmpR op_eq (pe_ix ix_tup (pv 10) pe_int (fun _ _ => rfl)) pe_str (nomark _)) pe_str pe_str))
          (pss_one (ps_expr (pe_bm PySem.F.plainAttrs_list PySem.F.slot_list_extend PySem.F.type_list_extend mt_extend (pv 9) (pa_cons (pe_call GR hr (by rfl) gR kR bR .nil passL (pa_cons (pv 10) (pa_cons (pv 11) (pa_cons (pe_dget (hu_of hr) (pv 4) (pv 7) (fun _ _ => rfl)) (pa_cons (pv 2) pa_nil))))) pa_nil)))))
          (pss_one (ps_expr (pe_bm PySem.F.plainAttrs_list PySem.F.slot_list_append PySem.F.type_list_append mt_append (pv 9) (pa_cons (pv 10) pa_nil)))))))
      (pss_one (ps_ret (pv 9)))))), ?_⟩
    intro d nd
    have s0 := same_upd nd (o := .dK [])
    have zl := hP.1
    refine ⟨_, rfl, _, rfl, D, zs, (n : Int), rfl, s0.seq hD, by omega, by omega, Ef.for_enumF (xs := zs) (fun i σ' H' => Same H H' ∧ ∃ kvs y5 y6 y7 y8, BBl H H' d kvs (fun j => bnAt j (itB n (ps.take i))) ∧ kvs.length ≤ 2 * i ∧ σ' = [some (.ref p), some (.ref D), some (.int (L : Int)), some (.int (n : Int)), some (.ref d), y5, y6, y7, y8, none, none, none]) ⟨s0, [], none, none, none, none, ⟨upd_same, (fun i v e => by cases e), (fun i _ => rfl), fun i j D e => by cases e⟩, Nat.le_refl _, rfl⟩ (fun i σ' H' _ hp' => hp'.1.seq hD) (fun i x T' σ' H' hx nT' hp' => ?_) (fun σ' H' hp' => ?_)⟩
    · obtain ⟨sm, kvs, y5, y6, y7, y8, hB, kl, rfl⟩ := hp'
      obtain ⟨c, c', T, C, C', e1, rfl, hT, hC, hC'⟩ := hP.2 i x hx
      have hi : i < zs.length := (List.getElem?_eq_some_iff.mp hx).1
      have sT : Same H' (upd H' T' (.tup [.int ((n : Int) + ((i : Nat) : Int)), .ref T])) := same_upd nT'
      refine ⟨T', _, rfl, .inl (.inl upd_same), rfl, _, _, rfl, _, _, rfl, rfl, ?_⟩
      have sm2 := sm.trans sT
      have hB2 := hB.same sT
      generalize upd H' T' (.tup [.int ((n : Int) + ((i : Nat) : Int)), .ref T]) = H2 at sT sm2 hB2 ⊢
      refine ⟨_, rfl, T, rfl, ⟨_, sameT sm2 hT⟩, for_tup (xs := [V.ref C, V.ref C']) (fun t σ'' H'' => Same H H'' ∧ ∃ kvs y7 y8, BBl H H'' d kvs (fun j => bnAt j (itB n (ps.take i) ++ [(c, n + i), (c', n + i)].take t)) ∧ kvs.length ≤ 2 * i + t ∧ σ'' = [some (.ref p), some (.ref D), some (.int (L : Int)), some (.int (n : Int)), some (.ref d), some (.int ((n : Int) + ((i : Nat) : Int))), some (.ref T), y7, y8, none, none, none]) ?_ (fun t σ'' H'' _ hp2 => sameT hp2.1 hT) (fun t x σ'' H'' hx2 hp2 => ?_) (fun σ'' H'' hp2 => ?_)⟩
      · refine ⟨sm2, kvs, y7, y8, ?_, by omega, rfl⟩
        rw [List.take_zero, List.append_nil]
        exact hB2
      · obtain ⟨sm3, kvs, y7, y8, hB3, kl3, rfl⟩ := hp2
        obtain ⟨pl, C2, rfl, hC2, ht, et⟩ : ∃ pl C2, x = .ref C2 ∧ SqT K H C2 [.int (pl.1 : Int), .int (pl.2 : Int)] ∧ [(c, n + i), (c', n + i)][t]? = some (pl, n + i) ∧ t < 2 := by
          match t, hx2 with
          | 0, hx2 =>
            cases hx2
            exact ⟨c, C, rfl, hC, rfl, by decide⟩
          | 1, hx2 =>
            cases hx2
            exact ⟨c', C', rfl, hC', rfl, by decide⟩
          | t + 2, hx2 => cases hx2
        obtain ⟨a, b⟩ := pl
        refine ⟨C2, _, rfl, sameT sm3 hC2, rfl, _, _, rfl, _, _, rfl, rfl, ?_⟩
        refine ⟨_, rfl, d, rfl, .inl ⟨kvs, .inl hB3.dic⟩, _, rfl, by show 0 ≤ sizeLine; decide, fun E nE => ?_⟩
        have s4 : Same H'' (upd H'' E (.lst [])) := same_upd nE
        have hE4 : (upd H'' E (.lst [])) E = some (.lst []) := upd_same
        have sm4 := sm3.trans s4
        have hB4 := hB3.same s4
        have nEH : H E = none := same_none sm3 nE
        have farE : ∀ (j : Nat), valV kvs (.inl (j : Int)) ≠ some (.ref E) := fun j e => by
          obtain ⟨D', ys, e1, h2, _⟩ := hB3.lsts j _ e
          cases e1
          rw [nE] at h2
          cases h2
        have dE : d ≠ E := ne_of_none hB3.dic nE
        generalize upd H'' E (.lst []) = H4 at s4 hE4 sm4 hB4 ⊢
        have em : ∀ j, bnAt j (itB n (ps.take i) ++ [(c, n + i), (c', n + i)].take (t + 1)) = if j = a then bnAt a (itB n (ps.take i) ++ [(c, n + i), (c', n + i)].take t) ++ [(b, n + i)] else bnAt j (itB n (ps.take i) ++ [(c, n + i), (c', n + i)].take t) := fun j => by
          rw [take_snoc ht, ← List.append_assoc, bnAt_snoc]
          by_cases z : j = a
          · rw [if_pos z, if_pos z, z]
          · rw [if_neg z, if_neg z]
        -- what stands behind the append at a list of the dict
        have tail : ∀ (kvs' : DkD) (H5 : Hp) (F' : Addr) (us : List V), H5 d = some (.dK kvs') → (∀ (j : Nat) v, j ≠ a → valV kvs' (.inl (j : Int)) = some v → ∃ D' ys, v = .ref D' ∧ D' ≠ F' ∧ H5 D' = some (.lst ys) ∧ BnAt H5 ys (bnAt j (itB n (ps.take i) ++ [(c, n + i), (c', n + i)].take t)) ∧ H D' = none ∧ bnAt j (itB n (ps.take i) ++ [(c, n + i), (c', n + i)].take t) ≠ []) →
            (∀ (j : Nat), valV kvs' (.inl (j : Int)) = none → bnAt j (itB n (ps.take i) ++ [(c, n + i), (c', n + i)].take t) = []) → (∀ (i j : Nat) D, valV kvs' (.inl (i : Int)) = some (.ref D) → valV kvs' (.inl (j : Int)) = some (.ref D) → i = j) →
            Same H H5 → valV kvs' (.inl (a : Int)) = some (.ref F') → H5 F' = some (.lst us) → BnAt H5 us (bnAt a (itB n (ps.take i) ++ [(c, n + i), (c', n + i)].take t)) → H F' = none → ∀ U, H5 U = none →
            (upd H5 U (.tup [.int (b : Int), .int ((n : Int) + ((i : Nat) : Int))])) F' = some (.lst us) ∧ us.length < sizeLine ∧ Same H (upd (upd H5 U (.tup [.int (b : Int), .int ((n : Int) + ((i : Nat) : Int))])) F' (.lst (us ++ [.ref U]))) ∧
              BBl H (upd (upd H5 U (.tup [.int (b : Int), .int ((n : Int) + ((i : Nat) : Int))])) F' (.lst (us ++ [.ref U]))) d kvs' (fun j => bnAt j (itB n (ps.take i) ++ [(c, n + i), (c', n + i)].take (t + 1))) := fun kvs' H5 F' us dic old nl inj sm5 v5 f5 b5 fr U nU => by
          have s6 : Same H5 (upd H5 U (.tup [.int (b : Int), .int ((n : Int) + ((i : Nat) : Int))])) := same_upd nU
          have hU : (upd H5 U (.tup [.int (b : Int), .int ((n : Int) + ((i : Nat) : Int))])) U = some (.tup [.int (b : Int), .int ((n + i : Nat) : Int)]) := by
            rw [upd_same, nat_add_int]
          generalize upd H5 U (.tup [.int (b : Int), .int ((n : Int) + ((i : Nat) : Int))]) = H6 at s6 hU ⊢
          have f6 := s6 _ _ f5
          have nT := noTup f6
          have sbF : SameB F' H6 (upd H6 F' (.lst (us ++ [.ref U]))) := sameB_upd
          have ul := b5.1
          have bl := bnAt_len a (itB n (ps.take i) ++ [(c, n + i), (c', n + i)].take t)
          rw [List.length_append, itB_len, List.length_take, List.length_take] at bl
          refine ⟨f6, Nat.lt_of_le_of_lt (show us.length ≤ 3000 by omega) (by decide), same_new (sm5.trans s6) sbF fr, ?_⟩
          refine (BBl.put (s6 _ _ dic) (fun j v hj e => ?_) nl inj v5 f6 sbF upd_same (sbF.bn nT ((b5.same s6).snoc hU)) fr (by simp)).congr em
          obtain ⟨D', ys, h1, h2, h3, h4, h5, h6⟩ := old j v hj e
          exact ⟨D', ys, h1, h2, s6 _ _ h3, h4.same s6, h5, h6⟩
        refine ⟨kvs, .inl (a : Int), hB4.dic, rfl, Nat.lt_of_le_of_lt (show kvs.length ≤ 3000 by omega) (by decide), fun v hv => ?_, fun hn => ?_⟩
        · obtain ⟨F', us, rfl, f5, b5, fr, _⟩ := hB4.lsts a _ hv
          refine ⟨.inl ⟨rfl, _, .inl (.inl f5)⟩, _, rfl, _, rfl, by show 2 ≤ sizeLine; decide, fun U nU => ?_⟩
          obtain ⟨t1, t2, t3, t4⟩ := tail kvs H4 F' us hB4.dic (fun j v hj e => by
            obtain ⟨D', ys, rfl, h2, h3, h4, h5⟩ := hB4.lsts j v e
            exact ⟨D', ys, rfl, fun z => hj (by subst z; exact hB4.inj _ _ _ e hv), h2, h3, h4, h5⟩) hB4.nil hB4.inj sm4 hv f5 b5 fr U nU
          exact ⟨F', us, _, rfl, rfl, t1, t2, t3, kvs, _, _, t4, by omega, rfl⟩
        · refine ⟨.inl ⟨rfl, _, .inl (.inl (by rw [upd_ne (Ne.symm dE)]; exact hE4))⟩, _, rfl, _, rfl, by show 2 ≤ sizeLine; decide, fun U nU => ?_⟩
          have hl2 := length_putK kvs (Sum.inl (a : Int)) (V.ref E)
          have sb5 : SameB d H4 (upd H4 d (.dK (putK kvs (.inl (a : Int)) (.ref E)))) := sameB_upd
          have nTd := noTupK hB4.dic
          obtain ⟨t1, t2, t3, t4⟩ := tail (putK kvs (.inl (a : Int)) (.ref E)) (upd H4 d (.dK (putK kvs (.inl (a : Int)) (.ref E)))) E [] upd_same (fun j v hj e => by
              rw [valV_put, if_neg fun z => hj (key_inl z)] at e
              obtain ⟨D', ys, rfl, h2, h3, h4, h5⟩ := hB4.lsts j v e
              exact ⟨D', ys, rfl, fun z => farE j (by rw [e, z]), sb5 _ _ (ne_of h2 hB4.dic (by intro z; cases z)) h2, sb5.bn nTd h3, h4, h5⟩)
            (fun j e => by
              rw [valV_put] at e
              by_cases z : j = a
              · subst z
                rw [if_pos rfl] at e
                cases e
              · rw [if_neg fun y => z (key_inl y)] at e
                exact hB4.nil j e)
            (fun j k D' ej ek => by
              rw [valV_put] at ej ek
              by_cases z : j = a
              · by_cases y : k = a
                · rw [z, y]
                · rw [if_neg fun x => y (key_inl x)] at ek
                  subst z
                  rw [if_pos rfl] at ej
                  cases ej
                  exact absurd ek (farE k)
              · rw [if_neg fun x => z (key_inl x)] at ej
                by_cases y : k = a
                · subst y
                  rw [if_pos rfl] at ek
                  cases ek
                  exact absurd ej (farE j)
                · rw [if_neg fun x => y (key_inl x)] at ek
                  exact hB4.inj j k D' ej ek)
            (same_new sm4 sb5 nd) (by rw [valV_put, if_pos rfl]) (by rw [upd_ne (Ne.symm dE)]; exact hE4) (by rw [hB4.nil a hn]; exact ⟨rfl, fun i v e => by cases e⟩) nEH U nU
          exact ⟨E, [], _, rfl, rfl, t1, t2, t3, _, _, _, t4, by omega, rfl⟩
      · obtain ⟨sm3, kvs, y7, y8, hB3, kl3, rfl⟩ := hp2
        refine ⟨sm3, kvs, _, _, _, _, hB3.congr fun j => ?_, by show kvs.length ≤ 2 * (i + 1); have kl3 : kvs.length ≤ 2 * i + 2 := kl3; omega, rfl⟩
        rw [take_snoc e1, itB_snoc, List.length_take, Nat.min_eq_left (by omega)]
        rfl
    · obtain ⟨sm, kvs, y5, y6, y7, y8, hB, kl, rfl⟩ := hp'
      rw [List.take_of_length_le (by rw [zl]; exact Nat.le_refl _)] at hB
      refine ⟨by show 0 ≤ sizeLine; decide, fun G nG => ?_⟩
      have s1 : Same H' (upd H' G (.lst [])) := same_upd nG
      have hG1 : (upd H' G (.lst [])) G = some (.lst []) := upd_same
      have farG : ∀ (j : Nat) D, valV kvs (.inl (j : Int)) = some (.ref D) → D ≠ G := fun j D e => by
        obtain ⟨D', ys, e1, h2, _⟩ := hB.lsts j _ e
        cases e1
        exact ne_of_none h2 nG
      have dG : d ≠ G := ne_of_none hB.dic nG
      have nGH : H G = none := same_none sm nG
      have sm1 := sm.trans s1
      have hB1 := hB.same s1
      generalize upd H' G (.lst []) = H1 at s1 hG1 sm1 hB1
      refine ⟨_, rfl, p, _, rfl, sm1.seq hp, for_enum (xs := xs) (fun i σ' H2 => Same H H2 ∧ ∃ us srt y5 y6 y7 y8 y10 y11, H2 G = some (.lst us) ∧ (∀ j, j < i → (srt j).Perm (bnAt j (itB n ps)) ∧ (srt j).Pairwise (fun p q => p.1 ≤ q.1)) ∧ RowsT K H2 us (withD rs srt L i) ∧ us.length ≤ 4001 * i ∧ BBl H H2 d kvs (fun j => bnAt j (itB n ps)) ∧ σ' = [some (.ref p), some (.ref D), some (.int (L : Int)), some (.int (n : Int)), some (.ref d), y5, y6, y7, y8, some (.ref G), y10, y11]) ⟨sm1, [], fun _ => [], y5, y6, y7, y8, none, none, hG1, fun j hj => absurd hj (Nat.not_lt_zero _), ⟨rfl, fun i v e => by cases e⟩, Nat.le_refl _, hB1, rfl⟩ (fun i σ' H2 _ hp2 => hp2.1.seq hp) (fun i x T' σ' H2 hx nT' hp2 => ?_) (fun σ' H2 hp2 => ?_)⟩
      · obtain ⟨sm2, us, srt, y5, y6, y7, y8, y10, y11, hG, hsrt, hU, ul, hB2, rfl⟩ := hp2
        obtain ⟨r, hr1, hr2⟩ := hR.2 i x hx
        have hi : i < xs.length := (List.getElem?_eq_some_iff.mp hx).1
        have hi2 : i < rs.length := (List.getElem?_eq_some_iff.mp hr1).1
        have rsl := hs.2
        have sT : Same H2 (upd H2 T' (.tup [.int (i : Nat), x])) := same_upd nT'
        have sm3 := sm2.trans sT
        have hr3 := hr2.same sm3
        obtain ⟨T2, W2, ex, hT2, hW2⟩ := id hr3
        subst ex
        refine ⟨T', _, rfl, .inl (.inl upd_same), rfl, _, _, rfl, _, _, rfl, rfl, ?_⟩
        have hG3 := sT _ _ hG
        have hU3 := hU.same sT
        have hB3 := hB2.same sT
        generalize upd H2 T' (.tup [.int (i : Nat), .ref T2]) = H3 at sT sm3 hr3 hT2 hW2 hG3 hU3 hB3 ⊢
        have nT := noTup hG3
        have sbG : ∀ us', SameB G H3 (upd H3 G (.lst us')) := fun us' => sameB_upd
        have upto : ∀ bs', withD rs (fun j => if j = i then bs' else srt j) L (i + 1) = withD rs srt L i ++ partR r bs' L := fun bs' => by
          rw [withD_succ hr1, if_pos rfl, withD_congr fun j hj => if_neg (Nat.ne_of_lt hj)]
        have srt2 : ∀ bs', bs'.Perm (bnAt i (itB n ps)) → bs'.Pairwise (fun p q => p.1 ≤ q.1) → ∀ j, j < i + 1 → (if j = i then bs' else srt j).Perm (bnAt j (itB n ps)) ∧ (if j = i then bs' else srt j).Pairwise (fun p q => p.1 ≤ q.1) := fun bs' h1 h2 j hj => by
          by_cases z : j = i
          · rw [if_pos z, z]
            exact ⟨h1, h2⟩
          · rw [if_neg z]
            exact hsrt j (by omega)
        refine ⟨_, rfl, _, rfl, d, _, rfl, DGet.k (k := Sum.inl (i : Int)) hB3.dic, _, rfl, ?_⟩
        cases hv : valV kvs (Sum.inl (i : Int)) with
        | none =>
          have hnil := hB3.nil i hv
          refine iteF ⟨_, rfl, .inl ⟨rfl, _, .inl (.inl hG3)⟩, _, rfl, G, us, _, rfl, rfl, hG3, Nat.lt_of_le_of_lt (show us.length ≤ 5000000 by omega) (by decide), same_new sm3 (sbG _) nGH, us ++ [.ref T2], fun j => if j = i then [] else srt j, y5, y6, _, y8, _, y11, upd_same, srt2 [] (by rw [show bnAt i (itB n ps) = [] from hnil]) List.Pairwise.nil, ?_, ?_, hB3.far (sbG _) nT dG (.inr farG), rfl⟩
          · rw [upto]
            exact RowsT.set nT (hU3.app (RowsT.one hr3))
          · rw [List.length_append]
            show us.length + 1 ≤ _
            omega
        | some v =>
          obtain ⟨D', ys, rfl, hD', hBn, nD', hne⟩ := hB3.lsts i v hv
          obtain ⟨⟨b0, n0⟩, hb0⟩ := List.exists_mem_of_ne_nil _ hne
          have inB : ∀ p ∈ bnAt i (itB n ps), (i, p.1) ∈ blkOf ps := fun p hp => by
            rw [← itB_blk ps n]
            exact List.mem_map.mpr ⟨((i, p.1), p.2), bnAt_mem.1 hp, rfl⟩
          have rn : r.num = 0 := by
            obtain ⟨r', h1, h2, _⟩ := hin _ (inB _ hb0)
            have h1 : rs[i]? = some r' := h1
            rw [hr1] at h1
            cases h1
            exact h2
          have rin : ∀ p ∈ bnAt i (itB n ps), p.1 + L ≤ r.ws.length := fun p hp => by
            obtain ⟨r', h1, _, h3⟩ := hin _ (inB _ hp)
            have h1 : rs[i]? = some r' := h1
            rw [hr1] at h1
            cases h1
            exact h3
          have bl := bnAt_len i (itB n ps)
          rw [itB_len] at bl
          refine iteT ⟨_, rfl, T2, _, _, _, rfl, rfl, hT2, at_of (j := 0) rfl rfl, rfl, _, rfl, ?_⟩
          refine ite2 (fun e => ?g1) (fun e => ?g2)
          case' g1 =>
            have hbk : bkOf r.kind = "take" := if_pos (V.str.inj (of_decide_eq_true e))
          case' g2 =>
            have hbk : bkOf r.kind = "lay" := if_neg fun z => e (decide_eq_true (congrArg V.str z))
          all_goals
            rw [← hbk]
            clear e hbk
            refine ⟨_, rfl, .inl ⟨rfl, _, .inl (.inl hG3)⟩, _, rfl, _, rfl, _, rfl, _, rfl, d, _, rfl, by rw [← hv]; exact DGet.k (k := Sum.inl (i : Int)) hB3.dic, _, rfl, T2, D', r, bkOf r.kind, ys, bnAt i (itB n ps), L, rfl, hr3, rn, .inl (.inl hD'), hBn, rin, by omega, fun H4 F' vs bs' s4 nF hF perm sorted rows => ?_⟩
            have hG4 := s4 _ _ hG3
            have nT4 := noTup hG4
            have sb4 : SameB G H4 (upd H4 G (.lst (us ++ vs))) := sameB_upd
            have bl' := perm.length_eq
            have vl := rows.1
            have fl := List.length_filter_le someB (partD r.kind (bkOf r.kind) r.ws L 0 bs')
            rw [partD_len] at fl
            refine ⟨G, F', us, vs, rfl, rfl, hG4, hF, Nat.le_trans (show us.length + vs.length ≤ 5000000 by omega) (by decide), same_new (sm3.trans s4) sb4 nGH, us ++ vs, fun j => if j = i then bs' else srt j, y5, y6, _, y8, _, _, upd_same, srt2 bs' perm sorted, ?_, ?_, (hB3.same s4).far sb4 nT4 dG (.inr farG), rfl⟩
            · rw [upto]
              have ne : bs' ≠ [] := fun z => by
                rw [z] at bl'
                exact hne (List.eq_nil_of_length_eq_zero bl'.symm)
              have ep : partR r bs' L = (partD r.kind (bkOf r.kind) r.ws L 0 bs').filter someB := by
                unfold partR
                rw [if_neg ne]
              rw [ep]
              exact RowsT.set nT4 ((hU3.same s4).app rows)
            · rw [List.length_append]
              omega
      · obtain ⟨sm2, us, srt, y5, y6, y7, y8, y10, y11, hG, hsrt, hU, ul, hB2, rfl⟩ := hp2
        have xl := hR.1
        rw [xl] at hU hsrt
        exact ⟨_, rfl, q H2 G us srt sm2 nGH hG hsrt hU⟩
end
/-! ### one block after the other, plainly -/
def stepF (f : Nat → RowD → List RowD) : Nat → List RowD → List RowD
  | _, [] => []
  | k, r :: R => f k r ++ stepF f (k + 1) R
theorem stepF_app (f : Nat → RowD → List RowD) : ∀ (X Y : List RowD) (k : Nat), stepF f k (X ++ Y) = stepF f k X ++ stepF f (k + X.length) Y
  | [], Y, k => rfl
  | r :: X, Y, k => by
    show f k r ++ stepF f (k + 1) (X ++ Y) = f k r ++ stepF f (k + 1) X ++ _
    rw [stepF_app f X Y, List.append_assoc, List.length_cons, show k + 1 + X.length = k + (X.length + 1) by omega]
theorem stepF_id (f : Nat → RowD → List RowD) : ∀ (X : List RowD) (k : Nat), (∀ i r, k ≤ i → i < k + X.length → f i r = [r]) → stepF f k X = X
  | [], _, _ => rfl
  | r :: X, k, h => by
    show f k r ++ stepF f (k + 1) X = r :: X
    rw [h k r (Nat.le_refl _) (by rw [List.length_cons]; omega), stepF_id f X (k + 1) fun i r h1 h2 => h i r (by omega) (by rw [List.length_cons]; omega)]
    rfl
theorem stepF_congr {f g : Nat → RowD → List RowD} : ∀ (X : List RowD) (k : Nat), (∀ i r, k ≤ i → i < k + X.length → f i r = g i r) → stepF f k X = stepF g k X
  | [], _, _ => rfl
  | r :: X, k, h => by
    show f k r ++ stepF f (k + 1) X = g k r ++ stepF g (k + 1) X
    rw [h k r (Nat.le_refl _) (by rw [List.length_cons]; omega), stepF_congr X (k + 1) fun i r h1 h2 => h i r (by omega) (by rw [List.length_cons]; omega)]
theorem withD_step (rs : List RowD) (srt : Nat → List (Nat × Nat)) (L : Nat) : ∀ n, n ≤ rs.length → withD rs srt L n = stepF (fun i r => partR r (srt i) L) 0 (rs.take n)
  | 0, _ => rfl
  | n + 1, h => by
    have e := List.getElem?_eq_getElem (show n < rs.length from h)
    rw [withD_succ e, withD_step rs srt L n (by omega), take_snoc e, stepF_app, List.length_take, Nat.min_eq_left (by omega), Nat.zero_add]
    show _ = _ ++ (partR _ (srt n) L ++ [])
    rw [List.append_nil]
/-- a row parted once -/
def partL (r : RowD) (bk : Str) (n a L : Nat) : List RowD := [(⟨r.kind, 0, r.ws.take a⟩ : RowD), ⟨bk, (n : Int), (r.ws.drop a).take L⟩, ⟨r.kind, 0, r.ws.drop (a + L)⟩].filter someB
/-- one block: a run of L words in the rows h and t -/
def cutStep (R : List RowD) (h a t b L n : Nat) : List RowD := stepF (fun k r => if k = h then partL r "take" n a L else if k = t then partL r "lay" n b L else [r]) 0 R
theorem stepF_cons (f : Nat → RowD → List RowD) (k : Nat) (r : RowD) (R : List RowD) : stepF f k (r :: R) = f k r ++ stepF f (k + 1) R := rfl
theorem stepF_two {f : Nat → RowD → List RowD} {X Y Z : List RowD} {r1 r2 : RowD} {P1 P2 : List RowD} (f1 : f X.length r1 = P1) (f2 : f (X.length + 1 + Y.length) r2 = P2) (fid : ∀ i r, i ≠ X.length → i ≠ X.length + 1 + Y.length → f i r = [r]) :
    stepF f 0 (X ++ r1 :: (Y ++ r2 :: Z)) = X ++ P1 ++ Y ++ P2 ++ Z := by
  rw [stepF_app, stepF_id f X 0 fun i r _ h => fid i r (by omega) (by omega), stepF_cons, Nat.zero_add, f1, stepF_app, stepF_id f Y _ fun i r h1 h => fid i r (by omega) (by omega), stepF_cons, f2, stepF_id f Z _ fun i r h1 h => fid i r (by omega) (by omega)]
  simp only [List.append_assoc]
theorem cutStep_ht {X Y Z : List RowD} {r1 r2 : RowD} {a b L n : Nat} : cutStep (X ++ r1 :: (Y ++ r2 :: Z)) X.length a (X.length + 1 + Y.length) b L n = X ++ partL r1 "take" n a L ++ Y ++ partL r2 "lay" n b L ++ Z := by
  refine stepF_two (if_pos rfl) ?_ fun i r h1 h2 => ?_
  · exact (if_neg (by omega)).trans (if_pos rfl)
  · exact (if_neg h1).trans (if_neg h2)
theorem cutStep_th {X Y Z : List RowD} {r1 r2 : RowD} {a b L n : Nat} : cutStep (X ++ r2 :: (Y ++ r1 :: Z)) (X.length + 1 + Y.length) a X.length b L n = X ++ partL r2 "lay" n b L ++ Y ++ partL r1 "take" n a L ++ Z := by
  refine stepF_two ?_ (if_pos rfl) fun i r h1 h2 => ?_
  · exact (if_neg (by omega)).trans (if_pos rfl)
  · exact (if_neg h2).trans (if_neg h1)
/-- a run of m words in the cut row h at a and in the put row t at b -/
def Common (R : List RowD) (h a t b m : Nat) : Prop := ∃ r r', R[h]? = some r ∧ r.kind = "cut" ∧ a + m ≤ r.ws.length ∧ R[t]? = some r' ∧ r'.kind = "put" ∧ b + m ≤ r'.ws.length ∧ (r'.ws.drop b).take m = (r.ws.drop a).take m
theorem hasD_common {R : List RowD} {m : Nat} : hasD R m = true ↔ ∃ h a t b, Common R h a t b m := by
  rw [hasD_iff]
  constructor
  · rintro ⟨a, b, a', b', r, r', h⟩
    exact ⟨a, b, a', b', r, r', h⟩
  · rintro ⟨a, b, a', b', r, r', h⟩
    exact ⟨a, b, a', b', r, r', h⟩
structure IsBest (R : List RowD) (h a t b L : Nat) : Prop where
  com : Common R h a t b L
  max : ∀ h' a' t' b', ¬ Common R h' a' t' b' (L + 1)
  fst : ∀ h' a' t' b', Common R h' a' t' b' L → (h', a') = (h, a) ∧ ((t', b') = (t, b) ∨ Lt (t, b) (t', b')) ∨ Lt (h, a) (h', a')
inductive Told : List RowD → Nat → List RowD → Prop
  | done {R : List RowD} {n : Nat} : (∀ h a t b, ¬ Common R h a t b 2) → Told R n R
  | step {R R' : List RowD} {n h a t b L : Nat} : IsBest R h a t b L → 2 ≤ L → Told (cutStep R h a t b L n) (n + 1) R' → Told R n R'
/-! #### words and places -/
def wlen (X : List RowD) : Nat := (X.map fun r => r.ws.length).sum
theorem wlen_app (X Y : List RowD) : wlen (X ++ Y) = wlen X + wlen Y := by
  unfold wlen
  rw [List.map_append, List.sum_append]
theorem wlen_cons (r : RowD) (X : List RowD) : wlen (r :: X) = r.ws.length + wlen X := rfl
theorem wlen_some : ∀ X : List RowD, wlen (X.filter someB) = wlen X
  | [] => rfl
  | r :: X => by
    rw [List.filter_cons]
    by_cases h : someB r = true
    · rw [if_pos h, wlen_cons, wlen_cons, wlen_some X]
    · rw [if_neg h, wlen_cons, wlen_some X]
      have : ¬ 0 < r.ws.length := fun z => h (decide_eq_true z)
      omega
/-- where the word a of the row h stands among all words -/
def posR (R : List RowD) (p : Pl) : Nat := wlen (R.take p.1) + p.2
theorem posR_app {X Y : List RowD} {r : RowD} {a : Nat} : posR (X ++ r :: Y) (X.length, a) = wlen X + a := by
  unfold posR
  rw [List.take_left']
  rfl
theorem wlen_take {R : List RowD} {i : Nat} {r : RowD} (h : R[i]? = some r) : wlen (R.take (i + 1)) = wlen (R.take i) + r.ws.length := by
  rw [take_snoc h, wlen_app]
  rfl
theorem wlen_mono {R : List RowD} : ∀ {i j : Nat}, i ≤ j → wlen (R.take i) ≤ wlen (R.take j) := fun {i j} h => by
  have e : R.take j = R.take i ++ (R.take j).drop i := by
    have q := (List.take_append_drop i (R.take j)).symm
    rwa [List.take_take, Nat.min_eq_left h] at q
  rw [e, wlen_app]
  exact Nat.le_add_right _ _
theorem pos_lt {R : List RowD} {p q : Pl} {r : RowD} (hp : R[p.1]? = some r) (ha : p.2 < r.ws.length) (h : Lt p q) : posR R p < posR R q := by
  unfold posR
  rcases h with h | ⟨h1, h2⟩
  · have e := wlen_take hp
    have m := wlen_mono (R := R) (show p.1 + 1 ≤ q.1 by omega)
    omega
  · rw [h1]
    omega
theorem pos_inj {R : List RowD} {p q : Pl} {r r' : RowD} (hp : R[p.1]? = some r) (ha : p.2 < r.ws.length) (hq : R[q.1]? = some r') (hb : q.2 < r'.ws.length) (e : posR R p = posR R q) : p = q := by
  rcases Classical.em (p = q) with z | z
  · exact z
  · exfalso
    rcases lt_or z with c | c
    · have := pos_lt hp ha c
      omega
    · have := pos_lt hq hb c
      omega
/-! ### the parts of one row -/
def partF (k bk : Str) (ws : List Str) (L e : Nat) (bs : List (Nat × Nat)) : List RowD := (partD k bk ws L e bs).filter someB
/-- blocks in order, none over another, from e on -/
def Okb (L m : Nat) : Nat → List (Nat × Nat) → Prop
  | e, [] => e ≤ m
  | e, x :: bs => e ≤ x.1 ∧ Okb L m (x.1 + L) bs
theorem Okb.le {L m : Nat} : ∀ {bs : List (Nat × Nat)} {e : Nat}, Okb L m e bs → e ≤ m
  | [], _, h => h
  | x :: bs, _, h => Nat.le_trans (Nat.le_trans h.1 (Nat.le_add_right _ L)) (Okb.le h.2)
theorem Okb.all {L m : Nat} : ∀ {bs : List (Nat × Nat)} {e : Nat}, Okb L m e bs → ∀ y ∈ bs, e ≤ y.1 ∧ y.1 + L ≤ m
  | x :: bs, e, h, y, hy => by
    rcases List.mem_cons.mp hy with z | z
    · subst z
      exact ⟨h.1, h.2.le⟩
    · have q := Okb.all h.2 y z
      have := h.1
      exact ⟨by omega, q.2⟩
def oneF (r : RowD) : List RowD := [r].filter someB
theorem oneF_yes {r : RowD} (h : 0 < r.ws.length) : oneF r = [r] := by
  unfold oneF
  rw [List.filter_cons, if_pos (show someB r = true from decide_eq_true h)]
  rfl
theorem oneF_no {r : RowD} (h : r.ws.length = 0) : oneF r = [] := by
  unfold oneF
  rw [List.filter_cons, if_neg (show ¬ someB r = true from fun z => by have := of_decide_eq_true z; omega)]
  rfl
theorem oneF_wlen (r : RowD) : wlen (oneF r) = r.ws.length := by
  unfold oneF
  rw [wlen_some]
  show r.ws.length + 0 = _
  rw [Nat.add_zero]
theorem partF_nil (k bk : Str) (ws : List Str) (L e : Nat) : partF k bk ws L e [] = oneF ⟨k, 0, ws.drop e⟩ := rfl
theorem partF_cons (k bk : Str) (ws : List Str) (L e b n : Nat) (bs : List (Nat × Nat)) : partF k bk ws L e ((b, n) :: bs) = oneF ⟨k, 0, (ws.drop e).take (b - e)⟩ ++ oneF ⟨bk, (n : Int), (ws.drop b).take L⟩ ++ partF k bk ws L (b + L) bs := by
  unfold partF oneF
  rw [← List.filter_append, ← List.filter_append]
  rfl
theorem partL_eq (r : RowD) (bk : Str) (n a L : Nat) : partL r bk n a L = oneF ⟨r.kind, 0, r.ws.take a⟩ ++ oneF ⟨bk, (n : Int), (r.ws.drop a).take L⟩ ++ oneF ⟨r.kind, 0, r.ws.drop (a + L)⟩ := by
  unfold partL oneF
  rw [← List.filter_append, ← List.filter_append]
  rfl
theorem partF_wlen {k bk : Str} {ws : List Str} {L : Nat} : ∀ {bs : List (Nat × Nat)} {e : Nat}, Okb L ws.length e bs → wlen (partF k bk ws L e bs) = ws.length - e
  | [], e, h => by
    rw [partF_nil, oneF_wlen, List.length_drop]
  | (b, n) :: bs, e, h => by
    have h1 : e ≤ b := h.1
    have h2 : Okb L ws.length (b + L) bs := h.2
    have h3 := h2.le
    rw [partF_cons, wlen_app, wlen_app, oneF_wlen, oneF_wlen, partF_wlen h2, List.length_take, List.length_drop, List.length_take, List.length_drop]
    omega
def insB (x : Nat × Nat) : List (Nat × Nat) → List (Nat × Nat)
  | [] => [x]
  | y :: l => if x.1 < y.1 then x :: y :: l else y :: insB x l
theorem insB_perm (x : Nat × Nat) : ∀ l, (insB x l).Perm (x :: l)
  | [] => List.Perm.refl _
  | y :: l => by
    unfold insB
    split
    · exact List.Perm.refl _
    · exact ((insB_perm x l).cons y).trans (List.Perm.swap x y l)
/-- words of a row: from s on, c of them -/
theorem drop_parts (ws : List Str) (e s c : Nat) (h : e ≤ s) : (ws.drop e).take (s - e + c) = (ws.drop e).take (s - e) ++ (ws.drop s).take c := by
  rw [List.take_add, List.drop_drop, Nat.add_sub_cancel' h]
/-- one more block in a row's parts -/
theorem part_ins {k bk : Str} {ws : List Str} {L b n : Nat} (hL : 1 ≤ L) (hb : b + L ≤ ws.length) : ∀ {bs : List (Nat × Nat)} {e : Nat}, Okb L ws.length e bs → e ≤ b → (∀ y ∈ bs, b + L ≤ y.1 ∨ y.1 + L ≤ b) →
    ∃ A C a P, partF k bk ws L e bs = A ++ (⟨k, 0, P⟩ : RowD) :: C ∧ wlen A + a = b - e ∧ a + L ≤ P.length ∧ (P.drop a).take L = (ws.drop b).take L ∧ partF k bk ws L e (insB (b, n) bs) = A ++ partL ⟨k, 0, P⟩ bk n a L ++ C ∧ Okb L ws.length e (insB (b, n) bs)
  | [], e, h, he, _ => by
    have e1 : partF k bk ws L e [] = [(⟨k, 0, ws.drop e⟩ : RowD)] := by
      rw [partF_nil, oneF_yes]
      show 0 < (ws.drop e).length
      rw [List.length_drop]
      omega
    refine ⟨[], [], b - e, ws.drop e, e1, by show 0 + (b - e) = _; omega, by rw [List.length_drop]; omega, by rw [List.drop_drop, Nat.add_sub_cancel' he], ?_, he, hb⟩
    show partF k bk ws L e [(b, n)] = _
    rw [partF_cons, partF_nil, partL_eq, List.nil_append, List.append_nil]
    show _ = oneF ⟨k, 0, (ws.drop e).take (b - e)⟩ ++ oneF ⟨bk, (n : Int), ((ws.drop e).drop (b - e)).take L⟩ ++ oneF ⟨k, 0, (ws.drop e).drop (b - e + L)⟩
    rw [List.drop_drop, List.drop_drop, Nat.add_sub_cancel' he, show e + (b - e + L) = b + L by omega]
  | (b1, n1) :: bs, e, h, he, far => by
    have h1 : e ≤ b1 := h.1
    have h2 : Okb L ws.length (b1 + L) bs := h.2
    have h3 := h2.le
    have f1 := far (b1, n1) List.mem_cons_self
    have f1 : b + L ≤ b1 ∨ b1 + L ≤ b := f1
    by_cases c : b < b1
    · have g1 : b + L ≤ b1 := by omega
      have ei : insB (b, n) ((b1, n1) :: bs) = (b, n) :: (b1, n1) :: bs := if_pos c
      have ePl : ((ws.drop e).take (b1 - e)).length = b1 - e := by
        rw [List.length_take, List.length_drop]
        omega
      refine ⟨[], oneF ⟨bk, (n1 : Int), (ws.drop b1).take L⟩ ++ partF k bk ws L (b1 + L) bs, b - e, (ws.drop e).take (b1 - e), ?_, by show 0 + (b - e) = _; omega, by rw [ePl]; omega, ?_, ?_, by rw [ei]; exact ⟨he, g1, h2⟩⟩
      · rw [partF_cons, oneF_yes (r := ⟨k, 0, (ws.drop e).take (b1 - e)⟩) (by show 0 < ((ws.drop e).take (b1 - e)).length; rw [ePl]; omega), List.append_assoc]
        rfl
      · rw [List.drop_take, List.drop_drop, Nat.add_sub_cancel' he, List.take_take, Nat.min_eq_left (by omega)]
      · rw [ei, partF_cons, partF_cons, partL_eq, List.nil_append]
        show _ = oneF ⟨k, 0, ((ws.drop e).take (b1 - e)).take (b - e)⟩ ++ oneF ⟨bk, (n : Int), (((ws.drop e).take (b1 - e)).drop (b - e)).take L⟩ ++ oneF ⟨k, 0, ((ws.drop e).take (b1 - e)).drop (b - e + L)⟩ ++ _
        rw [List.take_take, Nat.min_eq_left (show b - e ≤ b1 - e by omega), List.drop_take, List.drop_drop, Nat.add_sub_cancel' he, List.take_take, Nat.min_eq_left (show L ≤ b1 - e - (b - e) by omega), List.drop_take, List.drop_drop, show e + (b - e + L) = b + L by omega, show b1 - e - (b - e + L) = b1 - (b + L) by omega]
        simp only [List.append_assoc]
    · have g1 : b1 + L ≤ b := by omega
      have ei : insB (b, n) ((b1, n1) :: bs) = (b1, n1) :: insB (b, n) bs := if_neg c
      obtain ⟨A, C, a, P, q1, q2, q3, q4, q5, q6⟩ := part_ins (k := k) (bk := bk) (n := n) hL hb h2 g1 fun y hy => far y (List.mem_cons_of_mem _ hy)
      refine ⟨oneF ⟨k, 0, (ws.drop e).take (b1 - e)⟩ ++ oneF ⟨bk, (n1 : Int), (ws.drop b1).take L⟩ ++ A, C, a, P, ?_, ?_, q3, q4, ?_, by rw [ei]; exact ⟨h1, q6⟩⟩
      · rw [partF_cons, q1, List.append_assoc _ A]
      · rw [wlen_app, wlen_app, oneF_wlen, oneF_wlen, List.length_take, List.length_drop, List.length_take, List.length_drop]
        omega
      · rw [ei, partF_cons, q5]
        simp only [List.append_assoc]
/-- where a plain part stands -/
theorem part_loc {k bk : Str} {ws : List Str} {L : Nat} (hkb : k ≠ bk) : ∀ {bs : List (Nat × Nat)} {e : Nat}, Okb L ws.length e bs → ∀ {A C : List RowD} {r : RowD}, partF k bk ws L e bs = A ++ r :: C → r.kind = k →
    ∃ s, s = e + wlen A ∧ s + r.ws.length ≤ ws.length ∧ r.ws = (ws.drop s).take r.ws.length ∧ ∀ y ∈ bs, y.1 + L ≤ s ∨ s + r.ws.length ≤ y.1
  | [], e, h, A, C, r, q, _ => by
    have h : e ≤ ws.length := h
    by_cases c : 0 < (ws.drop e).length
    · rw [partF_nil, oneF_yes (r := ⟨k, 0, ws.drop e⟩) c] at q
      cases A with
      | nil =>
        cases q
        refine ⟨e, rfl, ?_, ?_, fun y hy => by cases hy⟩
        · show e + (ws.drop e).length ≤ _
          rw [List.length_drop]
          omega
        · show ws.drop e = (ws.drop e).take (ws.drop e).length
          rw [List.take_length]
      | cons x A =>
        have := congrArg List.length q
        simp at this
    · rw [partF_nil, oneF_no (r := ⟨k, 0, ws.drop e⟩) (Nat.eq_zero_of_not_pos c)] at q
      cases A <;> cases q
  | (b, n) :: bs, e, h, A, C, r, q, hk => by
    have h1 : e ≤ b := h.1
    have h2 : Okb L ws.length (b + L) bs := h.2
    have h3 := h2.le
    rw [partF_cons] at q
    -- ahead of the block
    by_cases c0 : 0 < ((ws.drop e).take (b - e)).length ∧ A = []
    · obtain ⟨c, rfl⟩ := c0
      rw [oneF_yes (r := ⟨k, 0, (ws.drop e).take (b - e)⟩) c] at q
      cases q
      have el : ((ws.drop e).take (b - e)).length = b - e := by
        rw [List.length_take, List.length_drop]
        omega
      refine ⟨e, rfl, ?_, ?_, fun y hy => ?_⟩
      · show e + ((ws.drop e).take (b - e)).length ≤ _
        omega
      · show (ws.drop e).take (b - e) = (ws.drop e).take ((ws.drop e).take (b - e)).length
        rw [el]
      · show _ ∨ e + ((ws.drop e).take (b - e)).length ≤ _
        rcases List.mem_cons.mp hy with z | z
        · subst z
          exact .inr (by omega)
        · have := (Okb.all h2 y z).1
          exact .inr (by omega)
    · -- behind it
      have key : ∀ A', A = oneF ⟨k, 0, (ws.drop e).take (b - e)⟩ ++ oneF ⟨bk, (n : Int), (ws.drop b).take L⟩ ++ A' → partF k bk ws L (b + L) bs = A' ++ r :: C → ∃ s, s = e + wlen A ∧ s + r.ws.length ≤ ws.length ∧ r.ws = (ws.drop s).take r.ws.length ∧ ∀ y ∈ (b, n) :: bs, y.1 + L ≤ s ∨ s + r.ws.length ≤ y.1 := fun A' eA qA => by
        obtain ⟨s, g1, g2, g3, g4⟩ := part_loc hkb h2 qA hk
        refine ⟨s, ?_, g2, g3, fun y hy => ?_⟩
        · rw [eA, wlen_app, wlen_app, oneF_wlen, oneF_wlen, List.length_take, List.length_drop, List.length_take, List.length_drop]
          omega
        · rcases List.mem_cons.mp hy with z | z
          · subst z
            exact .inl (by show b + L ≤ s; omega)
          · exact g4 y z
      -- the block's part is no plain one
      have blk : ∀ X, oneF ⟨bk, (n : Int), (ws.drop b).take L⟩ ++ partF k bk ws L (b + L) bs = X ++ r :: C → ∃ A', X = oneF ⟨bk, (n : Int), (ws.drop b).take L⟩ ++ A' ∧ partF k bk ws L (b + L) bs = A' ++ r :: C := fun X qX => by
        by_cases c : 0 < ((ws.drop b).take L).length
        · rw [oneF_yes (r := ⟨bk, (n : Int), (ws.drop b).take L⟩) c] at qX ⊢
          cases X with
          | nil =>
            have e1 := (List.cons.inj qX).1
            rw [← e1] at hk
            exact absurd hk.symm hkb
          | cons x X =>
            have e1 := List.cons.inj qX
            exact ⟨X, by rw [← e1.1]; rfl, e1.2⟩
        · rw [oneF_no (r := ⟨bk, (n : Int), (ws.drop b).take L⟩) (Nat.eq_zero_of_not_pos c)] at qX ⊢
          exact ⟨X, rfl, qX⟩
      rw [List.append_assoc] at q
      by_cases c : 0 < ((ws.drop e).take (b - e)).length
      · rw [oneF_yes (r := ⟨k, 0, (ws.drop e).take (b - e)⟩) c] at q
        cases A with
        | nil => exact absurd ⟨c, rfl⟩ c0
        | cons x A =>
          have q1 := List.cons.inj q
          obtain ⟨A', e1, e2⟩ := blk A q1.2
          refine key A' ?_ e2
          rw [oneF_yes (r := ⟨k, 0, (ws.drop e).take (b - e)⟩) c, e1, ← q1.1]
          rfl
      · rw [oneF_no (r := ⟨k, 0, (ws.drop e).take (b - e)⟩) (Nat.eq_zero_of_not_pos c), List.nil_append] at q
        obtain ⟨A', e1, e2⟩ := blk A q
        refine key A' ?_ e2
        rw [oneF_no (r := ⟨k, 0, (ws.drop e).take (b - e)⟩) (Nat.eq_zero_of_not_pos c), e1]
        rfl
/-! ### a pass is one block after the other -/
theorem stepF_at {f : Nat → RowD → List RowD} : ∀ {X : List RowD} {k : Nat} {A C : List RowD} {r' : RowD}, stepF f k X = A ++ r' :: C → ∃ B1 r B2 A1 C1, X = B1 ++ r :: B2 ∧ f (k + B1.length) r = A1 ++ r' :: C1 ∧ A = stepF f k B1 ++ A1
  | [], k, A, C, r', h => by
    have h : ([] : List RowD) = A ++ r' :: C := h
    cases A <;> cases h
  | x :: X, k, A, C, r', h => by
    rw [stepF_cons] at h
    rcases List.append_eq_append_iff.mp h with ⟨D, h1, h2⟩ | ⟨D, h1, h2⟩
    · -- behind the first
      obtain ⟨B1, r, B2, A1, C1, g1, g2, g3⟩ := stepF_at h2
      refine ⟨x :: B1, r, B2, A1, C1, by rw [g1]; rfl, ?_, ?_⟩
      · rw [List.length_cons, show k + (B1.length + 1) = k + 1 + B1.length by omega]
        exact g2
      · rw [h1, g3, stepF_cons, List.append_assoc]
    · cases D with
      | nil =>
        rw [List.append_nil] at h1
        rw [List.nil_append] at h2
        obtain ⟨B1, r, B2, A1, C1, g1, g2, g3⟩ := stepF_at (A := []) h2.symm
        refine ⟨x :: B1, r, B2, A1, C1, by rw [g1]; rfl, ?_, ?_⟩
        · rw [List.length_cons, show k + (B1.length + 1) = k + 1 + B1.length by omega]
          exact g2
        · rw [stepF_cons, List.append_assoc, ← g3, List.append_nil]
          exact h1.symm
      | cons y D =>
        have e := List.cons.inj h2
        refine ⟨[], x, X, A, D, rfl, ?_, ?_⟩
        · show f (k + 0) x = _
          rw [Nat.add_zero, h1, e.1]
        · show A = [] ++ A
          rfl
theorem stepF_wlen {f : Nat → RowD → List RowD} : ∀ (X : List RowD) (k : Nat), (∀ (i : Nat) (r : RowD), X[i]? = some r → wlen (f (k + i) r) = r.ws.length) → wlen (stepF f k X) = wlen X
  | [], _, _ => rfl
  | r :: X, k, h => by
    have h0 : wlen (f k r) = r.ws.length := h 0 r rfl
    rw [stepF_cons, wlen_app, wlen_cons, h0, stepF_wlen X (k + 1) fun i r hi => by
      have := h (i + 1) r hi
      rwa [show k + (i + 1) = k + 1 + i by omega] at this]
theorem take_split {α : Type} {l : List α} {i : Nat} {x : α} (h : l[i]? = some x) : l = l.take i ++ x :: l.drop (i + 1) ∧ (l.take i).length = i := by
  obtain ⟨hi, e⟩ := List.getElem?_eq_some_iff.mp h
  refine ⟨?_, by rw [List.length_take]; omega⟩
  have q := (List.take_append_drop i l).symm
  rwa [List.drop_eq_getElem_cons hi, e] at q
theorem split_two {α : Type} {l : List α} {i j : Nat} {x y : α} (hi : l[i]? = some x) (hj : l[j]? = some y) (lt : i < j) : ∃ B1 B2 B3, l = B1 ++ x :: (B2 ++ y :: B3) ∧ B1.length = i ∧ i + 1 + B2.length = j := by
  obtain ⟨e1, e2⟩ := take_split hi
  have hj' : (l.drop (i + 1))[j - (i + 1)]? = some y := by
    rw [List.getElem?_drop, show i + 1 + (j - (i + 1)) = j by omega]
    exact hj
  obtain ⟨e3, e4⟩ := take_split hj'
  exact ⟨_, _, _, by rw [← e3]; exact e1, e2, by rw [e4]; omega⟩
def isCP (k : Str) : Prop := k = "cut" ∨ k = "put"
theorem bkOf_not (k k' : Str) (h : isCP k') : bkOf k ≠ k' := by
  unfold bkOf
  rcases h with h | h <;> subst h <;> (split <;> decide +kernel)
/-- rows that are told without blocks, or partly -/
structure Plain (rs : List RowD) : Prop where
  ne : ∀ r ∈ rs, r.ws ≠ []
  num : ∀ r ∈ rs, isCP r.kind → r.num = 0
def RK (rs : List RowD) (S : Nat → List (Nat × Nat)) (L : Nat) : List RowD := stepF (fun i r => partR r (S i) L) 0 rs
structure GoodS (rs : List RowD) (S : Nat → List (Nat × Nat)) (L : Nat) : Prop where
  ok : ∀ (i : Nat) (r : RowD), rs[i]? = some r → Okb L r.ws.length 0 (S i)
  cp : ∀ (i : Nat) (r : RowD), rs[i]? = some r → S i ≠ [] → isCP r.kind
theorem partR_F {r : RowD} {bs : List (Nat × Nat)} {L : Nat} (hn : r.num = 0) (ne : r.ws ≠ []) : partR r bs L = partF r.kind (bkOf r.kind) r.ws L 0 bs := by
  unfold partR
  split
  · next h =>
    subst h
    rw [partF_nil, List.drop_zero, oneF_yes (r := ⟨r.kind, 0, r.ws⟩) (List.length_pos_iff.mpr ne)]
    obtain ⟨k, n, ws⟩ := r
    have hn : n = 0 := hn
    rw [hn]
  · rfl
theorem partR_wlen {rs : List RowD} {S : Nat → List (Nat × Nat)} {L : Nat} (p : Plain rs) (g : GoodS rs S L) {i : Nat} {r : RowD} (h : rs[i]? = some r) : wlen (partR r (S i) L) = r.ws.length := by
  have hm := List.mem_of_getElem? h
  by_cases c : S i = []
  · unfold partR
    rw [if_pos c]
    show r.ws.length + 0 = _
    rw [Nat.add_zero]
  · rw [partR_F (p.num r hm (g.cp i r h c)) (p.ne r hm), partF_wlen (g.ok i r h), Nat.sub_zero]
theorem partD_kind (k bk : Str) (ws : List Str) (L : Nat) : ∀ (bs : List (Nat × Nat)) (e : Nat), ∀ r ∈ partD k bk ws L e bs, r.kind = k ∨ r.kind = bk
  | [], e, r, h => by
    rw [List.mem_singleton.mp h]
    exact .inl rfl
  | (b, n) :: bs, e, r, h => by
    have h : r ∈ (⟨k, 0, (ws.drop e).take (b - e)⟩ : RowD) :: ⟨bk, (n : Int), (ws.drop b).take L⟩ :: partD k bk ws L (b + L) bs := h
    rcases List.mem_cons.mp h with z | z
    · rw [z]
      exact .inl rfl
    · rcases List.mem_cons.mp z with z | z
      · rw [z]
        exact .inr rfl
      · exact partD_kind k bk ws L bs _ r z
/-- a plain row of the new telling comes out of a row of the old one -/
theorem loc_back {rs : List RowD} {S : Nat → List (Nat × Nat)} {L : Nat} (p : Plain rs) (g : GoodS rs S L) {A C : List RowD} {r' : RowD} (h : RK rs S L = A ++ r' :: C) (hk : isCP r'.kind) :
    ∃ i r s, rs[i]? = some r ∧ r.kind = r'.kind ∧ wlen A = wlen (rs.take i) + s ∧ s + r'.ws.length ≤ r.ws.length ∧ r'.ws = (r.ws.drop s).take r'.ws.length ∧ ∀ y ∈ S i, y.1 + L ≤ s ∨ s + r'.ws.length ≤ y.1 := by
  obtain ⟨B1, r, B2, A1, C1, h1, h2, h3⟩ := stepF_at h
  rw [Nat.zero_add] at h2
  have hi : rs[B1.length]? = some r := by
    rw [h1, List.getElem?_append_right (Nat.le_refl _), Nat.sub_self]
    rfl
  have hm := List.mem_of_getElem? hi
  have tk : rs.take B1.length = B1 := by rw [h1, List.take_left']; rfl
  have wB : wlen (stepF (fun i r => partR r (S i) L) 0 B1) = wlen B1 := stepF_wlen B1 0 fun i r hi => by
    rw [Nat.zero_add]
    refine partR_wlen p g ?_
    rw [h1, List.getElem?_append_left (List.getElem?_eq_some_iff.mp hi).1]
    exact hi
  have same : r.kind = r'.kind := by
    have hr' : r' ∈ partR r (S B1.length) L := by
      rw [h2]
      exact List.mem_append_right _ List.mem_cons_self
    unfold partR at hr'
    split at hr'
    · rw [List.mem_singleton.mp hr']
    · rcases partD_kind _ _ _ _ _ _ _ (List.mem_filter.mp hr').1 with z | z
      · exact z.symm
      · exact absurd z.symm (bkOf_not _ _ hk)
  have hk' : isCP r.kind := same ▸ hk
  have h2 : partR r (S B1.length) L = A1 ++ r' :: C1 := h2
  rw [partR_F (p.num r hm hk') (p.ne r hm)] at h2
  obtain ⟨s, s1, s2, s3, s4⟩ := part_loc (fun z => bkOf_not r.kind r.kind hk' z.symm) (g.ok _ _ hi) h2 same.symm
  refine ⟨B1.length, r, s, hi, same, ?_, s2, s3, s4⟩
  rw [h3, wlen_app, wB, tk, s1]
  omega
/-- the new lists of blocks -/
def insS (S : Nat → List (Nat × Nat)) (c p : Pl) (n : Nat) : Nat → List (Nat × Nat) := fun q => if q = c.1 then insB (c.2, n) (S q) else if q = p.1 then insB (p.2, n) (S q) else S q
theorem free_blk {S : Nat → List (Nat × Nat)} {L : Nat} {bl : List Pl} {i b : Nat} (hL : 1 ≤ L) (hS : ∀ y ∈ S i, (i, y.1) ∈ bl) (f : FreeP L bl (i, b)) : ∀ y ∈ S i, b + L ≤ y.1 ∨ y.1 + L ≤ b := fun y hy => by
  rcases Nat.lt_or_ge y.1 (b + L) with c | c
  · rcases Nat.lt_or_ge b (y.1 + L) with d | d
    · exfalso
      rcases Nat.lt_or_ge b y.1 with z | z
      · exact f y.1 (Nat.le_of_lt z) c ⟨(i, y.1), hS y hy, rfl, Nat.le_refl _, by show y.1 < y.1 + L; omega⟩
      · exact f b (Nat.le_refl _) (by show b < b + L; omega) ⟨(i, y.1), hS y hy, rfl, z, d⟩
    · exact .inr d
  · exact .inl c
theorem RK_two {rs B1 B2 B3 : List RowD} {x y : RowD} {S : Nat → List (Nat × Nat)} {L i j : Nat} (e : rs = B1 ++ x :: (B2 ++ y :: B3)) (l1 : B1.length = i) (l2 : i + 1 + B2.length = j) :
    RK rs S L = stepF (fun i r => partR r (S i) L) 0 B1 ++ (partR x (S i) L ++ (stepF (fun i r => partR r (S i) L) (i + 1) B2 ++ (partR y (S j) L ++ stepF (fun i r => partR r (S i) L) (j + 1) B3))) := by
  unfold RK
  rw [e, stepF_app, stepF_cons, stepF_app, stepF_cons, Nat.zero_add, l1, l2]
/-- one more pair is one more step -/
theorem step_two {rs : List RowD} {S : Nat → List (Nat × Nat)} {L n : Nat} (p : Plain rs) (g : GoodS rs S L) (hL : 1 ≤ L) {i b j b' : Nat} {ri rj : RowD} (hi : rs[i]? = some ri) (hj : rs[j]? = some rj) (ki : ri.kind = "cut") (kj : rj.kind = "put")
    (fi : b + L ≤ ri.ws.length) (fj : b' + L ≤ rj.ws.length) (di : ∀ y ∈ S i, b + L ≤ y.1 ∨ y.1 + L ≤ b) (dj : ∀ y ∈ S j, b' + L ≤ y.1 ∨ y.1 + L ≤ b') (eq : (rj.ws.drop b').take L = (ri.ws.drop b).take L) :
    ∃ h a t a' r1 r2, (RK rs S L)[h]? = some r1 ∧ a + L ≤ r1.ws.length ∧ (RK rs S L)[t]? = some r2 ∧ a' + L ≤ r2.ws.length ∧ Common (RK rs S L) h a t a' L ∧ posR (RK rs S L) (h, a) = posR rs (i, b) ∧ posR (RK rs S L) (t, a') = posR rs (j, b') ∧ RK rs (insS S (i, b) (j, b') n) L = cutStep (RK rs S L) h a t a' L n ∧ GoodS rs (insS S (i, b) (j, b') n) L := by
  have ij : i ≠ j := fun z => by
    subst z
    rw [hi] at hj
    cases hj
    rw [ki] at kj
    exact absurd kj (by decide +kernel)
  have mi := List.mem_of_getElem? hi
  have mj := List.mem_of_getElem? hj
  have pi := fun bs => partR_F (bs := bs) (L := L) (p.num ri mi (.inl ki)) (p.ne ri mi)
  have pj := fun bs => partR_F (bs := bs) (L := L) (p.num rj mj (.inr kj)) (p.ne rj mj)
  obtain ⟨A, C, a, P, q1, q2, q3, q4, q5, q6⟩ := part_ins (k := ri.kind) (bk := bkOf ri.kind) (n := n) hL fi (g.ok i ri hi) (Nat.zero_le _) di
  obtain ⟨A', C', a', P', w1, w2, w3, w4, w5, w6⟩ := part_ins (k := rj.kind) (bk := bkOf rj.kind) (n := n) hL fj (g.ok j rj hj) (Nat.zero_le _) dj
  rw [← pi] at q1 q5
  rw [← pj] at w1 w5
  have bi : bkOf ri.kind = "take" := if_pos ki
  have bj : bkOf rj.kind = "lay" := if_neg (by rw [kj]; decide +kernel)
  rw [bi] at q5
  rw [bj] at w5
  have si : insS S (i, b) (j, b') n i = insB (b, n) (S i) := if_pos rfl
  have sj : insS S (i, b) (j, b') n j = insB (b', n) (S j) := (if_neg (Ne.symm ij)).trans (if_pos rfl)
  have so : ∀ q, q ≠ i → q ≠ j → insS S (i, b) (j, b') n q = S q := fun q h1 h2 => (if_neg h1).trans (if_neg h2)
  have good : GoodS rs (insS S (i, b) (j, b') n) L := by
    constructor
    · intro q r hq
      by_cases z1 : q = i
      · subst z1
        rw [hi] at hq
        cases hq
        rw [si]
        exact q6
      · by_cases z2 : q = j
        · subst z2
          rw [hj] at hq
          cases hq
          rw [sj]
          exact w6
        · rw [so q z1 z2]
          exact g.ok q r hq
    · intro q r hq ne
      by_cases z1 : q = i
      · subst z1
        rw [hi] at hq
        cases hq
        exact .inl ki
      · by_cases z2 : q = j
        · subst z2
          rw [hj] at hq
          cases hq
          exact .inr kj
        · rw [so q z1 z2] at ne
          exact g.cp q r hq ne
  have cong : ∀ (B : List RowD) (k : Nat), (∀ q, k ≤ q → q < k + B.length → q ≠ i ∧ q ≠ j) → stepF (fun i' r => partR r (insS S (i, b) (j, b') n i') L) k B = stepF (fun i r => partR r (S i) L) k B := fun B k h => by
    refine stepF_congr B k fun q r h1 h2 => ?_
    have := h q h1 h2
    rw [so q this.1 this.2]
  rcases Nat.lt_or_gt_of_ne ij with lt | lt
  · obtain ⟨B1, B2, B3, e, l1, l2⟩ := split_two hi hj lt
    have e1 := RK_two (S := S) (L := L) e l1 l2
    have e2 := RK_two (S := insS S (i, b) (j, b') n) (L := L) e l1 l2
    rw [si, sj, q5, w5, cong B1 0 (fun q h1 h2 => by omega), cong B2 (i + 1) (fun q h1 h2 => by omega), cong B3 (j + 1) (fun q h1 h2 => by omega)] at e2
    have w1' : wlen (stepF (fun i r => partR r (S i) L) 0 B1) = wlen B1 := stepF_wlen B1 0 fun q r hq => by
      rw [Nat.zero_add]
      refine partR_wlen p g ?_
      rw [e, List.getElem?_append_left (List.getElem?_eq_some_iff.mp hq).1]
      exact hq
    have w2' : wlen (stepF (fun i r => partR r (S i) L) (i + 1) B2) = wlen B2 := stepF_wlen B2 (i + 1) fun q r hq => by
      refine partR_wlen p g ?_
      have lq := (List.getElem?_eq_some_iff.mp hq).1
      rw [e, List.getElem?_append_right (by omega), l1, show i + 1 + q - i = q + 1 by omega, List.getElem?_cons_succ, List.getElem?_append_left lq]
      exact hq
    have wi := partR_wlen p g hi
    have tk1 : wlen (rs.take i) = wlen B1 := by rw [e, List.take_left' l1]
    have tk2 : wlen (rs.take j) = wlen B1 + ri.ws.length + wlen B2 := by
      rw [e, show B1 ++ ri :: (B2 ++ rj :: B3) = (B1 ++ ri :: B2) ++ rj :: B3 by simp, List.take_left' (by simp; omega), wlen_app, wlen_cons]
      omega
    rw [q1, w1] at e1
    rw [q1, wlen_app, wlen_cons] at wi
    have wi : wlen A + (P.length + wlen C) = ri.ws.length := wi
    generalize stepF (fun i r => partR r (S i) L) 0 B1 = U1 at e1 e2 w1'
    generalize stepF (fun i r => partR r (S i) L) (i + 1) B2 = U2 at e1 e2 w2'
    generalize stepF (fun i r => partR r (S i) L) (j + 1) B3 = U3 at e1 e2
    have f1 : RK rs S L = (U1 ++ A) ++ (⟨ri.kind, 0, P⟩ : RowD) :: ((C ++ U2 ++ A') ++ (⟨rj.kind, 0, P'⟩ : RowD) :: (C' ++ U3)) := by
      rw [e1]
      simp only [List.append_assoc, List.cons_append]
    have f2 : RK rs (insS S (i, b) (j, b') n) L = (U1 ++ A) ++ partL ⟨ri.kind, 0, P⟩ "take" n a L ++ (C ++ U2 ++ A') ++ partL ⟨rj.kind, 0, P'⟩ "lay" n a' L ++ (C' ++ U3) := by
      rw [e2]
      simp only [List.append_assoc]
    have g1 : (RK rs S L)[(U1 ++ A).length]? = some ⟨ri.kind, 0, P⟩ := by
      rw [f1, List.getElem?_append_right (Nat.le_refl _), Nat.sub_self]
      rfl
    have g2 : (RK rs S L)[(U1 ++ A).length + 1 + (C ++ U2 ++ A').length]? = some ⟨rj.kind, 0, P'⟩ := by
      rw [f1, List.getElem?_append_right (by omega), show (U1 ++ A).length + 1 + (C ++ U2 ++ A').length - (U1 ++ A).length = (C ++ U2 ++ A').length + 1 by omega, List.getElem?_cons_succ, List.getElem?_append_right (Nat.le_refl _), Nat.sub_self]
      rfl
    refine ⟨_, a, _, a', _, _, g1, q3, g2, w3, ⟨_, _, g1, ki, q3, g2, kj, w3, by rw [q4]; show (P'.drop a').take L = _; rw [w4, eq]⟩, ?_, ?_, ?_, good⟩
    · rw [f1, posR_app, wlen_app]
      unfold posR
      show _ = wlen (rs.take i) + b
      omega
    · have f3 : RK rs S L = ((U1 ++ A) ++ (⟨ri.kind, 0, P⟩ : RowD) :: (C ++ U2 ++ A')) ++ (⟨rj.kind, 0, P'⟩ : RowD) :: (C' ++ U3) := by
        rw [f1]
        simp only [List.append_assoc, List.cons_append]
      have hl : (U1 ++ A).length + 1 + (C ++ U2 ++ A').length = ((U1 ++ A) ++ (⟨ri.kind, 0, P⟩ : RowD) :: (C ++ U2 ++ A')).length := by
        simp only [List.length_append, List.length_cons]
        omega
      rw [hl, f3, posR_app, wlen_app, wlen_cons, wlen_app, wlen_app, wlen_app]
      unfold posR
      show wlen U1 + wlen A + (P.length + (wlen C + wlen U2 + wlen A')) + a' = wlen (rs.take j) + b'
      omega
    · rw [f2, f1]
      exact cutStep_ht.symm
  · obtain ⟨B1, B2, B3, e, l1, l2⟩ := split_two hj hi lt
    have e1 := RK_two (S := S) (L := L) e l1 l2
    have e2 := RK_two (S := insS S (i, b) (j, b') n) (L := L) e l1 l2
    rw [si, sj, q5, w5, cong B1 0 (fun q h1 h2 => by omega), cong B2 (j + 1) (fun q h1 h2 => by omega), cong B3 (i + 1) (fun q h1 h2 => by omega)] at e2
    have w1' : wlen (stepF (fun i r => partR r (S i) L) 0 B1) = wlen B1 := stepF_wlen B1 0 fun q r hq => by
      rw [Nat.zero_add]
      refine partR_wlen p g ?_
      rw [e, List.getElem?_append_left (List.getElem?_eq_some_iff.mp hq).1]
      exact hq
    have w2' : wlen (stepF (fun i r => partR r (S i) L) (j + 1) B2) = wlen B2 := stepF_wlen B2 (j + 1) fun q r hq => by
      refine partR_wlen p g ?_
      have lq := (List.getElem?_eq_some_iff.mp hq).1
      rw [e, List.getElem?_append_right (by omega), l1, show j + 1 + q - j = q + 1 by omega, List.getElem?_cons_succ, List.getElem?_append_left lq]
      exact hq
    have wj := partR_wlen p g hj
    have tk1 : wlen (rs.take j) = wlen B1 := by rw [e, List.take_left' l1]
    have tk2 : wlen (rs.take i) = wlen B1 + rj.ws.length + wlen B2 := by
      rw [e, show B1 ++ rj :: (B2 ++ ri :: B3) = (B1 ++ rj :: B2) ++ ri :: B3 by simp, List.take_left' (by simp; omega), wlen_app, wlen_cons]
      omega
    rw [q1, w1] at e1
    rw [w1, wlen_app, wlen_cons] at wj
    have wj : wlen A' + (P'.length + wlen C') = rj.ws.length := wj
    generalize stepF (fun i r => partR r (S i) L) 0 B1 = U1 at e1 e2 w1'
    generalize stepF (fun i r => partR r (S i) L) (j + 1) B2 = U2 at e1 e2 w2'
    generalize stepF (fun i r => partR r (S i) L) (i + 1) B3 = U3 at e1 e2
    have f1 : RK rs S L = (U1 ++ A') ++ (⟨rj.kind, 0, P'⟩ : RowD) :: ((C' ++ U2 ++ A) ++ (⟨ri.kind, 0, P⟩ : RowD) :: (C ++ U3)) := by
      rw [e1]
      simp only [List.append_assoc, List.cons_append]
    have f2 : RK rs (insS S (i, b) (j, b') n) L = (U1 ++ A') ++ partL ⟨rj.kind, 0, P'⟩ "lay" n a' L ++ (C' ++ U2 ++ A) ++ partL ⟨ri.kind, 0, P⟩ "take" n a L ++ (C ++ U3) := by
      rw [e2]
      simp only [List.append_assoc]
    have g2 : (RK rs S L)[(U1 ++ A').length]? = some ⟨rj.kind, 0, P'⟩ := by
      rw [f1, List.getElem?_append_right (Nat.le_refl _), Nat.sub_self]
      rfl
    have g1 : (RK rs S L)[(U1 ++ A').length + 1 + (C' ++ U2 ++ A).length]? = some ⟨ri.kind, 0, P⟩ := by
      rw [f1, List.getElem?_append_right (by omega), show (U1 ++ A').length + 1 + (C' ++ U2 ++ A).length - (U1 ++ A').length = (C' ++ U2 ++ A).length + 1 by omega, List.getElem?_cons_succ, List.getElem?_append_right (Nat.le_refl _), Nat.sub_self]
      rfl
    refine ⟨_, a, _, a', _, _, g1, q3, g2, w3, ⟨_, _, g1, ki, q3, g2, kj, w3, by rw [q4]; show (P'.drop a').take L = _; rw [w4, eq]⟩, ?_, ?_, ?_, good⟩
    · have f3 : RK rs S L = ((U1 ++ A') ++ (⟨rj.kind, 0, P'⟩ : RowD) :: (C' ++ U2 ++ A)) ++ (⟨ri.kind, 0, P⟩ : RowD) :: (C ++ U3) := by
        rw [f1]
        simp only [List.append_assoc, List.cons_append]
      have hl : (U1 ++ A').length + 1 + (C' ++ U2 ++ A).length = ((U1 ++ A') ++ (⟨rj.kind, 0, P'⟩ : RowD) :: (C' ++ U2 ++ A)).length := by
        simp only [List.length_append, List.length_cons]
        omega
      rw [hl, f3, posR_app, wlen_app, wlen_cons, wlen_app, wlen_app, wlen_app]
      unfold posR
      show wlen U1 + wlen A' + (P'.length + (wlen C' + wlen U2 + wlen A)) + a = wlen (rs.take i) + b
      omega
    · rw [f1, posR_app, wlen_app]
      unfold posR
      show _ = wlen (rs.take j) + b'
      omega
    · rw [f2, f1]
      exact cutStep_th.symm
/-! ### the whole pass -/
theorem sub_run {xs ws : List Str} {s a l : Nat} (h : xs = (ws.drop s).take xs.length) (ha : a + l ≤ xs.length) : (xs.drop a).take l = (ws.drop (s + a)).take l := by
  rw [h, List.drop_take, List.drop_drop, List.take_take, Nat.min_eq_left (by omega)]
theorem lt_of_pos {R : List RowD} {p q : Pl} {r : RowD} (hq : R[q.1]? = some r) (hb : q.2 < r.ws.length) (h : posR R p < posR R q) : Lt p q := by
  rcases Classical.em (p = q) with z | z
  · subst z
    omega
  · rcases lt_or z with c | c
    · exact c
    · have := pos_lt hq hb c
      omega
/-- the blocks of S are those of bl -/
structure SBl (S : Nat → List (Nat × Nat)) (bl : List Pl) : Prop where
  sub : ∀ i, ∀ y ∈ S i, (i, y.1) ∈ bl
  all : ∀ q ∈ bl, ∃ n, (q.2, n) ∈ S q.1
theorem SBl.free {S : Nat → List (Nat × Nat)} {bl : List Pl} {L i s m a : Nat} (x : SBl S bl) (h : ∀ y ∈ S i, y.1 + L ≤ s ∨ s + m ≤ y.1) (ha : a + L ≤ m) : FreeP L bl (i, s + a) := by
  rintro x1 h1 h2 ⟨q, q1, q2, q3, q4⟩
  have q2 : q.1 = i := q2
  obtain ⟨n, hn⟩ := x.all q q1
  rw [q2] at hn
  have h1 : s + a ≤ x1 := h1
  have h2 : x1 < s + a + L := h2
  rcases h _ hn with z | z
  · have z : q.2 + L ≤ s := z
    omega
  · have z : s + m ≤ q.2 := z
    omega
/-- a plain place of the new telling is a free place of the old one -/
theorem place_back {rs : List RowD} {S : Nat → List (Nat × Nat)} {bl : List Pl} {L m : Nat} (p : Plain rs) (g : GoodS rs S L) (x : SBl S bl) {h a : Nat} {r' : RowD} (hr : (RK rs S L)[h]? = some r') (hk : isCP r'.kind) (ha : a + m ≤ r'.ws.length) :
    ∃ c r, rs[c.1]? = some r ∧ r.kind = r'.kind ∧ c.2 + m ≤ r.ws.length ∧ posR (RK rs S L) (h, a) = posR rs c ∧ (r.ws.drop c.2).take m = (r'.ws.drop a).take m ∧ (L ≤ m → FreeP L bl c) := by
  obtain ⟨e1, e2⟩ := take_split hr
  obtain ⟨i, r, s, h1, h2, h3, h4, h5, h6⟩ := loc_back p g e1 hk
  refine ⟨(i, s + a), r, h1, h2, by show s + a + m ≤ _; omega, ?_, (sub_run h5 ha).symm, fun hm => x.free h6 (by omega)⟩
  show wlen ((RK rs S L).take h) + a = wlen (rs.take i) + (s + a)
  omega
theorem best_of {rs : List RowD} {S : Nat → List (Nat × Nat)} {bl : List Pl} {L : Nat} (hL : 1 ≤ L) (pl : Plain rs) (g : GoodS rs S L) (x : SBl S bl) (no : hasD rs (L + 1) = false) {c p : Pl} (F : First rs L bl c p) {h a t b : Nat} {r1 r2 : RowD}
    (h1 : (RK rs S L)[h]? = some r1) (a1 : a + L ≤ r1.ws.length) (h2 : (RK rs S L)[t]? = some r2) (b1 : b + L ≤ r2.ws.length) (cm : Common (RK rs S L) h a t b L) (pc : posR (RK rs S L) (h, a) = posR rs c) (pp : posR (RK rs S L) (t, b) = posR rs p) : IsBest (RK rs S L) h a t b L := by
  refine ⟨cm, fun h' a' t' b' ⟨r, r', g1, g2, g3, g4, g5, g6, g7⟩ => ?_, fun h' a' t' b' ⟨r, r', g1, g2, g3, g4, g5, g6, g7⟩ => ?_⟩
  · obtain ⟨c', rc, k1, k2, k3, _, k4, _⟩ := place_back pl g x g1 (.inl g2) g3
    obtain ⟨p', rp, l1, l2, l3, _, l4, _⟩ := place_back pl g x g4 (.inr g5) g6
    have : hasD rs (L + 1) = true := hasD_common.2 ⟨c'.1, c'.2, p'.1, p'.2, rc, rp, k1, k2.trans g2, k3, l1, l2.trans g5, l3, by rw [l4, k4]; exact g7⟩
    rw [no] at this
    cases this
  · obtain ⟨c', rc, k1, k2, k3, k5, k4, k6⟩ := place_back pl g x g1 (.inl g2) g3
    obtain ⟨p', rp, l1, l2, l3, l5, l4, l6⟩ := place_back pl g x g4 (.inr g5) g6
    have cin : c' ∈ cutP rs L := mem_plD.2 ⟨rc, k1, k2.trans g2, k3⟩
    have pin : p' ∈ putP rs L := mem_plD.2 ⟨rp, l1, l2.trans g5, l3⟩
    have er : runD rs L p' = runD rs L c' := (runD_at l1).trans ((l4.trans (g7.trans k4.symm)).trans (runD_at k1).symm)
    have n1 : ¬ Lt c' c := fun z => F.cut1 c' cin z (k6 (Nat.le_refl _)) p' pin (l6 (Nat.le_refl _)) er
    obtain ⟨rc0, c1, c2, c3⟩ := mem_plD.1 F.cin
    obtain ⟨rp0, d1, d2, d3⟩ := mem_plD.1 F.pin
    rcases Classical.em (c' = c) with z | z
    · subst z
      have e1 : ((h', a') : Pl) = (h, a) := pos_inj g1 (by show a' < _; omega) h1 (by show a < _; omega) (by rw [k5, pc])
      refine .inl ⟨e1, ?_⟩
      have n2 : ¬ Lt p' p := fun z => F.put1 p' pin z (l6 (Nat.le_refl _)) er
      rcases Classical.em (p' = p) with y | y
      · subst y
        exact .inl (pos_inj g4 (by show b' < _; omega) h2 (by show b < _; omega) (by rw [l5, pp]))
      · refine .inr ?_
        rcases lt_or y with y | y
        · exact absurd y n2
        · refine lt_of_pos g4 (by show b' < _; omega) ?_
          rw [l5, pp]
          exact pos_lt d1 (by omega) y
    · rcases lt_or z with z | z
      · exact absurd z n1
      · refine .inr (lt_of_pos g1 (by show a' < _; omega) ?_)
        rw [k5, pc]
        exact pos_lt c1 (by omega) z
theorem RK_nil (rs : List RowD) (L : Nat) : RK rs (fun _ => []) L = rs := stepF_id _ rs 0 fun i r _ _ => if_pos rfl
theorem goodS_nil (rs : List RowD) (L : Nat) : GoodS rs (fun _ => []) L := ⟨fun i r _ => Nat.zero_le _, fun i r _ h => absurd rfl h⟩
theorem pass_chain {rs : List RowD} {L n : Nat} (hL : 2 ≤ L) (pl : Plain rs) (no : hasD rs (L + 1) = false) {ps : List Pr} (G : Greedy rs L ps) : ∀ k, k ≤ ps.length → ∃ S, (∀ i, (S i).Perm (bnAt i (itB n (ps.take k)))) ∧ GoodS rs S L ∧ SBl S (blkOf (ps.take k)) ∧ ∀ R', Told (RK rs S L) (n + k) R' → Told rs n R'
  | 0, _ => ⟨fun _ => [], fun i => List.Perm.refl _, goodS_nil rs L, ⟨(fun i y hy => by cases hy), (fun q hq => by cases hq)⟩, fun R' h => by rw [RK_nil] at h; exact h⟩
  | k + 1, hk => by
    obtain ⟨S, s1, s2, s3, s4⟩ := pass_chain (n := n) hL pl no G k (by omega)
    obtain ⟨⟨c, p⟩, hcp⟩ : ∃ cp, ps[k]? = some cp := ⟨_, List.getElem?_eq_getElem hk⟩
    have F := G k c p hcp
    obtain ⟨rc, c1, c2, c3⟩ := mem_plD.1 F.cin
    obtain ⟨rp, d1, d2, d3⟩ := mem_plD.1 F.pin
    have er := F.eq
    have er : (rp.ws.drop p.2).take L = (rc.ws.drop c.2).take L := (runD_at d1).symm.trans (er.trans (runD_at c1))
    obtain ⟨h, a, t, b, r1, r2, q1, q2, q3, q4, q5, q6, q7, q8, q9⟩ := step_two (n := n + k) pl s2 (by omega : 1 ≤ L) c1 d1 c2 d2 c3 d3 (free_blk (by omega) (s3.sub c.1) F.cfr) (free_blk (by omega) (s3.sub p.1) F.pfr) er
    have best := best_of (by omega : 1 ≤ L) pl s2 s3 no F q1 q2 q3 q4 q5 q6 q7
    have ij : c.1 ≠ p.1 := fun z => by
      rw [z] at c1
      rw [d1] at c1
      cases c1
      rw [c2] at d2
      exact absurd d2 (by decide +kernel)
    have kl : (ps.take k).length = k := by rw [List.length_take]; omega
    have eit : itB n (ps.take (k + 1)) = itB n (ps.take k) ++ [(c, n + k), (p, n + k)] := by
      rw [take_snoc hcp, itB_snoc, kl]
    have perm : ∀ i, (insS S c p (n + k) i).Perm (bnAt i (itB n (ps.take (k + 1)))) := fun i => by
      obtain ⟨ca, cb⟩ := c
      obtain ⟨pa, pb⟩ := p
      have ij : ca ≠ pa := ij
      rw [eit, show itB n (ps.take k) ++ [(((ca, cb) : Pl), n + k), ((pa, pb), n + k)] = (itB n (ps.take k) ++ [((ca, cb), n + k)]) ++ [((pa, pb), n + k)] by simp, bnAt_snoc, bnAt_snoc]
      have up : ∀ b, (insB (b, n + k) (S i)).Perm (bnAt i (itB n (ps.take k)) ++ [(b, n + k)]) := fun b => (insB_perm _ _).trans (((s1 i).cons _).trans (List.perm_append_singleton _ _).symm)
      by_cases z1 : i = ca
      · rw [if_neg (show ¬ i = pa from fun z => ij (z1.symm.trans z)), if_pos z1]
        show (if i = ca then insB (cb, n + k) (S i) else _).Perm _
        rw [if_pos z1]
        exact up cb
      · by_cases z2 : i = pa
        · rw [if_pos z2, if_neg z1]
          show (if i = ca then insB (cb, n + k) (S i) else if i = pa then insB (pb, n + k) (S i) else S i).Perm _
          rw [if_neg z1, if_pos z2]
          exact up pb
        · rw [if_neg z2, if_neg z1]
          show (if i = ca then insB (cb, n + k) (S i) else if i = pa then insB (pb, n + k) (S i) else S i).Perm _
          rw [if_neg z1, if_neg z2]
          exact s1 i
    refine ⟨insS S c p (n + k), perm, q9, ⟨fun i y hy => ?_, fun q hq => ?_⟩, fun R' hR => s4 R' (.step best hL ?_)⟩
    · rw [← itB_blk (ps.take (k + 1)) n]
      have := bnAt_mem.1 ((perm i).mem_iff.mp hy)
      exact List.mem_map.mpr ⟨_, this, rfl⟩
    · rw [← itB_blk (ps.take (k + 1)) n] at hq
      obtain ⟨⟨q', m⟩, h1, rfl⟩ := List.mem_map.mp hq
      exact ⟨m, (perm q'.1).mem_iff.mpr (bnAt_mem.2 h1)⟩
    · rw [← q8]
      exact hR
/-- two orders of the same blocks are one -/
theorem order_one {L m : Nat} (hL : 1 ≤ L) : ∀ {l l' : List (Nat × Nat)} {e : Nat}, Okb L m e l → l'.Perm l → l'.Pairwise (fun p q => p.1 ≤ q.1) → l' = l
  | [], l', e, _, h, _ => List.Perm.eq_nil h
  | x :: l, l', e, ok, h, s => by
    cases l' with
    | nil => exact absurd h.length_eq (by simp)
    | cons y l' =>
      have hs := List.pairwise_cons.mp s
      have e1 : y = x := by
        have hx : x ∈ y :: l' := h.mem_iff.mpr List.mem_cons_self
        have hy : y ∈ x :: l := h.mem_iff.mp List.mem_cons_self
        rcases List.mem_cons.mp hy with z | z
        · exact z
        · have h1 := (Okb.all ok.2 y z).1
          rcases List.mem_cons.mp hx with w | w
          · exact w.symm
          · have := hs.1 x w
            omega
      subst e1
      rw [order_one hL ok.2 h.cons_inv hs.2]
/-- a pass tells blocks in the document's order -/
theorem pass_told {rs : List RowD} {L n : Nat} (hL : 2 ≤ L) (pl : Plain rs) (no : hasD rs (L + 1) = false) {ps : List Pr} (G : Greedy rs L ps) {srt : Nat → List (Nat × Nat)} (hs : ∀ i, i < rs.length → (srt i).Perm (bnAt i (itB n ps)) ∧ (srt i).Pairwise (fun p q => p.1 ≤ q.1)) :
    ∃ S, withD rs srt L rs.length = RK rs S L ∧ GoodS rs S L ∧ SBl S (blkOf ps) ∧ ∀ R', Told (RK rs S L) (n + ps.length) R' → Told rs n R' := by
  obtain ⟨S, s1, s2, s3, s4⟩ := pass_chain (n := n) hL pl no G ps.length (Nat.le_refl _)
  rw [List.take_length] at s1 s3
  refine ⟨S, ?_, s2, s3, s4⟩
  rw [withD_step rs srt L _ (Nat.le_refl _), List.take_length]
  refine stepF_congr rs 0 fun i r _ hi => ?_
  have hi : i < rs.length := by omega
  obtain ⟨p1, p2⟩ := hs i hi
  rw [order_one (by omega : 1 ≤ L) (s2.ok i _ (List.getElem?_eq_getElem hi)) (p1.trans (s1 i).symm) p2]
/-! ### told with blocks -/
def kW (k : Str) (X : List RowD) : Nat := wlen (X.filter fun r => decide (r.kind = k))
theorem kW_app (k : Str) (X Y : List RowD) : kW k (X ++ Y) = kW k X + kW k Y := by
  unfold kW
  rw [List.filter_append, wlen_app]
theorem kW_le (k : Str) : ∀ X : List RowD, kW k X ≤ wlen X
  | [] => Nat.le_refl _
  | r :: X => by
    have ih := kW_le k X
    unfold kW at ih ⊢
    rw [List.filter_cons, wlen_cons]
    split
    · rw [wlen_cons]
      omega
    · omega
theorem kW_none {k : Str} {X : List RowD} (h : ∀ r ∈ X, r.kind ≠ k) : kW k X = 0 := by
  unfold kW
  rw [List.filter_eq_nil_iff.mpr fun r hr => by simpa using h r hr]
  rfl
theorem kW_cons (k : Str) (r : RowD) (X : List RowD) : kW k (r :: X) = (if r.kind = k then r.ws.length else 0) + kW k X := by
  unfold kW
  rw [List.filter_cons]
  by_cases h : r.kind = k
  · rw [if_pos (decide_eq_true h), if_pos h, wlen_cons]
  · rw [if_neg (fun z => h (of_decide_eq_true z)), if_neg h, Nat.zero_add]
theorem plOf_le {k : Str} {L i : Nat} {r : RowD} (hL : 1 ≤ L) : (plOf k L i r).length ≤ if r.kind = k then r.ws.length else 0 := by
  unfold plOf
  split
  · rw [List.length_map, List.length_range]
    omega
  · exact Nat.le_refl _
theorem plD_le {k : Str} {L : Nat} (hL : 1 ≤ L) (rs : List RowD) : ∀ n, n ≤ rs.length → (plD k L rs n).length ≤ kW k (rs.take n)
  | 0, _ => Nat.zero_le _
  | n + 1, h => by
    have e := List.getElem?_eq_getElem (show n < rs.length from h)
    have ih := plD_le hL rs n (by omega) (k := k)
    rw [plD_succ e, take_snoc e, kW_app, List.length_append, kW_cons]
    have := plOf_le (k := k) (i := n) (r := rs[n]) hL
    omega
theorem wlen_mem {r : RowD} : ∀ {X : List RowD}, r ∈ X → r.ws.length ≤ wlen X
  | x :: X, h => by
    rw [wlen_cons]
    rcases List.mem_cons.mp h with z | z
    · rw [z]
      omega
    · have := wlen_mem z
      omega
theorem len_wlen : ∀ {X : List RowD}, (∀ r ∈ X, r.ws ≠ []) → X.length ≤ wlen X
  | [], _ => Nat.le_refl _
  | r :: X, h => by
    have ih := len_wlen fun r hr => h r (List.mem_cons_of_mem _ hr)
    have := List.length_pos_iff.mpr (h r List.mem_cons_self)
    rw [wlen_cons, List.length_cons]
    omega
/-- rows that with_blocks can go through -/
structure Fine (rs : List RowD) : Prop where
  pl : Plain rs
  tot : wlen rs ≤ 1000
  put : kW "put" rs ≤ 299
theorem Fine.small {rs : List RowD} (f : Fine rs) : Small rs := ⟨fun r hr => Nat.le_trans (wlen_mem hr) f.tot, Nat.le_trans (len_wlen f.pl.ne) f.tot⟩
theorem Fine.few {rs : List RowD} (f : Fine rs) {L : Nat} (hL : 1 ≤ L) : (putP rs L).length ≤ 299 := by
  have := plD_le (k := "put") hL rs rs.length (Nat.le_refl _)
  rw [List.take_length] at this
  exact Nat.le_trans this f.put
theorem Fine.fewC {rs : List RowD} (f : Fine rs) {L : Nat} (hL : 1 ≤ L) : (cutP rs L).length ≤ 1000 := by
  have := plD_le (k := "cut") hL rs rs.length (Nat.le_refl _)
  rw [List.take_length] at this
  exact Nat.le_trans this (Nat.le_trans (kW_le _ _) f.tot)
theorem partR_mem {r r' : RowD} {bs : List (Nat × Nat)} {L : Nat} (h : r' ∈ partR r bs L) : r' = r ∨ ((r'.kind = r.kind ∧ r'.num = 0 ∨ r'.kind = bkOf r.kind) ∧ r'.ws ≠ []) := by
  unfold partR at h
  split at h
  · exact .inl (List.mem_singleton.mp h)
  · obtain ⟨h1, h2⟩ := List.mem_filter.mp h
    refine .inr ⟨?_, List.length_pos_iff.mp (of_decide_eq_true h2)⟩
    have key : ∀ (bs : List (Nat × Nat)) (e : Nat), r' ∈ partD r.kind (bkOf r.kind) r.ws L e bs → r'.kind = r.kind ∧ r'.num = 0 ∨ r'.kind = bkOf r.kind := by
      intro bs
      induction bs with
      | nil =>
        intro e h
        rw [List.mem_singleton.mp h]
        exact .inl ⟨rfl, rfl⟩
      | cons x bs ih =>
        intro e h
        have h : r' ∈ (⟨r.kind, 0, (r.ws.drop e).take (x.1 - e)⟩ : RowD) :: ⟨bkOf r.kind, (x.2 : Int), (r.ws.drop x.1).take L⟩ :: partD r.kind (bkOf r.kind) r.ws L (x.1 + L) bs := h
        rcases List.mem_cons.mp h with z | z
        · rw [z]
          exact .inl ⟨rfl, rfl⟩
        · rcases List.mem_cons.mp z with z | z
          · rw [z]
            exact .inr rfl
          · exact ih _ z
    exact key bs 0 h1
theorem stepF_mem {f : Nat → RowD → List RowD} {r' : RowD} : ∀ {X : List RowD} {k : Nat}, r' ∈ stepF f k X → ∃ i r, X[i]? = some r ∧ r' ∈ f (k + i) r
  | x :: X, k, h => by
    rw [stepF_cons] at h
    rcases List.mem_append.mp h with z | z
    · exact ⟨0, x, rfl, z⟩
    · obtain ⟨i, r, h1, h2⟩ := stepF_mem z
      exact ⟨i + 1, r, h1, by rw [show k + (i + 1) = k + 1 + i by omega]; exact h2⟩
theorem plain_RK {rs : List RowD} {S : Nat → List (Nat × Nat)} {L : Nat} (p : Plain rs) : Plain (RK rs S L) := by
  constructor
  · intro r' h
    obtain ⟨i, r, h1, h2⟩ := stepF_mem h
    rcases partR_mem h2 with z | ⟨_, z⟩
    · rw [z]
      exact p.ne r (List.mem_of_getElem? h1)
    · exact z
  · intro r' h hk
    obtain ⟨i, r, h1, h2⟩ := stepF_mem h
    rcases partR_mem h2 with z | ⟨⟨_, z⟩ | z, _⟩
    · rw [z] at hk ⊢
      exact p.num r (List.mem_of_getElem? h1) hk
    · exact z
    · exact absurd z.symm (bkOf_not _ _ hk)
theorem kW_RK {rs : List RowD} {S : Nat → List (Nat × Nat)} {L : Nat} {k : Str} (hk : isCP k) (p : Plain rs) (g : GoodS rs S L) : kW k (RK rs S L) ≤ kW k rs := by
  have key : ∀ (X : List RowD) (j : Nat), (∀ (i : Nat) (r : RowD), X[i]? = some r → rs[j + i]? = some r) → kW k (stepF (fun i r => partR r (S i) L) j X) ≤ kW k X := by
    intro X
    induction X with
    | nil => intro j _; exact Nat.le_refl _
    | cons r X ih =>
      intro j h
      have h0 : rs[j]? = some r := h 0 r rfl
      have ih := ih (j + 1) fun i r hi => by
        have := h (i + 1) r hi
        rwa [show j + (i + 1) = j + 1 + i by omega] at this
      rw [stepF_cons, kW_app, kW_cons]
      have w := partR_wlen p g h0
      have le : kW k (partR r (S j) L) ≤ if r.kind = k then r.ws.length else 0 := by
        by_cases c : r.kind = k
        · rw [if_pos c, ← w]
          exact kW_le _ _
        · rw [if_neg c, kW_none fun r' hr' e => ?_]
          · exact Nat.le_refl _
          · rcases partR_mem hr' with z | ⟨⟨z, _⟩ | z, _⟩
            · rw [z] at e
              exact c e
            · exact c (z.symm.trans e)
            · exact bkOf_not _ _ hk (z.symm.trans e)
      have le : kW k ((fun i r => partR r (S i) L) j r) ≤ if r.kind = k then r.ws.length else 0 := le
      omega
  exact key rs 0 fun i r hi => by rw [Nat.zero_add]; exact hi
theorem Fine.pass {rs : List RowD} {S : Nat → List (Nat × Nat)} {L : Nat} (f : Fine rs) (g : GoodS rs S L) : Fine (RK rs S L) := by
  refine ⟨plain_RK f.pl, ?_, Nat.le_trans (kW_RK (.inr rfl) f.pl g) f.put⟩
  have w : wlen (RK rs S L) = wlen rs := stepF_wlen rs 0 fun i r hi => by
    rw [Nat.zero_add]
    exact partR_wlen f.pl g hi
  rw [w]
  exact f.tot
/-- behind a pass there is no run of its length -/
theorem pass_none {rs : List RowD} {S : Nat → List (Nat × Nat)} {bl : List Pl} {L : Nat} (f : Fine rs) (g : GoodS rs S L) (x : SBl S bl) (no : NoMore rs L bl (cutP rs L)) : hasD (RK rs S L) L = false := by
  cases e : hasD (RK rs S L) L with
  | false => rfl
  | true =>
    exfalso
    obtain ⟨h, a, t, b, r, r', g1, g2, g3, g4, g5, g6, g7⟩ := hasD_common.1 e
    obtain ⟨c', rc, k1, k2, k3, _, k4, k6⟩ := place_back f.pl g x g1 (.inl g2) g3
    obtain ⟨p', rp, l1, l2, l3, _, l4, l6⟩ := place_back f.pl g x g4 (.inr g5) g6
    exact no c' (mem_plD.2 ⟨rc, k1, k2.trans g2, k3⟩) (k6 (Nat.le_refl _)) p' (mem_plD.2 ⟨rp, l1, l2.trans g5, l3⟩) (l6 (Nat.le_refl _)) ((runD_at l1).trans ((l4.trans (g7.trans k4.symm)).trans (runD_at k1).symm))
theorem blk_in {rs : List RowD} {L : Nat} {ps : List Pr} (f : Fine rs) (G : Greedy rs L ps) : ∀ c ∈ blkOf ps, ∃ r, rs[c.1]? = some r ∧ r.num = 0 ∧ c.2 + L ≤ r.ws.length := fun q hq => by
  unfold blkOf at hq
  obtain ⟨⟨c, p⟩, h1, h2⟩ := List.mem_flatMap.mp hq
  obtain ⟨j, hj⟩ := List.mem_iff_getElem?.mp h1
  have F := G j c p hj
  have h2 : q ∈ [c, p] := h2
  rcases List.mem_cons.mp h2 with z | z
  · subst z
    obtain ⟨r, k1, k2, k3⟩ := mem_plD.1 F.cin
    exact ⟨r, k1, f.pl.num r (List.mem_of_getElem? k1) (.inl k2), k3⟩
  · rw [List.mem_singleton.mp z]
    obtain ⟨r, k1, k2, k3⟩ := mem_plD.1 F.pin
    exact ⟨r, k1, f.pl.num r (List.mem_of_getElem? k1) (.inr k2), k3⟩
section
variable {P : Program} {w : World} {K : PySem.W.Frag} {mg : Str → Option Value} {base : Heap}
theorem scWithBlocks : FnScope ["rows", "block_rows", "number", "length", "pairs"] ["rows"] (defScope sWithBlocks) := ⟨rfl, rfl, rfl, by decide +kernel, rfl, by decide +kernel, by decide +kernel⟩
/-- rows that are handed in -/
structure Handed (rs : List RowD) : Prop where
  ok : ∀ r ∈ rs, RowOk r
  tot : wlen rs ≤ 1000
  put : kW "put" rs ≤ 299
theorem Handed.fine {rs : List RowD} (h : Handed rs) (no : ∀ r ∈ rs, ¬ r.kind ∈ blockK) : Fine rs := by
  refine ⟨⟨fun r hr => (h.ok r hr).some, fun r hr _ => ?_⟩, h.tot, h.put⟩
  have hn := (h.ok r hr).num
  unfold numB at hn
  rw [inV_strs, decide_eq_false (no r hr)] at hn
  exact V.int.inj (of_decide_eq_true hn)
theorem Handed.len {rs : List RowD} (h : Handed rs) : (∀ r ∈ rs, RowOk r ∧ r.ws.length ≤ 1000) ∧ rs.length ≤ 1000 :=
  ⟨fun r hr => ⟨h.ok r hr, Nat.le_trans (wlen_mem hr) h.tot⟩, Nat.le_trans (len_wlen fun r hr => (h.ok r hr).some) h.tot⟩
def spWithBlocks (K : PySem.W.Frag) (Ps : List Addr) (cR : Addr) : Sp := fun vs H Q E => ∃ (p : Addr) (xs : List V) (rs : List RowD), vs = [.ref p] ∧ SqL K H p xs ∧ RowsT K H xs rs ∧ Handed rs ∧ Tb Ps H ∧
  ((∀ r ∈ rs, ¬ r.kind ∈ blockK) → ∀ (H' : Hp) (D : Addr) (us : List V) (rs' : List RowD), Kp Ps H H' → H D = none → H' D = some (.lst us) → RowsT K H' us rs' → Told rs 1 rs' → Fine rs' → Q (.ref D) H') ∧
  ((∃ r ∈ rs, r.kind ∈ blockK) → ∀ H', Kp Ps H H' → E (.ref cR) none H')
theorem ok_with_blocks {Ps : List Addr} {cR f fN fL fP fW : Addr} {fd fdN fdL fdP fdW : FuncData} (F : FnP K "with_blocks" sWithBlocks f fd)
    (GN : FnOk P w K mg base (L2.CX P w) 8 fN fdN ["rows"] (spNoBlocks K Ps cR)) (kN : PySem.W.keepIn K (.ref fN) = true) (bN : Binds K fdN ["rows"] []) (gN : mg "check_no_blocks" = some (.ref fN))
    (GL : FnOk P w K mg base (L2.CX P w) 3 fL fdL ["rows"] (spLongest K)) (kL : PySem.W.keepIn K (.ref fL) = true) (bL : Binds K fdL ["rows"] []) (gL : mg "longest_run" = some (.ref fL))
    (GP : FnOk P w K mg base (L2.CX P w) 3 fP fdP ["rows", "length"] (spPairsOf K)) (kP : PySem.W.keepIn K (.ref fP) = true) (bP : Binds K fdP ["rows", "length"] []) (gP : mg "pairs_of" = some (.ref fP))
    (GW : FnOk P w K mg base (L2.CX P w) 2 fW fdW ["rows", "pairs", "length", "first_number"] (spWithPairs K)) (kW : PySem.W.keepIn K (.ref fW) = true) (bW : Binds K fdW ["rows", "pairs", "length", "first_number"] []) (gW : mg "with_pairs" = some (.ref fW))
    (mT : mg "list" = none) (mL : mg "len" = none) : FnOk P w K mg base (L2.CX P w) 9 f fd ["rows"] (spWithBlocks K Ps cR) := by
  refine F.ok scWithBlocks (fun vs H Q E h => ?_) (fun cdv A outer s H vs Q E hr h => ?_)
  · obtain ⟨p, xs, rs, rfl, _⟩ := h
    rfl
  · obtain ⟨p, xs, rs, rfl, hp, hR, hh, ht, q, e⟩ := h
    have r3 : Room 3 (A.deeper (envOfC "with_blocks" (defScope sWithBlocks) s.heap.objs.size f cdv)) := hr.mono (by decide)
    have r2 : Room 2 (A.deeper (envOfC "with_blocks" (defScope sWithBlocks) s.heap.objs.size f cdv)) := hr.mono (by decide)
    refine ⟨_, pss_cons (ps_expr (pe_callS GN hr (by rfl) gN kN bN (fun σ => passAt (takes_of rfl rfl rfl rfl) σ) (pa_cons (pv 0) pa_nil)))
      (pss_cons (ps_set (i := 1) scWithBlocks.nd rfl (.inl rfl) (pe_callTy call_list_of (by rfl) mT (by decide +kernel) (pa_cons (pv 0) pa_nil)))
      (pss_cons (ps_set (i := 2) scWithBlocks.nd rfl (.inl rfl) pe_int)
      (pss_cons (ps_set (i := 3) scWithBlocks.nd rfl (.inl rfl) (pe_call GL r3 (by rfl) gL kL bL .nil passL (pa_cons (pv 1) pa_nil)))
      (pss_cons (ps_while (passes_of rfl) (pt_cmpR op_gt (pv 3) pe_int (nomark _))
        (pss_cons (ps_set (i := 4) scWithBlocks.nd rfl (.inl rfl) (pe_call GP r3 (by rfl) gP kP bP .nil passL (pa_cons (pv 1) (pa_cons (pv 3) pa_nil))))
        (pss_cons (ps_set (i := 1) scWithBlocks.nd rfl (.inl rfl) (pe_call GW r2 (by rfl) gW kW bW .nil passL (pa_cons (pv 1) (pa_cons (pv 4) (pa_cons (pv 3) (pa_cons (pv 2) pa_nil))))))
        (pss_cons (ps_aug (i := 2) scWithBlocks.nd rfl (.inl rfl) (pe_callB call_len_seq (by rfl) mL PySem.boot_len (pa_cons (pv 4) pa_nil)) ip_add)
        (pss_one (ps_set (i := 3) scWithBlocks.nd rfl (.inl rfl) (pe_call GL r3 (by rfl) gL kL bL .nil passL (pa_cons (pv 1) pa_nil))))))))
      (pss_one (ps_ret (pv 1))))))), ?_⟩
    obtain ⟨l1, l2⟩ := hh.len
    refine ⟨_, rfl, p, xs, rs, rfl, hp, hR.at, l1, l2, ht, fun no H1 k1 => ?_, fun yes H1 k1 => e yes H1 k1⟩
    have q := q no
    have f0 := hh.fine no
    clear e
    refine ⟨_, rfl, p, xs, rfl, .inl (k1.seq ht hp), fun B nB => ?_⟩
    have s1 : Same H1 (upd H1 B (.lst xs)) := same_upd nB
    have hB1 : (upd H1 B (.lst xs)) B = some (.lst xs) := upd_same
    have hR1 := (hR.kp ht k1).same s1
    generalize upd H1 B (.lst xs) = H2 at s1 hB1 hR1 ⊢
    refine ⟨_, rfl, B, xs, rs, rfl, .inl (.inl hB1), hR1, f0.small, fun L hL => f0.few hL, fun H3 l0 s3 l1 l2 l3 => ?_⟩
    have le0 : l0 ≤ 1000 := by
      rcases l2 with z | z
      · omega
      · exact hasD_small f0.small z
    refine ⟨fun m σ' H' => ∃ (B : Addr) (xs : List V) (R : List RowD) (n l : Nat) (y : Option V), m = l ∧ Same H1 H' ∧ H1 B = none ∧ H' B = some (.lst xs) ∧ RowsT K H' xs R ∧ Fine R ∧ 1 ≤ l ∧ (l = 1 ∨ hasD R l = true) ∧ hasD R (l + 1) = false ∧ (∀ R', Told R n R' → Told rs 1 R') ∧ l ≤ 1000 ∧ n + 1000 * l ≤ 1001001 ∧ σ' = [some (.ref p), some (.ref B), some (.int (n : Int)), some (.int (l : Int)), y], ⟨_, B, xs, rs, 1, l0, none, rfl, s1.trans s3, nB, s3 _ _ hB1, hR1.same s3, f0, l1, l2, l3, fun R' h => h, le0, by omega, rfl⟩, fun m σ' H' hM => ?_⟩
    obtain ⟨B, xs, R, n, l, y, rfl, sm, nB, hB, hR, f, a1, a2, a3, tl, a4, a5, rfl⟩ := hM
    refine ⟨_, rfl, _, _, rfl, rfl, _, rfl, ite2 (fun e => ?_) (fun e => ?_)⟩
    · have e := of_decide_eq_true e
      have l2 : 2 ≤ m := by omega
      have hd : hasD R m = true := a2.resolve_left (by omega)
      refine ⟨_, fun _ _ h => h, _, rfl, _, rfl, B, xs, R, m, rfl, .inl (.inl hB), hR, f.small, f.few a1, f.fewC a1, a1, by omega, fun H4 Z zs ps s4 nZ hZ hP pl G no => ?_⟩
      have hB4 := s4 _ _ hB
      have hR4 := hR.same s4
      refine ⟨_, rfl, _, rfl, _, rfl, _, rfl, B, Z, xs, zs, R, ps, m, n, rfl, .inl (.inl hB4), hR4, f.small, .inl (.inl hZ), hP, pl, by omega, blk_in f G, fun H5 B5 us srt s5 nB5 hB5 hs hR5 => ?_⟩
      obtain ⟨S, w1, w2, w3, w4⟩ := pass_told (n := n) l2 f.pl a3 G hs
      rw [w1] at hR5
      have f5 := f.pass w2
      have no5 := pass_none f w2 w3 no
      have hZ5 := s5 _ _ hZ
      have zl := hP.1
      have s15 := sm.trans (s4.trans s5)
      refine ⟨_, rfl, _, rfl, Z, zs, rfl, .inl (.inl (.inl hZ5)), _, _, rfl, rfl, ?_⟩
      dsimp only
      rw [zl, nat_add_int]
      refine ⟨_, rfl, B5, us, RK R S m, rfl, .inl (.inl hB5), hR5, f5.small, fun L hL => f5.few hL, fun H6 l6 s6 b1 b2 b3 => ?_⟩
      have lt : l6 < m := by
        rcases b2 with z | z
        · omega
        · refine Nat.lt_of_not_le fun ge => ?_
          have := hasD_mono ge z
          rw [no5] at this
          cases this
      exact ⟨l6, lt, B5, us, RK R S m, n + ps.length, l6, _, rfl, s15.trans s6, same_none sm (same_none s4 nB5), s6 _ _ hB5, hR5.same s6, f5, b1, b2, b3, fun R' h => tl R' (w4 R' h), by omega, by omega, rfl⟩
    · have l1 : m = 1 := by
        have : ¬ ((1 : Int) < (m : Int)) := fun z => e (decide_eq_true z)
        omega
      subst l1
      refine ⟨_, rfl, q H' B xs R (k1.trans (Kp.same k1.1 sm)) (k1.free ht nB) hB hR (tl R (.done fun h a t b cm => ?_)) f⟩
      have : hasD R 2 = true := hasD_common.2 ⟨h, a, t, b, cm⟩
      rw [a3] at this
      cases this
end
/-! ### what one block does -/
theorem cut_form {R : List RowD} {h a t b L : Nat} (c : Common R h a t b L) : ∃ (X Y Z : List RowD) (r1 r2 : RowD), r1.kind = "cut" ∧ r2.kind = "put" ∧ a + L ≤ r1.ws.length ∧ b + L ≤ r2.ws.length ∧ (r2.ws.drop b).take L = (r1.ws.drop a).take L ∧
    ((R = X ++ r1 :: (Y ++ r2 :: Z) ∧ ∀ n, cutStep R h a t b L n = X ++ partL r1 "take" n a L ++ Y ++ partL r2 "lay" n b L ++ Z) ∨ (R = X ++ r2 :: (Y ++ r1 :: Z) ∧ ∀ n, cutStep R h a t b L n = X ++ partL r2 "lay" n b L ++ Y ++ partL r1 "take" n a L ++ Z)) := by
  obtain ⟨r1, r2, h1, h2, h3, h4, h5, h6, h7⟩ := c
  have ne : h ≠ t := fun z => by
    subst z
    rw [h1] at h4
    cases h4
    rw [h2] at h5
    exact absurd h5 (by decide +kernel)
  rcases Nat.lt_or_gt_of_ne ne with lt | lt
  · obtain ⟨X, Y, Z, e, l1, l2⟩ := split_two h1 h4 lt
    refine ⟨X, Y, Z, r1, r2, h2, h5, h3, h6, h7, .inl ⟨e, fun n => ?_⟩⟩
    rw [e, ← l2, ← l1]
    exact cutStep_ht
  · obtain ⟨X, Y, Z, e, l1, l2⟩ := split_two h4 h1 lt
    refine ⟨X, Y, Z, r1, r2, h2, h5, h3, h6, h7, .inr ⟨e, fun n => ?_⟩⟩
    rw [e, ← l2, ← l1]
    exact cutStep_th
theorem partL_wlen {r : RowD} {bk : Str} {n a L : Nat} (h : a + L ≤ r.ws.length) : wlen (partL r bk n a L) = r.ws.length := by
  rw [partL_eq, wlen_app, wlen_app, oneF_wlen, oneF_wlen, oneF_wlen, List.length_take, List.length_take, List.length_drop, List.length_drop]
  omega
theorem oneF_kW (k : Str) (r : RowD) : kW k (oneF r) = if r.kind = k then r.ws.length else 0 := by
  by_cases h : 0 < r.ws.length
  · rw [oneF_yes h, kW_cons]
    show _ + 0 = _
    rw [Nat.add_zero]
  · rw [oneF_no (Nat.eq_zero_of_not_pos h)]
    show 0 = _
    split
    · omega
    · rfl
theorem partL_kW {k : Str} {r : RowD} {bk : Str} {n a L : Nat} (h : a + L ≤ r.ws.length) (hk : bk ≠ k) : kW k (partL r bk n a L) = if r.kind = k then r.ws.length - L else 0 := by
  rw [partL_eq, kW_app, kW_app, oneF_kW, oneF_kW, oneF_kW, if_neg hk]
  show (if r.kind = k then (r.ws.take a).length else 0) + 0 + (if r.kind = k then (r.ws.drop (a + L)).length else 0) = _
  rw [List.length_take, List.length_drop]
  split
  · omega
  · rfl
theorem partL_ne {r r' : RowD} {bk : Str} {n a L : Nat} (h : r' ∈ partL r bk n a L) : r'.ws ≠ [] := List.length_pos_iff.mp (of_decide_eq_true (List.mem_filter.mp h).2)
theorem partL_mem {r r' : RowD} {bk : Str} {n a L : Nat} (h : r' ∈ partL r bk n a L) : ((r'.kind = r.kind ∧ r'.num = 0) ∨ (r'.kind = bk ∧ r'.num = (n : Int))) ∧ r'.ws ≠ [] ∧ ∀ x ∈ r'.ws, x ∈ r.ws := by
  have ne := partL_ne h
  obtain ⟨h1, _⟩ := List.mem_filter.mp h
  rcases List.mem_cons.mp h1 with z | z
  · subst z
    exact ⟨.inl ⟨rfl, rfl⟩, ne, fun x hx => List.mem_of_mem_take hx⟩
  · rcases List.mem_cons.mp z with z | z
    · subst z
      exact ⟨.inr ⟨rfl, rfl⟩, ne, fun x hx => List.mem_of_mem_drop (List.mem_of_mem_take hx)⟩
    · rw [List.mem_singleton.mp z] at ne ⊢
      exact ⟨.inl ⟨rfl, rfl⟩, ne, fun x hx => List.mem_of_mem_drop hx⟩
/-- what is true of all rows of the parts and of the old rows is true of the new ones -/
theorem step_mem {R : List RowD} {h a t b L n : Nat} (c : Common R h a t b L) {r' : RowD} (hr : r' ∈ cutStep R h a t b L n) : r' ∈ R ∨ ∃ (r : RowD) (bk : Str), r ∈ R ∧ (r.kind = "cut" ∧ bk = "take" ∨ r.kind = "put" ∧ bk = "lay") ∧ ∃ x, r' ∈ partL r bk n x L := by
  obtain ⟨X, Y, Z, r1, r2, k1, k2, _, _, _, ⟨e, f⟩ | ⟨e, f⟩⟩ := cut_form c
  · rw [f n] at hr
    rw [e]
    simp only [List.mem_append, List.mem_cons] at hr ⊢
    rcases hr with (((z | z) | z) | z) | z
    · exact .inl (.inl z)
    · exact .inr ⟨r1, "take", .inr (.inl rfl), .inl ⟨k1, rfl⟩, a, z⟩
    · exact .inl (.inr (.inr (.inl z)))
    · exact .inr ⟨r2, "lay", .inr (.inr (.inr (.inl rfl))), .inr ⟨k2, rfl⟩, b, z⟩
    · exact .inl (.inr (.inr (.inr (.inr z))))
  · rw [f n] at hr
    rw [e]
    simp only [List.mem_append, List.mem_cons] at hr ⊢
    rcases hr with (((z | z) | z) | z) | z
    · exact .inl (.inl z)
    · exact .inr ⟨r2, "lay", .inr (.inl rfl), .inr ⟨k2, rfl⟩, b, z⟩
    · exact .inl (.inr (.inr (.inl z)))
    · exact .inr ⟨r1, "take", .inr (.inr (.inr (.inl rfl))), .inl ⟨k1, rfl⟩, a, z⟩
    · exact .inl (.inr (.inr (.inr (.inr z))))
theorem step_wlen {R : List RowD} {h a t b L n : Nat} (c : Common R h a t b L) : wlen (cutStep R h a t b L n) = wlen R := by
  obtain ⟨X, Y, Z, r1, r2, k1, k2, g1, g2, _, ⟨e, f⟩ | ⟨e, f⟩⟩ := cut_form c
  · rw [f n, e]
    simp only [wlen_app, wlen_cons, partL_wlen g1, partL_wlen g2]
    omega
  · rw [f n, e]
    simp only [wlen_app, wlen_cons, partL_wlen g1, partL_wlen g2]
    omega
theorem step_kW {R : List RowD} {h a t b L n : Nat} (c : Common R h a t b L) : kW "cut" (cutStep R h a t b L n) + L = kW "cut" R ∧ kW "put" (cutStep R h a t b L n) + L = kW "put" R ∧ kW "keep" (cutStep R h a t b L n) = kW "keep" R := by
  have d : (("take" : Str) ≠ "cut" ∧ ("lay" : Str) ≠ "cut") ∧ (("take" : Str) ≠ "put" ∧ ("lay" : Str) ≠ "put") ∧ (("take" : Str) ≠ "keep" ∧ ("lay" : Str) ≠ "keep") ∧ (("put" : Str) ≠ "cut" ∧ ("cut" : Str) ≠ "put") ∧ (("put" : Str) ≠ "keep" ∧ ("cut" : Str) ≠ "keep") := by decide +kernel
  obtain ⟨⟨d1, d2⟩, ⟨d3, d4⟩, ⟨d5, d6⟩, ⟨d7, d8⟩, ⟨d9, d10⟩⟩ := d
  obtain ⟨X, Y, Z, r1, r2, k1, k2, g1, g2, _, ⟨e, f⟩ | ⟨e, f⟩⟩ := cut_form c
  · rw [f n, e]
    simp only [kW_app, kW_cons, partL_kW g1 d1, partL_kW g2 d2, partL_kW g1 d3, partL_kW g2 d4, partL_kW g1 d5, partL_kW g2 d6, k1, k2, if_neg d7, if_neg d8, if_neg d9, if_neg d10, if_true]
    omega
  · rw [f n, e]
    simp only [kW_app, kW_cons, partL_kW g1 d1, partL_kW g2 d2, partL_kW g1 d3, partL_kW g2 d4, partL_kW g1 d5, partL_kW g2 d6, k1, k2, if_neg d7, if_neg d8, if_neg d9, if_neg d10, if_true]
    omega
theorem step_ne {R : List RowD} {h a t b L n : Nat} (c : Common R h a t b L) (hR : ∀ r ∈ R, r.ws ≠ []) : ∀ r ∈ cutStep R h a t b L n, r.ws ≠ [] := fun r hr => by
  rcases step_mem c hr with z | ⟨_, _, _, _, _, z⟩
  · exact hR r z
  · exact partL_ne z
theorem blk_num {bk : Str} (h : bk = "take" ∨ bk = "lay") {n : Nat} (h1 : 1 ≤ n) (h2 : n ≤ 999999999) : numB bk (n : Int) = true := by
  unfold numB
  have e : inV (.str bk) (blockK.map V.str) = true := by
    rw [inV_strs]
    refine decide_eq_true ?_
    rcases h with h | h <;> subst h <;> decide +kernel
  rw [e, if_pos rfl, Bool.and_eq_true]
  exact ⟨decide_eq_true (by omega), decide_eq_true (by omega)⟩
theorem cp_num {k : Str} (h : isCP k) : numB k 0 = true := by
  unfold numB
  have e : inV (.str k) (blockK.map V.str) = false := by
    rw [inV_strs]
    refine decide_eq_false ?_
    rcases h with h | h <;> subst h <;> decide +kernel
  rw [e, if_neg Bool.false_ne_true]
  exact decide_eq_true rfl
theorem step_ok {R : List RowD} {h a t b L n : Nat} (c : Common R h a t b L) (h1 : 1 ≤ n) (h2 : n ≤ 999999999) (hR : ∀ r ∈ R, RowOk r) : ∀ r ∈ cutStep R h a t b L n, RowOk r := fun r' hr => by
  rcases step_mem c hr with z | ⟨r, bk, hm, hk, x, z⟩
  · exact hR r' z
  · obtain ⟨k, ne, sub⟩ := partL_mem z
    have ok := hR r hm
    have bkk : bk = "take" ∨ bk = "lay" := hk.elim (fun z => .inl z.2) fun z => .inr z.2
    have cp : isCP r.kind := hk.elim (fun z => .inl z.1) fun z => .inr z.1
    refine ⟨?_, ?_, ne, fun w hw => ok.words w (sub w hw)⟩
    · rcases k with ⟨k, _⟩ | ⟨k, _⟩
      · rw [k]
        exact ok.kind
      · rw [k]
        rcases bkk with z | z <;> subst z <;> decide +kernel
    · rcases k with ⟨k, e⟩ | ⟨k, e⟩
      · rw [k, e]
        exact cp_num cp
      · rw [k, e]
        exact blk_num bkk h1 h2
theorem told_rows_ok {R R' : List RowD} {n : Nat} (T : Told R n R') : (∀ r ∈ R, RowOk r) → 1 ≤ n → n + kW "cut" R ≤ 999999999 → ∀ r ∈ R', RowOk r := by
  induction T with
  | done _ => exact fun h _ _ => h
  | @step R R' n h a t b L B hL _ ih =>
    intro hR h1 h2
    have k := (step_kW (n := n) B.com).1
    exact ih (step_ok B.com h1 (by omega) hR) (by omega) (by omega)
theorem told_wlen {R R' : List RowD} {n : Nat} (T : Told R n R') : wlen R' = wlen R := by
  induction T with
  | done _ => rfl
  | step B hL _ ih => rw [ih, step_wlen B.com]
/-! ### the words of a telling -/
def wordsOf (ks : List Str) (rs : List RowD) : List Str := (rs.filter fun r => decide (r.kind ∈ ks)).flatMap (·.ws)
theorem wordsOf_snoc (ks : List Str) (rs : List RowD) (r : RowD) : wordsOf ks (rs ++ [r]) = if r.kind ∈ ks then wordsOf ks rs ++ r.ws else wordsOf ks rs := by
  unfold wordsOf
  rw [List.filter_append, List.flatMap_append]
  by_cases h : r.kind ∈ ks
  · rw [if_pos h, List.filter_cons_of_pos (p := fun r : RowD => decide (r.kind ∈ ks)) (decide_eq_true h)]
    simp
  · rw [if_neg h, List.filter_cons_of_neg (by simpa using h)]
    simp
theorem wordsOf_append (ks : List Str) (rs qs : List RowD) : wordsOf ks (rs ++ qs) = wordsOf ks rs ++ wordsOf ks qs := by
  unfold wordsOf
  rw [List.filter_append, List.flatMap_append]
theorem wordsOf_take_le (ks : List Str) (rs : List RowD) (i : Nat) : (wordsOf ks (rs.take i)).length ≤ (wordsOf ks rs).length := by
  have h := wordsOf_append ks (rs.take i) (rs.drop i)
  rw [List.take_append_drop] at h
  rw [h, List.length_append]
  omega
theorem wordsOf_ok {ks : List Str} {rs : List RowD} (h : ∀ r ∈ rs, RowOk r) : ∀ a ∈ wordsOf ks rs, wordB a = true := fun a ha => by
  unfold wordsOf at ha
  obtain ⟨r, h1, h2⟩ := List.mem_flatMap.mp ha
  exact (h r (List.mem_filter.mp h1).1).words a h2
/-! ### the law's own helpers -/
def sg (i : Nat) : Nat := if i < 4 then 33 + i else 34 + i
def sgnOf (c : Int) : Nat := sg (c % 93).toNat
theorem sg_ok {i : Nat} (h : i < 93) : signB (sg i) = true := by
  unfold signB sg
  by_cases h1 : i < 4
  · rw [if_pos h1, decide_eq_false (show ¬ 33 + i < 33 by omega), decide_eq_false (show ¬ 36 < 33 + i by omega)]
    rfl
  · rw [if_neg h1, decide_eq_false (show ¬ 34 + i < 38 by omega), decide_eq_false (show ¬ 126 < 34 + i by omega)]
    exact Bool.or_true _
theorem sgnOf_ok (c : Int) : signB (sgnOf c) = true := sg_ok (by
  have h1 : 0 ≤ c % 93 := Int.emod_nonneg c (by decide)
  have h2 : c % 93 < 93 := Int.emod_lt_of_pos c (by decide)
  omega)
def wMore (c : Int) : Int := (c + 5) * 48271 % 1000003
def wSize (c : Int) : Int := if wMore c / 3 % 3 = 1 then 1 + wMore c / 9 % 40 else 1 + wMore c % 3
def wSign (c : Int) (k : Nat) : Nat := sgnOf ((wMore c + 11 * (0 + (k : Int)) + 1) * (wMore c + 211 * (0 + (k : Int)) + 3) % 1000033)
def wCodes (c : Int) (n : Nat) : List Nat := (List.range n).map (wSign c)
def wordOf (c : Int) : Str := ⟨(wCodes c (wSize c).toNat).toArray⟩
theorem wMore_b (c : Int) : 0 ≤ wMore c ∧ wMore c < 1000003 := ⟨Int.emod_nonneg _ (by decide), Int.emod_lt_of_pos _ (by decide)⟩
theorem wSize_b (c : Int) : 1 ≤ wSize c ∧ wSize c ≤ 40 := by
  have h := wMore_b c
  unfold wSize
  by_cases h1 : wMore c / 3 % 3 = 1
  · rw [if_pos h1]
    omega
  · rw [if_neg h1]
    omega
theorem wordOf_len (c : Int) : (wordOf c).length = (wSize c).toNat := by
  show (wCodes c (wSize c).toNat).toArray.size = _
  rw [List.size_toArray]
  unfold wCodes
  rw [List.length_map, List.length_range]
theorem wordOf_ok (c : Int) : wordB (wordOf c) = true := by
  have h := wSize_b c
  have hl := wordOf_len c
  unfold wordB
  rw [Bool.and_eq_true, Bool.and_eq_true]
  refine ⟨decide_eq_true (by omega), decide_eq_true (by omega), List.all_eq_true.mpr fun x hx => ?_⟩
  have hx : x ∈ wCodes c (wSize c).toNat := hx
  obtain ⟨k, _, rfl⟩ := List.mem_map.mp hx
  exact sgnOf_ok _
/-- signs put together -/
theorem join_signs : ∀ l : List Nat, Txt.join ("" : Str) (l.map fun c => (⟨#[c]⟩ : Str)) = (⟨l.toArray⟩ : Str) := by
  intro l
  show Builtin.Str.glued ("" : Str) (l.map fun c => (⟨#[c]⟩ : Str)) = _
  rw [StrLaws.glued_eq_join]
  have e0 : ("" : Str) = ⟨#[]⟩ := by decide +kernel
  rw [e0]
  induction l with
  | nil => rfl
  | cons c r ih =>
    cases r with
    | nil => rfl
    | cons d r =>
      show (⟨#[c]⟩ : Str) ++ (⟨#[]⟩ : Str) ++ Str.join ⟨#[]⟩ ((d :: r).map fun c => (⟨#[c]⟩ : Str)) = _
      rw [ih]
      refine Str.ext' (Array.toList_inj.mp ?_)
      rw [Str.cps_append, Str.cps_append, Array.toList_append, Array.toList_append]
      simp
section
variable {P : Program} {w : World} {K : PySem.W.Frag} {mg : Str → Option Value} {base : Heap}
theorem scCellAt : FnScope ["_law_script", "_law_k"] ["_law_script", "_law_k"] (defScope sCellAt) := ⟨rfl, rfl, rfl, by decide +kernel, rfl, by decide +kernel, by decide +kernel⟩
theorem scSignBy : FnScope ["_law_cell", "_law_some"] ["_law_cell"] (defScope sSignBy) := ⟨rfl, rfl, rfl, by decide +kernel, rfl, by decide +kernel, by decide +kernel⟩
theorem scWordBy : FnScope ["_law_cell", "_law_more", "_law_size", "_law_k"] ["_law_cell"] (defScope sWordBy) := ⟨rfl, rfl, rfl, by decide +kernel, rfl, by decide +kernel, by decide +kernel⟩
theorem ok_cell_at {f : Addr} {fd : FuncData} (F : FnP K "_law_cell_at" sCellAt f fd) (mL : mg "len" = none) : FnOk P w K mg base (L2.CX P w) 1 f fd ["_law_script", "_law_k"] (spCell K) := by
  refine F.ok scCellAt (fun vs H Q E h => ?_) (fun cdv A outer s H vs Q E hr h => ?_)
  · obtain ⟨l, ns, j, rfl, _⟩ := h
    rfl
  · obtain ⟨l, ns, j, rfl, hS, q⟩ := h
    refine ⟨_, pss_cons (ps_if (pt_cmpR op_lt (pv 1) (pe_callB call_len_seq (by rfl) mL PySem.boot_len (pa_cons (pv 0) pa_nil)) (nomark _)) (pss_one (ps_ret (pe_ix ix_list (pv 0) (pv 1) (fun _ _ => rfl)))) pss_nil) (pss_one (ps_ret pe_int)), ?_⟩
    refine ⟨_, rfl, _, rfl, l, _, rfl, .inl hS, _, _, rfl, rfl, _, rfl, ite2 (fun e => ?_) (fun e => ?_)⟩
    · have e1 := of_decide_eq_true e
      rw [List.length_map] at e1
      exact ⟨_, rfl, _, rfl, l, _, _, _, rfl, rfl, hS, atI_cell (by omega), q⟩
    · have hj : ¬ j < ns.length := fun z => e (decide_eq_true (by rw [List.length_map]; omega))
      rw [cell_out hj] at q
      exact q
def spSignBy : Sp := fun vs H Q _ => ∃ c : Int, vs = [.int c] ∧ Q (.str ⟨#[sgnOf c]⟩) H
theorem ok_sign_by {f : Addr} {fd : FuncData} (F : FnP K "_law_sign_by" sSignBy f fd) : FnOk P w K mg base (L2.CX P w) 1 f fd ["_law_cell"] spSignBy := by
  refine F.ok scSignBy (fun vs H Q E h => ?_) (fun cdv A outer s H vs Q E hr h => ?_)
  · obtain ⟨c, rfl, _⟩ := h
    rfl
  · obtain ⟨c, rfl, q⟩ := h
    refine ⟨_, pss_cons (ps_set (i := 1) scSignBy.nd rfl (.inl rfl) pe_str) (pss_cons (ps_set (i := 1) scSignBy.nd rfl (.inl rfl) (pe_op op_add_str (pv 1) pe_str)) (pss_one (ps_ret (pe_ix ix_str (pv 1) (pe_op op_mod (pv 0) pe_int) (fun _ _ => rfl))))), ?_⟩
    refine ⟨_, rfl, _, _, rfl, rfl, by decide +kernel, ?_⟩
    refine ⟨_, rfl, _, rfl, _, _, rfl, rfl, (by show (0 : Int) < 93; decide), _, _, sgnOf c, rfl, rfl, by decide +kernel, ?_, q⟩
    have h1 : 0 ≤ c % 93 := Int.emod_nonneg c (by decide)
    have h2 : c % 93 < 93 := Int.emod_lt_of_pos c (by decide)
    have e : c % 93 = (((c % 93).toNat : Nat) : Int) := (Int.toNat_of_nonneg h1).symm
    have hn : (c % 93).toNat < 93 := by omega
    unfold sgnOf
    rw [e, Int.toNat_natCast]
    generalize (c % 93).toNat = i at hn
    refine atI_nat ?_
    have key : ∀ i, i < 93 → (("!\"#$&'()*+,-./0123456789:;<=>?@ABCDEFGHIJKLMNOPQRSTUVWXYZ[\\]^_`" : Str) ++ ("abcdefghijklmnopqrstuvwxyz{|}~" : Str)).cps.toList[i]? = some (sg i) := by decide +kernel
    exact key i hn
def spWordBy : Sp := fun vs H Q _ => ∃ c : Int, vs = [.int c] ∧ ∀ H', Same H H' → Q (.str (wordOf c)) H'
theorem ok_word_by {f fS : Addr} {fd fdS : FuncData} (F : FnP K "_law_word_by" sWordBy f fd) (FS : FnP K "_law_sign_by" sSignBy fS fdS) (bS : Binds K fdS ["_law_cell"] []) (gS : mg "_law_sign_by" = some (.ref fS)) (mR : mg "range" = none) :
    FnOk P w K mg base (L2.CX P w) 2 f fd ["_law_cell"] spWordBy := by
  have GS : FnOk P w K mg base (L2.CX P w) 1 fS fdS ["_law_cell"] spSignBy := ok_sign_by FS
  refine F.ok scWordBy (fun vs H Q E h => ?_) (fun cdv A outer s H vs Q E hr h => ?_)
  · obtain ⟨c, rfl, _⟩ := h
    rfl
  · obtain ⟨c, rfl, q⟩ := h
    refine ⟨_, pss_cons (ps_set (i := 1) scWordBy.nd rfl (.inr rfl) (pe_op op_mod (pe_op op_mul (pe_op op_add (pv 0) pe_int) pe_int) pe_int))
      (pss_cons (ps_set (i := 2) scWordBy.nd rfl (.inl rfl) (pe_op op_add pe_int (pe_op op_mod (pv 1) pe_int)))
      (pss_cons (ps_if (pt_cmpR op_eq (pe_op op_mod (pe_op op_fdiv (pv 1) pe_int) pe_int) pe_int (nomark _)) (pss_one (ps_set (i := 2) scWordBy.nd rfl (.inl rfl) (pe_op op_add pe_int (pe_op op_mod (pe_op op_fdiv (pv 1) pe_int) pe_int)))) pss_nil)
      (pss_one (ps_ret (pe_join pe_str (pe_lc (own := [("_law_k", 3)]) (g := gName 3) (tt := tYes) rfl scWordBy.nd (pi_range1 (by rfl) mR (pa_cons (pv 2) pa_nil)) (blkOk_by (N := ["_law_cell", "_law_more", "_law_size", "_law_k"]) (sc := defScope sWordBy) (by decide +kernel))
        (fun _ _ _ _ _ => pg_name (i := 3) scWordBy.nd rfl (Or.inl rfl)) (fun _ _ _ _ _ => pts_nil)
        (fun _ _ _ _ _ => pe_call GS hr (by rfl) gS FS.kp bS .nil passL (pa_cons (pe_op op_mod (pe_op op_mul (pe_op op_add (pe_op op_add (pv 1) (pe_op op_mul pe_int (pv 3))) pe_int) (pe_op op_add (pe_op op_add (pv 1) (pe_op op_mul pe_int (pv 3))) pe_int)) pe_int) pa_nil)))))))), ?_⟩
    have hm := wMore_b c
    have hsz := wSize_b c
    refine ⟨_, rfl, _, _, rfl, rfl, _, _, rfl, rfl, .inr (by decide), _, _, rfl, rfl, (by show (0 : Int) < 1000003; decide), ?_⟩
    refine ⟨_, rfl, _, _, rfl, rfl, (by show (0 : Int) < 3; decide), _, _, rfl, rfl, ?_⟩
    refine ⟨_, rfl, _, _, rfl, rfl, ⟨by decide, by decide⟩, _, _, rfl, rfl, (by show (0 : Int) < 3; decide), rfl, _, rfl, ?_⟩
    -- both ways lead to the size
    have rest : ∀ σ0, σ0 = [some (V.int c), some (.int (wMore c)), some (.int (wSize c)), none] → tRet (tM1 (fun x xs H Q => ∃ a p, ∃ ys : List Str, x = .str a ∧ xs = [.ref p] ∧ (SqL K H p (ys.map V.str) ∨ SqT K H p (ys.map V.str)) ∧
        (ys.map (·.length)).sum + ys.length * a.length ≤ 16777216 ∧ Q (.str (Txt.join a ys)) H) (tC (.str "")) (tLc (iRng1 (tCons (tVar 2) tNil)) (gName 3) tYes
          (tCall spSignBy [] E0 (tCons (tOp (rI (fun _ j => 0 < j) fun i j => .int (i % j)) (tOp (rI CMul fun i j => .int (i * j)) (tOp (rI0 fun i j => .int (i + j)) (tOp (rI0 fun i j => .int (i + j)) (tVar 1) (tOp (rI CMul fun i j => .int (i * j)) (tC (.int 11)) (tVar 3))) (tC (.int 1)))
            (tOp (rI0 fun i j => .int (i + j)) (tOp (rI0 fun i j => .int (i + j)) (tVar 1) (tOp (rI CMul fun i j => .int (i * j)) (tC (.int 211)) (tVar 3))) (tC (.int 3)))) (tC (.int 1000033))) tNil)) [3])) { nx := fun _ H' => Q .non H', rt := Q } σ0 H := by
      rintro _ rfl
      refine ⟨⟨_, rfl⟩, _, rfl, _, rfl, by omega, by omega, fun D nD => ?_⟩
      refine lc_range (lo := 0) (n := (wSize c).toNat) (fun i H' => Same H H' ∧ H' D = some (.lst ((wCodes c i).map fun z => V.str ⟨#[z]⟩))) ⟨same_upd nD, upd_same⟩ (fun i H' hi hp => ?_) (fun H' hp => ?_)
      · obtain ⟨sm, hD⟩ := hp
        refine ⟨rfl, yesT ?_⟩
        refine ⟨_, rfl, _, rfl, _, _, rfl, rfl, .inl (by decide), _, _, rfl, rfl, _, _, rfl, rfl, _, rfl, _, rfl, _, _, rfl, rfl, .inl (by decide), _, _, rfl, rfl, _, _, rfl, rfl, _, _, rfl, rfl, .inl ⟨by omega, by omega⟩, _, _, rfl, rfl, (by show (0 : Int) < 1000033; decide), _, rfl, ?_⟩
        refine ⟨_, hD, ?_, fun b o e => ?_, ?_⟩
        · rw [List.length_map]
          unfold wCodes
          rw [List.length_map, List.length_range]
          exact Nat.lt_of_lt_of_le (show i < 1000 by omega) (by decide)
        · rw [upd_ne (ne_of_none e nD)]
          exact sm b o e
        · rw [upd_same]
          unfold wCodes
          rw [List.range_succ, List.map_append, List.map_append]
          rfl
      · obtain ⟨sm, hD⟩ := hp
        refine ⟨_, _, (wCodes c (wSize c).toNat).map fun z => (⟨#[z]⟩ : Str), rfl, rfl, .inl (.inl (.inl ?_)), ?_, ?_⟩
        · rw [hD, List.map_map]
          rfl
        · have e0 : ("" : Str).length = 0 := by decide +kernel
          rw [e0, Nat.mul_zero, Nat.add_zero]
          have e1 : ∀ l : List Nat, ((l.map fun z => (⟨#[z]⟩ : Str)).map (·.length)).sum = l.length := fun l => by
            induction l with
            | nil => rfl
            | cons a r ih =>
              rw [List.map_cons, List.map_cons, List.sum_cons, ih, List.length_cons]
              show 1 + r.length = _
              omega
          rw [e1]
          unfold wCodes
          rw [List.length_map, List.length_range]
          omega
        · rw [join_signs]
          exact q H' sm
    refine ite2 (fun e => ?_) (fun e => ?_)
    · have e1 : wMore c / 3 % 3 = 1 := V.int.inj (of_decide_eq_true e)
      refine ⟨_, rfl, _, _, rfl, rfl, ⟨by decide, by decide⟩, _, _, rfl, rfl, (by show (0 : Int) < 40; decide), _, _, rfl, rfl, rest _ ?_⟩
      unfold wSize
      rw [if_pos e1]
      rfl
    · have e1 : ¬ wMore c / 3 % 3 = 1 := fun z => e (decide_eq_true (congrArg V.int z))
      refine rest _ ?_
      unfold wSize
      rw [if_neg e1]
      rfl
end
/-! ### texts put together -/
theorem join_snoc {sep : Str} : ∀ (l : List Str) (x : Str), l ≠ [] → Txt.join sep (l ++ [x]) = Txt.join sep l ++ sep ++ x := by
  intro l x hl
  show Builtin.Str.glued sep (l ++ [x]) = Builtin.Str.glued sep l ++ sep ++ x
  rw [StrLaws.glued_eq_join, StrLaws.glued_eq_join]
  induction l with
  | nil => exact absurd rfl hl
  | cons a r ih =>
    cases r with
    | nil => rfl
    | cons b r =>
      show a ++ sep ++ Str.join sep ((b :: r) ++ [x]) = a ++ sep ++ Str.join sep (b :: r) ++ sep ++ x
      rw [ih (by simp)]
      refine Str.ext' (Array.toList_inj.mp ?_)
      simp only [Str.cps_append, Array.toList_append, List.append_assoc]
theorem join_one (sep x : Str) : Txt.join sep [x] = x := by
  show Builtin.Str.glued sep [x] = x
  rw [StrLaws.glued_eq_join]
  rfl
theorem join_none (sep : Str) : Txt.join sep [] = Str.empty := by
  show Builtin.Str.glued sep [] = Str.empty
  rw [StrLaws.glued_eq_join]
  rfl
theorem sum_len {ws : List Str} (h : ∀ a ∈ ws, wordB a = true) : (ws.map (·.length)).sum ≤ 40 * ws.length := by
  induction ws with
  | nil => exact Nat.zero_le _
  | cons a r ih =>
    have h1 := (wordB_len (h a List.mem_cons_self)).2
    have h2 := ih fun b hb => h b (List.mem_cons_of_mem _ hb)
    rw [List.map_cons, List.sum_cons, List.length_cons]
    omega
theorem join_len {ws : List Str} (h : ∀ a ∈ ws, wordB a = true) : (Txt.join (" " : Str) ws).length ≤ 41 * ws.length := by
  have h1 := StrLaws.join_length_le (" " : Str) ws
  have h2 := sum_len h
  have e : (" " : Str).length = 1 := by decide +kernel
  have h3 : (Txt.join (" " : Str) ws).length ≤ (ws.map (·.length)).sum + ws.length * (" " : Str).length := by
    show (Builtin.Str.glued (" " : Str) ws).length ≤ _
    rw [StrLaws.glued_eq_join]
    exact h1
  rw [e] at h3
  omega
theorem join_le (sep : Str) (ps : List Str) : (Txt.join sep ps).length ≤ (ps.map (·.length)).sum + ps.length * sep.length := by
  show (Builtin.Str.glued sep ps).length ≤ _
  rw [StrLaws.glued_eq_join]
  exact StrLaws.join_length_le sep ps
/-! ### lines and their words -/
theorem sign_nosp : ∀ c, c < 127 → signB c = true → Unicode.isSpace c = false := by decide +kernel
theorem signB_lt {c : Nat} (h : signB c = true) : c < 127 := by
  unfold signB at h
  rw [Bool.or_eq_true, Bool.and_eq_true, Bool.and_eq_true] at h
  simp only [Bool.not_eq_true', decide_eq_false_iff_not] at h
  omega
theorem word_nosp {a : Str} (h : wordB a = true) : ∀ c ∈ a.cps.toList, Unicode.isSpace c = false := fun c hc => sign_nosp c (signB_lt (wordB_signs h c hc)) (wordB_signs h c hc)
theorem emp_app (x : Str) : Str.empty ++ x = x := Str.ext' (by rw [Str.cps_append]; exact Array.empty_append)
theorem app_emp (x : Str) : x ++ Str.empty = x := Str.ext' (by rw [Str.cps_append]; exact Array.append_empty)
theorem scan_app (a b : Str) : KWd.scan (a ++ b) = b.cps.toList.foldl KWd.step (KWd.scan a) := by
  unfold KWd.scan
  rw [Str.cps_append, Array.toList_append, List.foldl_append]
theorem fold_word : ∀ (l : List Nat) (ws : List Str) (r : Str), (∀ c ∈ l, Unicode.isSpace c = false) → l.foldl KWd.step (ws, r) = (ws, r ++ ⟨l.toArray⟩)
  | [], ws, r, _ => by
    show (ws, r) = _
    rw [show (⟨([] : List Nat).toArray⟩ : Str) = Str.empty from rfl, app_emp]
  | c :: l, ws, r, h => by
    have hc := h c List.mem_cons_self
    show l.foldl KWd.step (KWd.step (ws, r) c) = _
    have e : KWd.step (ws, r) c = (ws, r ++ ⟨#[c]⟩) := by
      unfold KWd.step
      rw [if_neg (by rw [hc]; exact Bool.false_ne_true)]
    rw [e, fold_word l ws _ fun d hd => h d (List.mem_cons_of_mem _ hd)]
    refine Prod.ext rfl (Str.ext' (Array.toList_inj.mp ?_))
    show ((r ++ ⟨#[c]⟩ : Str) ++ ⟨l.toArray⟩ : Str).cps.toList = (r ++ ⟨(c :: l).toArray⟩ : Str).cps.toList
    rw [Str.cps_append, Str.cps_append, Str.cps_append]
    simp
theorem fold_gap0 : ∀ (l : List Nat) (ws : List Str), (∀ c ∈ l, Unicode.isSpace c = true) → l.foldl KWd.step (ws, Str.empty) = (ws, Str.empty)
  | [], ws, _ => rfl
  | c :: l, ws, h => by
    have hc := h c List.mem_cons_self
    show l.foldl KWd.step (KWd.step (ws, Str.empty) c) = _
    have e : KWd.step (ws, Str.empty) c = (ws, Str.empty) := by
      unfold KWd.step
      rw [if_pos hc, if_pos (show (ws, Str.empty).snd.length = 0 from rfl)]
    rw [e]
    exact fold_gap0 l ws fun d hd => h d (List.mem_cons_of_mem _ hd)
theorem fold_gap {l : List Nat} {ws : List Str} {r : Str} (h : ∀ c ∈ l, Unicode.isSpace c = true) (hl : l ≠ []) (hr : r.length ≠ 0) : l.foldl KWd.step (ws, r) = (ws ++ [r], Str.empty) := by
  cases l with
  | nil => exact absurd rfl hl
  | cons c l =>
    have hc := h c List.mem_cons_self
    show l.foldl KWd.step (KWd.step (ws, r) c) = _
    have e : KWd.step (ws, r) c = (ws ++ [r], Str.empty) := by
      unfold KWd.step
      rw [if_pos hc, if_neg hr]
    rw [e]
    exact fold_gap0 l _ fun d hd => h d (List.mem_cons_of_mem _ hd)
/-- a line of which k words are written -/
def LineAt (ws : List Str) (k : Nat) (line : Str) : Prop := (k = 0 → KWd.scan line = ([], Str.empty)) ∧ ∀ j, k = j + 1 → ∃ x, ws[j]? = some x ∧ KWd.scan line = (ws.take j, x)
def Blank (g : Str) : Prop := ∀ c ∈ g.cps.toList, Unicode.isSpace c = true
theorem line_start {ws : List Str} {g : Str} (h : Blank g) : LineAt ws 0 g := by
  refine ⟨fun _ => ?_, fun j e => by omega⟩
  exact fold_gap0 _ _ h
theorem str_eta (x : Str) : (⟨x.cps.toList.toArray⟩ : Str) = x := Str.ext' (Array.toList_inj.mp rfl)
/-- the first word -/
theorem line_first {ws : List Str} {line x : Str} (h : LineAt ws 0 line) (hx : ws[0]? = some x) (hw : wordB x = true) : LineAt ws 1 (line ++ x) := by
  refine ⟨fun e => by omega, fun j e => ?_⟩
  obtain rfl : j = 0 := by omega
  refine ⟨x, hx, ?_⟩
  rw [scan_app, h.1 rfl, fold_word _ _ _ (word_nosp hw), str_eta, emp_app]
  rfl
/-- a further one -/
theorem line_next {ws : List Str} {k : Nat} {line g x : Str} (h : LineAt ws k line) (hk : 0 < k) (hx : ws[k]? = some x) (hall : ∀ a ∈ ws, wordB a = true) (hg : Blank g) (hg1 : 1 ≤ g.length) : LineAt ws (k + 1) (line ++ g ++ x) := by
  refine ⟨fun e => by omega, fun j e => ?_⟩
  obtain rfl : j = k := by omega
  refine ⟨x, hx, ?_⟩
  obtain ⟨i, rfl⟩ : ∃ i, j = i + 1 := ⟨j - 1, by omega⟩
  obtain ⟨y, hy, hs⟩ := h.2 i rfl
  have hly := wordB_len (hall y (List.mem_of_getElem? hy))
  have hne : g.cps.toList ≠ [] := fun z => by
    have : g.length = g.cps.toList.length := by simp [Str.length]
    rw [z] at this
    have : g.length = 0 := this
    omega
  rw [scan_app, scan_app, hs, fold_gap hg hne (by omega), fold_word _ _ _ (word_nosp (hall x (List.mem_of_getElem? hx))), str_eta, emp_app, List.take_add_one, hy]
  rfl
theorem line_end {ws : List Str} {line g : Str} (h : LineAt ws ws.length line) (hall : ∀ a ∈ ws, wordB a = true) (hg : Blank g) : Txt.words (line ++ g) = ws := by
  cases e : ws.length with
  | zero =>
    obtain rfl := List.length_eq_zero_iff.mp e
    have h1 := h.1 rfl
    have h2 : KWd.scan (line ++ g) = ([], Str.empty) := by
      rw [scan_app, h1]
      exact fold_gap0 _ _ hg
    rw [KWd.words_of h2]
    rfl
  | succ j =>
    obtain ⟨x, hx, hs⟩ := h.2 j e
    have hlx := wordB_len (hall x (List.mem_of_getElem? hx))
    have ew : ws = ws.take j ++ [x] := by
      have h3 : ws.take (j + 1) = ws := List.take_of_length_le (by omega)
      rw [List.take_add_one, hx] at h3
      exact h3.symm
    by_cases hz : g.cps.toList = []
    · have h2 : KWd.scan (line ++ g) = (ws.take j, x) := by
        rw [scan_app, hs, hz]
        rfl
      rw [KWd.words_of h2, if_neg (by omega)]
      exact ew.symm
    · have h2 : KWd.scan (line ++ g) = (ws.take j ++ [x], Str.empty) := by
        rw [scan_app, hs, fold_gap hg hz (by omega)]
      rw [KWd.words_of h2, if_pos (show Str.empty.length = 0 from rfl)]
      exact ew.symm
section
variable {P : Program} {w : World} {K : PySem.W.Frag} {mg : Str → Option Value} {base : Heap}
theorem scParted : FnScope ["line", "words"] ["line"] (defScope sParted) := ⟨rfl, rfl, rfl, by decide +kernel, rfl, by decide +kernel, by decide +kernel⟩
theorem scJoined : FnScope ["words"] ["words"] (defScope sJoined) := ⟨rfl, rfl, rfl, by decide +kernel, rfl, by decide +kernel, by decide +kernel⟩
def spParted (Ps : List Addr) : Sp := fun vs H Q _ => ∃ a : Str, vs = [.str a] ∧ a.length ≤ 1000000 ∧ (∀ x ∈ Txt.words a, wordB x = true) ∧ (Txt.words a).length ≤ 120 ∧ Tb Ps H ∧ ∀ H' p, Kp Ps H H' → H p = none → H' p = some (.lst ((Txt.words a).map V.str)) → Q (.ref p) H'
theorem ok_parted {Ps : List Addr} {f fT : Addr} {fd fdT : FuncData} (F : FnP K "parted" sParted f fd) (GT : FnOk P w K mg base (L2.CX P w) 5 fT fdT ["words"] (spCheckText K Ps)) (kT : PySem.W.keepIn K (.ref fT) = true) (bT : Binds K fdT ["words"] []) (gT : mg "check_text" = some (.ref fT)) :
    FnOk P w K mg base (L2.CX P w) 6 f fd ["line"] (spParted Ps) := by
  refine F.ok scParted (fun vs H Q E h => ?_) (fun cdv A outer s H vs Q E hr h => ?_)
  · obtain ⟨a, rfl, _⟩ := h
    rfl
  · obtain ⟨a, rfl, ha, hw, hl, ht, q⟩ := h
    refine ⟨_, pss_cons (ps_set (i := 1) scParted.nd rfl (.inl rfl) (pe_words (pv 0))) (pss_cons (ps_expr (pe_call GT hr (by rfl) gT kT bT .nil passL (pa_cons (pv 1) pa_nil))) (pss_one (ps_ret (pv 1)))), ?_⟩
    refine ⟨_, rfl, ⟨_, rfl⟩, a, rfl, rfl, Nat.le_trans (show a.length + 2 ≤ 1000002 by omega) (by decide), fun p np => ?_⟩
    have k1 : Kp Ps H (upd H p (.lst ((Txt.words a).map V.str))) := Kp.new ht np
    have hp : (upd H p (.lst ((Txt.words a).map V.str))) p = some (.lst ((Txt.words a).map V.str)) := upd_same
    refine ⟨_, rfl, p, _, rfl, .inl (.inl upd_same), hw, hl, k1.1, fun H' k2 => ?_⟩
    exact ⟨_, rfl, q H' p (k1.trans k2) np (k2.at k1.1 hp fun _ z => by cases z)⟩
def spJoined (K : PySem.W.Frag) (Ps : List Addr) : Sp := fun vs H Q _ => ∃ (p : Addr) (ws : List Str), vs = [.ref p] ∧ SqL K H p (ws.map V.str) ∧ (∀ a ∈ ws, wordB a = true) ∧ ws.length ≤ 120 ∧ Tb Ps H ∧ ∀ H', Kp Ps H H' → Q (.str (Txt.join " " ws)) H'
theorem ok_joined {Ps : List Addr} {f fT : Addr} {fd fdT : FuncData} (F : FnP K "joined" sJoined f fd) (GT : FnOk P w K mg base (L2.CX P w) 5 fT fdT ["words"] (spCheckText K Ps)) (kT : PySem.W.keepIn K (.ref fT) = true) (bT : Binds K fdT ["words"] []) (gT : mg "check_text" = some (.ref fT)) :
    FnOk P w K mg base (L2.CX P w) 6 f fd ["words"] (spJoined K Ps) := by
  refine F.ok scJoined (fun vs H Q E h => ?_) (fun cdv A outer s H vs Q E hr h => ?_)
  · obtain ⟨p, ws, rfl, _⟩ := h
    rfl
  · obtain ⟨p, ws, rfl, hS, hw, hl, ht, q⟩ := h
    refine ⟨_, pss_cons (ps_expr (pe_call GT hr (by rfl) gT kT bT .nil passL (pa_cons (pv 0) pa_nil))) (pss_one (ps_ret (pe_join pe_str (pv 0)))), ?_⟩
    refine ⟨_, rfl, p, ws, rfl, hS, hw, hl, ht, fun H' k => ?_⟩
    refine ⟨⟨_, rfl⟩, _, rfl, _, p, ws, rfl, rfl, .inl (k.seq ht hS), ?_, q H' k⟩
    have h2 := sum_len hw
    have e : (" " : Str).length = 1 := by decide +kernel
    rw [e]
    omega
end
/-! ### the table, plainly -/
def dist : List Str → List Str → Nat
  | [], m => m.length
  | _ :: l, [] => l.length + 1
  | a :: l, b :: m => if a = b then dist l m else 1 + min (dist l (b :: m)) (dist (a :: l) m)
termination_by l m => l.length + m.length
theorem dist_nil (m : List Str) : dist [] m = m.length := by rw [dist]
theorem dist_nil2 (l : List Str) : dist l [] = l.length := by
  cases l with
  | nil => rw [dist]
  | cons a l =>
    rw [dist]
    rfl
theorem dist_cons (a b : Str) (l m : List Str) : dist (a :: l) (b :: m) = if a = b then dist l m else 1 + min (dist l (b :: m)) (dist (a :: l) m) := by rw [dist]
theorem dist_le : ∀ (l m : List Str), dist l m ≤ l.length + m.length
  | [], m => by rw [dist_nil]; exact Nat.le_add_left _ _
  | a :: l, [] => by rw [dist_nil2]; exact Nat.le_add_right _ _
  | a :: l, b :: m => by
    rw [dist_cons]
    have h1 := dist_le l m
    have h2 := dist_le l (b :: m)
    simp only [List.length_cons] at h2 ⊢
    split
    · omega
    · omega
termination_by l m => l.length + m.length
def cellD (old new : List Str) (i k : Nat) : Nat := dist (old.drop i) (new.drop k)
def rowD (old new : List Str) (i : Nat) : List V := (List.range (new.length + 1)).map fun k => V.int (cellD old new i k : Nat)
/-- a table as it stands in memory -/
def TabAt (K : PySem.W.Frag) (H : Hp) (D : Addr) (old new : List Str) : Prop := ∃ rs : List V, SqL K H D rs ∧ rs.length = old.length + 1 ∧ ∀ (i : Nat) (v : V), rs[i]? = some v → ∃ R, v = .ref R ∧ SqL K H R (rowD old new i)
theorem TabAt.kp {K : PySem.W.Frag} {Ps : List Addr} {H H' : Hp} (t : Tb Ps H) (k : Kp Ps H H') {D : Addr} {old new : List Str} (h : TabAt K H D old new) : TabAt K H' D old new :=
  let ⟨rs, h1, h2, h3⟩ := h
  ⟨rs, k.seq t h1, h2, fun i v e => let ⟨R, e1, e2⟩ := h3 i v e; ⟨R, e1, k.seq t e2⟩⟩
theorem TabAt.same {K : PySem.W.Frag} {H H' : Hp} (s : Same H H') {D : Addr} {old new : List Str} (h : TabAt K H D old new) : TabAt K H' D old new := h.kp noTb (Kp.same noTb s)
theorem TabAt.row {K : PySem.W.Frag} {H : Hp} {D : Addr} {old new : List Str} (h : TabAt K H D old new) {i : Nat} (hi : i ≤ old.length) : ∃ rs R, SqL K H D rs ∧ rs[i]? = some (.ref R) ∧ SqL K H R (rowD old new i) := by
  obtain ⟨rs, h1, h2, h3⟩ := h
  have hlt : i < rs.length := by omega
  obtain ⟨R, e1, e2⟩ := h3 i rs[i] (List.getElem?_eq_getElem hlt)
  exact ⟨rs, R, h1, by rw [List.getElem?_eq_getElem hlt, e1], e2⟩
theorem rowD_at {old new : List Str} {i k : Nat} (hk : k ≤ new.length) : (rowD old new i)[k]? = some (.int (cellD old new i k : Nat)) := by
  unfold rowD
  rw [List.getElem?_map, List.getElem?_range (by omega)]
  rfl
theorem rowD_len (old new : List Str) (i : Nat) : (rowD old new i).length = new.length + 1 := by
  unfold rowD
  rw [List.length_map, List.length_range]
theorem cellD_end {old new : List Str} {i k : Nat} (hi : i ≤ old.length) (hk : k ≤ new.length) (h : i = old.length ∨ k = new.length) : cellD old new i k = (old.length - i) + (new.length - k) := by
  unfold cellD
  rcases h with h | h
  · rw [List.drop_of_length_le (by omega), dist_nil, List.length_drop]
    omega
  · rw [List.drop_of_length_le (l := new) (by omega), dist_nil2, List.length_drop]
    omega
theorem cellD_in {old new : List Str} {i k : Nat} {a b : Str} (ha : old[i]? = some a) (hb : new[k]? = some b) : cellD old new i k = if a = b then cellD old new (i + 1) (k + 1) else 1 + min (cellD old new (i + 1) k) (cellD old new i (k + 1)) := by
  have key : ∀ {l : List Str} {j : Nat} {x : Str}, l[j]? = some x → l.drop j = x :: l.drop (j + 1) := fun {l j x} h => by
    obtain ⟨h1, h2⟩ := List.getElem?_eq_some_iff.mp h
    rw [List.drop_eq_getElem_cons h1, h2]
  unfold cellD
  rw [key ha, key hb, dist_cons]
def spTable (K : PySem.W.Frag) (Ps : List Addr) : Sp := fun vs H Q _ => ∃ (p q : Addr) (old new : List Str), vs = [.ref p, .ref q] ∧ SqL K H p (old.map V.str) ∧ SqL K H q (new.map V.str) ∧ (∀ a ∈ old, wordB a = true) ∧ (∀ a ∈ new, wordB a = true) ∧ old.length ≤ 120 ∧ new.length ≤ 120 ∧ Tb Ps H ∧
  ∀ (H' : Hp) (D : Addr), Kp Ps H H' → H D = none → TabAt K H' D old new → Q (.ref D) H'
def spApart (K : PySem.W.Frag) (Ps : List Addr) : Sp := fun vs H Q _ => ∃ (p q : Addr) (old new : List Str), vs = [.ref p, .ref q] ∧ SqL K H p (old.map V.str) ∧ SqL K H q (new.map V.str) ∧ (∀ a ∈ old, wordB a = true) ∧ (∀ a ∈ new, wordB a = true) ∧ old.length ≤ 120 ∧ new.length ≤ 120 ∧ Tb Ps H ∧
  ∀ (H' : Hp), Kp Ps H H' → Q (.int (dist old new : Nat)) H'
/-! ### table and apart, as landed -/
abbrev rLenS (K : PySem.W.Frag) : List V → Hp → (V → Hp → Prop) → Prop := fun xs H Q => ∃ p ys, xs = [V.ref p] ∧ (SqL K H p ys ∨ SqT K H p ys) ∧ Q (.int ys.length) H
def listM (M : Nat → Nat → Int) (m i : Nat) : List V := (List.range (m + 1)).map fun k => V.int (M i k)
theorem listM_len (M : Nat → Nat → Int) (m i : Nat) : (listM M m i).length = m + 1 := by
  unfold listM
  rw [List.length_map, List.length_range]
theorem listM_at {M : Nat → Nat → Int} {m i k : Nat} (hk : k ≤ m) : (listM M m i)[k]? = some (.int (M i k)) := by
  unfold listM
  rw [List.getElem?_map, List.getElem?_range (by omega)]
  rfl
theorem listM_congr {M M' : Nat → Nat → Int} {m i : Nat} (h : ∀ k ≤ m, M i k = M' i k) : listM M m i = listM M' m i := by
  unfold listM
  refine List.map_congr_left fun k hk => ?_
  rw [h k (by have := List.mem_range.mp hk; omega)]
theorem rep_zero : ∀ n, (List.replicate n [V.int 0]).flatten = (List.range n).map fun _ => V.int 0 := fun n => by
  rw [List.map_const', List.length_range]
  induction n with
  | zero => rfl
  | succ n ih => rw [List.replicate_succ, List.flatten_cons, ih, List.replicate_succ]; rfl
theorem ixN_nat {n k : Nat} (h : k < n) : ixN n (k : Int) = some k := by
  unfold ixN
  rw [if_pos (by omega), if_pos (by omega), Int.toNat_natCast]
theorem listM_set {M : Nat → Nat → Int} {m i k : Nat} {x : Int} (hk : k ≤ m) : (listM M m i).set k (.int x) = listM (fun i' k' => if i' = i ∧ k' = k then x else M i' k') m i := by
  refine List.ext_getElem? fun j => ?_
  rw [List.getElem?_set, listM_len]
  by_cases h : k = j
  · subst h
    rw [if_pos rfl, if_pos (by omega), listM_at hk, if_pos ⟨rfl, rfl⟩]
  · rw [if_neg h]
    by_cases hj : j ≤ m
    · rw [listM_at hj, listM_at hj, if_neg fun z => h z.2.symm]
    · rw [List.getElem?_eq_none (by rw [listM_len]; omega), List.getElem?_eq_none (by rw [listM_len]; omega)]
theorem nodup_at {α : Type} : ∀ {l : List α}, l.Nodup → ∀ {i j : Nat} {x : α}, l[i]? = some x → l[j]? = some x → i = j
  | [], _, i, j, x, h, _ => by cases h
  | a :: r, nd, i, j, x, h, g => by
    rw [List.nodup_cons] at nd
    cases i with
    | zero =>
      cases h
      cases j with
      | zero => rfl
      | succ j => exact absurd (List.mem_of_getElem? (l := r) (i := j) g) nd.1
    | succ i =>
      cases j with
      | zero =>
        cases g
        exact absurd (List.mem_of_getElem? (l := r) (i := i) h) nd.1
      | succ j => exact congrArg _ (nodup_at nd.2 h g)
/-- a table under work -/
structure TabW (H : Hp) (D : Addr) (rs : List Addr) (M : Nat → Nat → Int) (n m : Nat) : Prop where
  top : H D = some (.lst (rs.map V.ref))
  len : rs.length = n + 1
  nd : rs.Nodup
  out : D ∉ rs
  row : ∀ i R, rs[i]? = some R → H R = some (.lst (listM M m i))
theorem TabW.at_ {H : Hp} {D : Addr} {rs : List Addr} {M : Nat → Nat → Int} {n m i : Nat} (h : TabW H D rs M n m) (hi : i ≤ n) : ∃ R, rs[i]? = some R ∧ (rs.map V.ref)[i]? = some (.ref R) ∧ H R = some (.lst (listM M m i)) := by
  have hlt : i < rs.length := by have := h.len; omega
  have e := List.getElem?_eq_getElem hlt
  exact ⟨rs[i], e, by rw [List.getElem?_map, e]; rfl, h.row i _ e⟩
theorem TabW.set {H : Hp} {D : Addr} {rs : List Addr} {M : Nat → Nat → Int} {n m i k : Nat} {R : Addr} (h : TabW H D rs M n m) (hR : rs[i]? = some R) (hk : k ≤ m) (x : Int) : TabW (upd H R (.lst ((listM M m i).set k (.int x)))) D rs (fun i' k' => if i' = i ∧ k' = k then x else M i' k') n m := by
  have hm : R ∈ rs := List.mem_of_getElem? hR
  refine ⟨?_, h.len, h.nd, h.out, fun j S hS => ?_⟩
  · rw [upd_ne fun z => h.out (by rw [z]; exact hm)]
    exact h.top
  · by_cases e : j = i
    · subst e
      rw [hR] at hS
      cases hS
      rw [upd_same, listM_set hk]
    · have ne : S ≠ R := fun z => by
        subst z
        exact e (nodup_at h.nd hS hR)
      rw [upd_ne ne, h.row j S hS]
      exact congrArg (fun l => some (HO.lst l)) (listM_congr fun k' _ => (if_neg fun z => e z.1).symm)
/-- cells behind a place are as they should be -/
def Done (old new : List Str) (M : Nat → Nat → Int) (i k : Nat) : Prop := ∀ i' k', i' ≤ old.length → k' ≤ new.length → (i < i' ∨ (i' = i ∧ k ≤ k')) → M i' k' = (cellD old new i' k' : Nat)
section
variable {P : Program} {w : World} {K : PySem.W.Frag} {mg : Str → Option Value} {base : Heap}
theorem scTable : FnScope ["old", "new", "costs", "i", "k", "_"] ["old", "new"] (defScope sTable) := ⟨rfl, rfl, rfl, by decide +kernel, rfl, by decide +kernel, by decide +kernel⟩
theorem scLeast : FnScope ["costs", "old", "new", "i", "k"] ["costs", "old", "new", "i", "k"] (defScope sLeastCost) := ⟨rfl, rfl, rfl, by decide +kernel, rfl, by decide +kernel, by decide +kernel⟩
def spLeast (K : PySem.W.Frag) : Sp := fun vs H Q _ => ∃ (D p r : Addr) (old new : List Str) (i k : Nat) (rs : List Addr) (M : Nat → Nat → Int), vs = [.ref D, .ref p, .ref r, .int (i : Int), .int (k : Int)] ∧ TabW H D rs M old.length new.length ∧ SqL K H p (old.map V.str) ∧ SqL K H r (new.map V.str) ∧ i ≤ old.length ∧ k ≤ new.length ∧ Done old new M i (k + 1) ∧ Q (.int (cellD old new i k : Nat)) H
theorem ok_least {f : Addr} {fd : FuncData} (F : FnP K "least_cost" sLeastCost f fd) (mL : mg "len" = none) (mM : mg "min" = none) : FnOk P w K mg base (L2.CX P w) 1 f fd ["costs", "old", "new", "i", "k"] (spLeast K) := by
  refine F.ok scLeast (fun vs H Q E h => ?_) (fun cdv A outer s H vs Q E hr h => ?_)
  · obtain ⟨D, p, r, old, new, i, k, rs, M, rfl, _⟩ := h
    rfl
  · obtain ⟨D, p, r, old, new, i, k, rs, M, rfl, hT, hp, hr', hi, hk, dn, q⟩ := h
    refine ⟨_, pss_cons (ps_if (pt_cmpR op_eq (pv 3) (pe_callB call_len_seq (by rfl) mL PySem.boot_len (pa_cons (pv 1) pa_nil)) (by rfl))
        (pss_one (ps_ret (pe_op op_sub (pe_callB call_len_seq (by rfl) mL PySem.boot_len (pa_cons (pv 2) pa_nil)) (pv 4)))) pss_nil)
      (pss_cons (ps_if (pt_cmpR op_eq (pv 4) (pe_callB call_len_seq (by rfl) mL PySem.boot_len (pa_cons (pv 2) pa_nil)) (by rfl))
        (pss_one (ps_ret (pe_op op_sub (pe_callB call_len_seq (by rfl) mL PySem.boot_len (pa_cons (pv 1) pa_nil)) (pv 3)))) pss_nil)
      (pss_cons (ps_if (pt_cmpR op_eq (pe_ix ix_list (pv 1) (pv 3) (fun _ _ => rfl)) (pe_ix ix_list (pv 2) (pv 4) (fun _ _ => rfl)) (by rfl)) (pss_one (ps_ret (pe_ix ix_list (pe_ix ix_list (pv 0) (pe_op op_add (pv 3) pe_int) (fun _ _ => rfl)) (pe_op op_add (pv 4) pe_int) (fun _ _ => rfl)))) pss_nil)
      (pss_one (ps_ret (pe_op op_add pe_int (pe_callB (call_min2 rfl) (by rfl) mM (by decide +kernel) (pa_cons (pe_ix ix_list (pe_ix ix_list (pv 0) (pe_op op_add (pv 3) pe_int) (fun _ _ => rfl)) (pv 4) (fun _ _ => rfl)) (pa_cons (pe_ix ix_list (pe_ix ix_list (pv 0) (pv 3) (fun _ _ => rfl)) (pe_op op_add (pv 4) pe_int) (fun _ _ => rfl)) pa_nil)))))))), ?_⟩
    have lo : ((old.map V.str).length : Int) = (old.length : Int) := by rw [List.length_map]
    have ln : ((new.map V.str).length : Int) = (new.length : Int) := by rw [List.length_map]
    refine ⟨_, rfl, _, rfl, p, _, rfl, .inl hp, rfl, _, rfl, ite2 (fun e => ?_) (fun e => ?_)⟩
    · have e1 : i = old.length := by
        have := V.int.inj (of_decide_eq_true e)
        omega
      rw [cellD_end hi hk (.inl e1)] at q
      have e2 : ((new.map V.str).length : Int) - (k : Int) = (((old.length - i) + (new.length - k) : Nat) : Int) := by
        rw [ln]
        omega
      rw [← e2] at q
      exact ⟨_, rfl, r, _, rfl, .inl hr', _, rfl, _, _, rfl, rfl, q⟩
    · have n1 : i ≠ old.length := fun z => e (decide_eq_true (by rw [lo, z]))
      refine ⟨_, rfl, _, rfl, r, _, rfl, .inl hr', rfl, _, rfl, ite2 (fun e => ?_) (fun e => ?_)⟩
      · have e1 : k = new.length := by
          have := V.int.inj (of_decide_eq_true e)
          omega
        rw [cellD_end hi hk (.inr e1)] at q
        have e2 : ((old.map V.str).length : Int) - (i : Int) = (((old.length - i) + (new.length - k) : Nat) : Int) := by
          rw [lo]
          omega
        rw [← e2] at q
        exact ⟨_, rfl, p, _, rfl, .inl hp, _, rfl, _, _, rfl, rfl, q⟩
      · have n2 : k ≠ new.length := fun z => e (decide_eq_true (by rw [ln, z]))
        have hi2 : i < old.length := by omega
        have hk2 : k < new.length := by omega
        obtain ⟨a, ha⟩ : ∃ a, old[i]? = some a := ⟨_, List.getElem?_eq_getElem hi2⟩
        obtain ⟨b, hb⟩ : ∃ b, new[k]? = some b := ⟨_, List.getElem?_eq_getElem hk2⟩
        rw [cellD_in ha hb] at q
        obtain ⟨R0, _, h0, hR0⟩ := hT.at_ (i := i) hi
        obtain ⟨R1, _, h1, hR1⟩ := hT.at_ (i := i + 1) (by omega)
        have i1 : ((i : Int) + 1) = ((i + 1 : Nat) : Int) := by omega
        have k1 : ((k : Int) + 1) = ((k + 1 : Nat) : Int) := by omega
        have c11 : (listM M new.length (i + 1))[k + 1]? = some (.int (cellD old new (i + 1) (k + 1) : Nat)) := by
          rw [listM_at (by omega), dn _ _ (by omega) (by omega) (.inl (by omega))]
        have c10 : (listM M new.length (i + 1))[k]? = some (.int (cellD old new (i + 1) k : Nat)) := by
          rw [listM_at (by omega), dn _ _ (by omega) (by omega) (.inl (by omega))]
        have c01 : (listM M new.length i)[k + 1]? = some (.int (cellD old new i (k + 1) : Nat)) := by
          rw [listM_at (by omega), dn _ _ (by omega) (by omega) (.inr ⟨rfl, by omega⟩)]
        have hD : SqL K H D (rs.map V.ref) := .inl (.inl hT.top)
        refine ⟨_, rfl, _, rfl, p, _, _, _, rfl, rfl, hp, atI_nat (by rw [List.getElem?_map, ha]; rfl), _, rfl, _, rfl, r, _, _, _, rfl, rfl, hr', atI_nat (by rw [List.getElem?_map, hb]; rfl), rfl, _, rfl, ite2 (fun e => ?_) (fun e => ?_)⟩
        · have e1 : a = b := V.str.inj (of_decide_eq_true e)
          rw [if_pos e1] at q
          exact ⟨_, rfl, _, rfl, _, _, rfl, rfl, D, _, _, _, rfl, rfl, hD, by rw [i1]; exact atI_nat h1, _, rfl, _, _, rfl, rfl, R1, _, _, _, rfl, rfl, .inl (.inl hR1), by rw [k1]; exact atI_nat c11, q⟩
        · have e1 : a ≠ b := fun z => e (decide_eq_true (congrArg V.str z))
          rw [if_neg e1] at q
          refine ⟨_, rfl, _, rfl, _, _, rfl, rfl, D, _, _, _, rfl, rfl, hD, by rw [i1]; exact atI_nat h1, _, rfl, R1, _, _, _, rfl, rfl, .inl (.inl hR1), atI_nat c10, _, rfl, _, rfl, D, _, _, _, rfl, rfl, hD, atI_nat h0, _, rfl, _, _, rfl, rfl, R0, _, _, _, rfl, rfl, .inl (.inl hR0), by rw [k1]; exact atI_nat c01, _, _, rfl, _, _, rfl, rfl, ?_⟩
          have e2 : (1 : Int) + (if ((cellD old new i (k + 1) : Nat) : Int) < ((cellD old new (i + 1) k : Nat) : Int) then ((cellD old new i (k + 1) : Nat) : Int) else ((cellD old new (i + 1) k : Nat) : Int)) = ((1 + min (cellD old new (i + 1) k) (cellD old new i (k + 1)) : Nat) : Int) := by
            split <;> omega
          rw [← e2] at q
          exact q
theorem ok_table {Ps : List Addr} {f fC fL : Addr} {fd fdC fdL : FuncData} (F : FnP K "table" sTable f fd)
    (GC : FnOk P w K mg base (L2.CX P w) 5 fC fdC ["words"] (spCheckText K Ps)) (kC : PySem.W.keepIn K (.ref fC) = true) (bC : Binds K fdC ["words"] []) (gC : mg "check_text" = some (.ref fC))
    (GL : FnOk P w K mg base (L2.CX P w) 1 fL fdL ["costs", "old", "new", "i", "k"] (spLeast K)) (kL : PySem.W.keepIn K (.ref fL) = true) (bL : Binds K fdL ["costs", "old", "new", "i", "k"] []) (gL : mg "least_cost" = some (.ref fL))
    (mL : mg "len" = none) (mR : mg "range" = none) : FnOk P w K mg base (L2.CX P w) 6 f fd ["old", "new"] (spTable K Ps) := by
  refine F.ok scTable (fun vs H Q E h => ?_) (fun cdv A outer s H vs Q E hr h => ?_)
  · obtain ⟨p, q, old, new, rfl, _⟩ := h
    rfl
  · obtain ⟨p, r, old, new, rfl, hp, hq, wO, wN, lO, lN, ht, q⟩ := h
    have r1 : Room 1 (A.deeper (envOfC "table" (defScope sTable) s.heap.objs.size f cdv)) := hr.mono (by decide)
    refine ⟨_, pss_cons (ps_expr (pe_call GC hr (by rfl) gC kC bC .nil passL (pa_cons (pv 0) pa_nil)))
      (pss_cons (ps_expr (pe_call GC hr (by rfl) gC kC bC .nil passL (pa_cons (pv 1) pa_nil)))
      (pss_cut (ps_setLc (i := 2) (own := [("_", 5)]) (g := gName 5) (tt := tYes) rfl scTable.nd rfl rfl (sw_true rfl rfl rfl (by decide +kernel)) (pi_range1 (by rfl) mR (pa_cons (pe_op op_add (pe_callB call_len_seq (by rfl) mL PySem.boot_len (pa_cons (pv 0) pa_nil)) pe_int) pa_nil)) (blkOk_by (N := ["old", "new", "costs", "i", "k", "_"]) (sc := defScope sTable) (by decide +kernel))
        (fun _ _ _ _ _ => pg_name (i := 5) scTable.nd rfl (Or.inl rfl)) (fun _ _ _ _ _ => pts_nil) (fun _ _ _ _ _ => pe_op op_rep (pe_lst (pa_cons pe_int pa_nil)) (pe_op op_add (pe_callB (r := rLenS K) call_len_seq (by rfl) mL PySem.boot_len (pa_cons (pv 1) pa_nil)) pe_int)))
      (pss_cons (ps_for (passes_of rfl) rfl (pi_range3 (by rfl) mR (pa_cons (pe_callB call_len_seq (by rfl) mL PySem.boot_len (pa_cons (pv 0) pa_nil)) (pa_cons (pe_un un_neg pe_int) (pa_cons (pe_un un_neg pe_int) pa_nil)))) (pg_name (i := 3) scTable.nd rfl (.inl rfl))
        (pss_one (ps_for (passes_of rfl) rfl (pi_range3 (by rfl) mR (pa_cons (pe_callB call_len_seq (by rfl) mL PySem.boot_len (pa_cons (pv 1) pa_nil)) (pa_cons (pe_un un_neg pe_int) (pa_cons (pe_un un_neg pe_int) pa_nil)))) (pg_name (i := 4) scTable.nd rfl (.inl rfl))
          (pss_one (ps_asg (pe_call GL r1 (by rfl) gL kL bL .nil passL (pa_cons (pv 2) (pa_cons (pv 0) (pa_cons (pv 1) (pa_cons (pv 3) (pa_cons (pv 4) pa_nil)))))) (pg_sub (pe_ix ix_list (pv 2) (pv 3) (fun _ _ => rfl)) (pv 4) set_list))))))
      (pss_one (ps_ret (pv 2)))))), ?_⟩
    refine ⟨_, rfl, p, old, rfl, hp, wO, lO, ht, fun H1 k1 => ?_⟩
    refine ⟨_, rfl, r, new, rfl, k1.seq ht hq, wN, lN, k1.1, fun H2 k2 => ?_⟩
    have k12 := k1.trans k2
    have hp2 := k12.seq ht hp
    have hq2 := k12.seq ht hq
    refine ⟨fun σ' H' => ∃ D rs, σ' = [some (.ref p), some (.ref r), some (.ref D), none, none, none] ∧ Same H2 H' ∧ H2 D = none ∧ (∀ R ∈ rs, H2 R = none) ∧ TabW H' D rs (fun _ _ => 0) old.length new.length, ?_, fun σ3 H3 hM => ?_⟩
    · refine ⟨_, rfl, p, _, rfl, .inl hp2, _, _, rfl, rfl, _, rfl, by rw [List.length_map]; omega, by rw [List.length_map]; omega, fun D nD => ?_⟩
      refine lc_range (lo := 0) (n := (((old.map V.str).length : Int) + 1).toNat) (fun i H' => Same H2 H' ∧ ∃ rs : List Addr, H' D = some (.lst (rs.map V.ref)) ∧ rs.length = i ∧ rs.Nodup ∧ D ∉ rs ∧ (∀ R ∈ rs, H2 R = none) ∧ ∀ R ∈ rs, H' R = some (.lst (listM (fun _ _ => 0) new.length 0))) ⟨same_upd nD, [], upd_same, rfl, List.nodup_nil, List.not_mem_nil, (fun R h => by cases h), fun R h => by cases h⟩ (fun i H' hi hp => ?_) (fun H3 hp => ?_)
      · obtain ⟨sm, rs, hD, hl, nd, out, fr, hrow⟩ := hp
        refine ⟨rfl, yesT ?_⟩
        refine ⟨by show 1 ≤ sizeLine; decide, fun L nL => ⟨_, rfl, r, _, rfl, .inl ((same_upd nL).seq (sm.seq hq2)), _, _, rfl, rfl, L, _, _, rfl, rfl, upd_same, by rw [List.length_map]; omega, by rw [List.length_map]; omega, ?_, fun R nR => ?_⟩⟩
        · rw [List.length_map]
          exact Nat.le_trans (show 1 * ((new.length : Int) + 1).toNat ≤ 1000 by omega) (by decide)
        · have eZ : (List.replicate (((new.map V.str).length : Int) + 1).toNat [V.int 0]).flatten = listM (fun _ _ => 0) new.length 0 := by
            have e1 : (((new.map V.str).length : Int) + 1).toNat = new.length + 1 := by
              rw [List.length_map]
              omega
            rw [e1]
            unfold listM
            exact rep_zero _
          rw [eZ]
          have u1 := same_upd nL (o := .lst [V.int 0])
          have u2 := same_upd nR (o := .lst (listM (fun _ _ => 0) new.length 0))
          have hD2 := u2 _ _ (u1 _ _ hD)
          have hRD : R ≠ D := fun z => by
            subst z
            have h := u1 _ _ hD
            rw [nR] at h
            cases h
          have hi2 : i < 1000 := by
            rw [List.length_map] at hi
            omega
          have nR2 : H2 R = none := (sm.trans u1).free nR
          refine ⟨_, hD2, ?_, fun b o e => ?_, rs ++ [R], ?_, ?_, ?_, ?_, fun Z hZ => ?_, fun Z hZ => ?_⟩
          · rw [List.length_map, hl]
            exact Nat.lt_of_lt_of_le hi2 (by decide)
          · rw [upd_ne (ne_of_none e nD)]
            exact u2 _ _ (u1 _ _ (sm b o e))
          · rw [upd_same, List.map_append]
            rfl
          · rw [List.length_append, hl]
            rfl
          · refine List.nodup_append.mpr ⟨nd, List.nodup_cons.mpr ⟨List.not_mem_nil, List.nodup_nil⟩, fun a ha b hb => ?_⟩
            rw [List.mem_singleton.mp hb]
            intro z
            subst z
            have h := u1 _ _ (hrow _ ha)
            rw [nR] at h
            cases h
          · intro z
            rcases List.mem_append.mp z with z | z
            · exact out z
            · exact hRD (List.mem_singleton.mp z).symm
          · rcases List.mem_append.mp hZ with hZ | hZ
            · exact fr Z hZ
            · rw [List.mem_singleton.mp hZ]
              exact nR2
          · rcases List.mem_append.mp hZ with hZ | hZ
            · rw [upd_ne fun z => out (by rw [← z]; exact hZ)]
              exact u2 _ _ (u1 _ _ (hrow Z hZ))
            · rw [List.mem_singleton.mp hZ, upd_ne hRD]
              exact upd_same
      · obtain ⟨sm, rs, hD, hl, nd, out, fr, hrow⟩ := hp
        refine ⟨D, rs, rfl, sm, nD, fr, hD, ?_, nd, out, fun i R hR => hrow R (List.mem_of_getElem? hR)⟩
        rw [hl, List.length_map]
        omega
    · obtain ⟨D, rs, rfl, s3, nD, fr, hW⟩ := hM
      have lo : ((old.map V.str).length : Int) = (old.length : Int) := by rw [List.length_map]
      have ln : ((new.map V.str).length : Int) = (new.length : Int) := by rw [List.length_map]
      have keep : ∀ {H' : Hp} {R : Addr} {o : HO}, Same H2 H' → R ∈ rs → Same H2 (upd H' R o) := fun sm hR b u e => by
        rw [upd_ne (ne_of_none e (fr _ hR))]
        exact sm b u e
      refine ⟨_, rfl, p, _, rfl, .inl (s3.seq hp2), _, rfl, _, rfl, _, _, _, _, rfl, RgC.neg (by omega) (by omega) (by omega) (by omega), ?_⟩
      refine for_rangeC (fun t σ' H' => ∃ M y3 y4, σ' = [some (.ref p), some (.ref r), some (.ref D), y3, y4, none] ∧ Same H2 H' ∧ TabW H' D rs M old.length new.length ∧ ∀ i' k', i' ≤ old.length → k' ≤ new.length → old.length + 1 ≤ i' + t → M i' k' = (cellD old new i' k' : Nat)) ⟨_, none, none, rfl, s3, hW, fun i' k' h1 _ h3 => by omega⟩ (fun t σ' H' ht' hp' => ?_) (fun σ' H' hp' => ?_)
      · obtain ⟨M, y3, y4, rfl, sm, hT, dn⟩ := hp'
        obtain ⟨i, hi⟩ : ∃ i, i = old.length - t := ⟨_, rfl⟩
        have eI : ((old.map V.str).length : Int) + (t : Int) * (-1) = (i : Int) := by
          rw [lo]
          omega
        rw [eI]
        refine ⟨_, rfl, r, _, rfl, .inl (sm.seq hq2), _, rfl, _, rfl, _, _, _, _, rfl, RgC.neg (by omega) (by omega) (by omega) (by omega), ?_⟩
        refine for_rangeC (fun u σ' H' => ∃ M y4, σ' = [some (.ref p), some (.ref r), some (.ref D), some (.int (i : Int)), y4, none] ∧ Same H2 H' ∧ TabW H' D rs M old.length new.length ∧ Done old new M i (new.length + 1 - u)) ⟨M, y4, rfl, sm, hT, fun i' k' h1 h2 h3 => ?_⟩ (fun u σ' H' hu hp' => ?_) (fun σ' H' hp' => ?_)
        · refine dn i' k' h1 h2 ?_
          rcases h3 with h3 | ⟨h3, h4⟩ <;> omega
        · obtain ⟨M, y4, rfl, sm, hT, dn⟩ := hp'
          obtain ⟨k, hk⟩ : ∃ k, k = new.length - u := ⟨_, rfl⟩
          have eK : ((new.map V.str).length : Int) + (u : Int) * (-1) = (k : Int) := by
            rw [ln]
            omega
          rw [eK]
          obtain ⟨R, h1, h2, h3⟩ := hT.at_ (i := i) (by omega)
          have hRm := List.mem_of_getElem? h1
          refine ⟨_, rfl, _, rfl, _, rfl, _, rfl, _, rfl, D, p, r, old, new, i, k, rs, M, rfl, hT, sm.seq hp2, sm.seq hq2, by omega, by omega, ?_, ?_⟩
          · have e : k + 1 = new.length + 1 - u := by omega
            rw [e]
            exact dn
          · refine ⟨_, rfl, _, rfl, D, _, _, _, rfl, rfl, .inl (.inl hT.top), atI_nat h2, _, rfl, R, _, _, k, rfl, rfl, h3, ixN_nat (by rw [listM_len]; omega), ?_⟩
            refine ⟨_, _, rfl, keep sm hRm, hT.set h1 (by omega) _, fun i' k' h4 h5 h6 => ?_⟩
            show (if i' = i ∧ k' = k then _ else M i' k') = _
            by_cases e : i' = i ∧ k' = k
            · rw [if_pos e, e.1, e.2]
            · rw [if_neg e]
              refine dn i' k' h4 h5 ?_
              rcases h6 with h6 | ⟨h6, h7⟩
              · exact .inl h6
              · exact .inr ⟨h6, by omega⟩
        · obtain ⟨M, y4, rfl, sm, hT, dn⟩ := hp'
          refine ⟨M, _, _, rfl, sm, hT, fun i' k' h1 h2 h3 => dn i' k' h1 h2 ?_⟩
          rw [lo] at ht'
          by_cases e : i' = i
          · exact .inr ⟨e, by rw [ln]; omega⟩
          · exact .inl (by omega)
      · obtain ⟨M, y3, y4, rfl, sm, hT, dn⟩ := hp'
        refine ⟨_, rfl, q H' D (k12.trans (Kp.same k12.1 sm)) (k12.free ht nD) ⟨rs.map V.ref, .inl (.inl hT.top), by rw [List.length_map]; exact hT.len, fun i v e => ?_⟩⟩
        rw [List.getElem?_map] at e
        obtain ⟨R, hR, rfl⟩ := Option.map_eq_some_iff.mp e
        refine ⟨R, rfl, .inl (.inl ?_)⟩
        have hil : i < rs.length := (List.getElem?_eq_some_iff.mp hR).1
        have hle := hT.len
        rw [hT.row i R hR]
        refine congrArg (fun l => some (HO.lst l)) ?_
        unfold listM rowD
        refine List.map_congr_left fun k hk => ?_
        have hk := List.mem_range.mp hk
        rw [dn i k (by omega) (by omega) (by rw [lo]; omega)]
end
/-! ### apart -/
section
variable {P : Program} {w : World} {K : PySem.W.Frag} {mg : Str → Option Value} {base : Heap}
theorem scApart : FnScope ["old", "new"] ["old", "new"] (defScope sApart) := ⟨rfl, rfl, rfl, by decide +kernel, rfl, by decide +kernel, by decide +kernel⟩
theorem ok_apart {Ps : List Addr} {f fT : Addr} {fd fdT : FuncData} (F : FnP K "apart" sApart f fd)
    (GT : FnOk P w K mg base (L2.CX P w) 6 fT fdT ["old", "new"] (spTable K Ps)) (kT : PySem.W.keepIn K (.ref fT) = true) (bT : Binds K fdT ["old", "new"] []) (gT : mg "table" = some (.ref fT)) : FnOk P w K mg base (L2.CX P w) 7 f fd ["old", "new"] (spApart K Ps) := by
  refine F.ok scApart (fun vs H Q E h => ?_) (fun cdv A outer s H vs Q E hr h => ?_)
  · obtain ⟨p, q, old, new, rfl, _⟩ := h
    rfl
  · obtain ⟨p, r, old, new, rfl, hp, hq, wO, wN, lO, lN, ht, q⟩ := h
    refine ⟨_, pss_one (ps_ret (pe_ix ix_list (pe_ix ix_list (pe_call GT hr (by rfl) gT kT bT .nil passL (pa_cons (pv 0) (pa_cons (pv 1) pa_nil))) pe_int (fun _ _ => rfl)) pe_int (fun _ _ => rfl))), ?_⟩
    refine ⟨_, rfl, _, rfl, p, r, old, new, rfl, hp, hq, wO, wN, lO, lN, ht, fun H' D k nD hT => ?_⟩
    obtain ⟨rs, R, h1, h2, h3⟩ := hT.row (i := 0) (by omega)
    exact ⟨D, _, _, _, rfl, rfl, h1, at_of (j := 0) rfl h2, R, _, _, _, rfl, rfl, h3, at_of (j := 0) rfl (rowD_at (by omega)), q H' k⟩
end
/-! ### the telling of two texts, plainly -/
abbrev Stp : Type := Str × Str
def goS : List Str → List Str → List Stp
  | [], [] => []
  | [], b :: m => (("put" : Str), b) :: goS [] m
  | a :: l, [] => (("cut" : Str), a) :: goS l []
  | a :: l, b :: m => if a = b then (("keep" : Str), a) :: goS l m else if dist l (b :: m) ≤ dist (a :: l) m then (("cut" : Str), a) :: goS l (b :: m) else (("put" : Str), b) :: goS (a :: l) m
termination_by l m => l.length + m.length
theorem goS_put (b : Str) (m : List Str) : goS [] (b :: m) = (("put" : Str), b) :: goS [] m := by rw [goS]
theorem goS_cut (a : Str) (l : List Str) : goS (a :: l) [] = (("cut" : Str), a) :: goS l [] := by rw [goS]
theorem goS_cons (a b : Str) (l m : List Str) : goS (a :: l) (b :: m) = if a = b then (("keep" : Str), a) :: goS l m else if dist l (b :: m) ≤ dist (a :: l) m then (("cut" : Str), a) :: goS l (b :: m) else (("put" : Str), b) :: goS (a :: l) m := by rw [goS]
def goAt (old new : List Str) (i k : Nat) : List Stp := goS (old.drop i) (new.drop k)
theorem drop_at {l : List Str} {j : Nat} {x : Str} (h : l[j]? = some x) : l.drop j = x :: l.drop (j + 1) := by
  obtain ⟨h1, h2⟩ := List.getElem?_eq_some_iff.mp h
  rw [List.drop_eq_getElem_cons h1, h2]
theorem goAt_end {old new : List Str} {i k : Nat} (hi : old.length ≤ i) (hk : new.length ≤ k) : goAt old new i k = [] := by
  unfold goAt
  rw [List.drop_of_length_le hi, List.drop_of_length_le hk, goS]
inductive NextK (old new : List Str) (i k : Nat) : Str → Prop where
  | put (b : Str) (h : new[k]? = some b) (e : goAt old new i k = (("put" : Str), b) :: goAt old new i (k + 1)) : NextK old new i k "put"
  | cut (a : Str) (h : old[i]? = some a) (e : goAt old new i k = (("cut" : Str), a) :: goAt old new (i + 1) k) : NextK old new i k "cut"
  | keep (a : Str) (h : old[i]? = some a) (g : new[k]? = some a) (e : goAt old new i k = (("keep" : Str), a) :: goAt old new (i + 1) (k + 1)) : NextK old new i k "keep"
theorem next_put_end {old new : List Str} {i k : Nat} (hi : old.length ≤ i) {b : Str} (h : new[k]? = some b) : NextK old new i k "put" := by
  refine .put b h ?_
  unfold goAt
  rw [List.drop_of_length_le hi, drop_at h, goS_put]
theorem next_cut_end {old new : List Str} {i k : Nat} (hk : new.length ≤ k) {a : Str} (h : old[i]? = some a) : NextK old new i k "cut" := by
  refine .cut a h ?_
  unfold goAt
  rw [List.drop_of_length_le (l := new) hk, drop_at h, goS_cut]
theorem next_keep {old new : List Str} {i k : Nat} {a b : Str} (h : old[i]? = some a) (g : new[k]? = some b) (e : a = b) : NextK old new i k "keep" := by
  subst e
  refine .keep a h g ?_
  unfold goAt
  rw [drop_at h, drop_at g, goS_cons, if_pos rfl]
theorem next_cut {old new : List Str} {i k : Nat} {a b : Str} (h : old[i]? = some a) (g : new[k]? = some b) (e : a ≠ b) (le : cellD old new (i + 1) k ≤ cellD old new i (k + 1)) : NextK old new i k "cut" := by
  refine .cut a h ?_
  unfold cellD at le
  rw [drop_at g, drop_at h] at le
  unfold goAt
  rw [drop_at h, drop_at g, goS_cons, if_neg e, if_pos le]
theorem next_put {old new : List Str} {i k : Nat} {a b : Str} (h : old[i]? = some a) (g : new[k]? = some b) (e : a ≠ b) (le : ¬ cellD old new (i + 1) k ≤ cellD old new i (k + 1)) : NextK old new i k "put" := by
  refine .put b g ?_
  unfold cellD at le
  rw [drop_at g, drop_at h] at le
  unfold goAt
  rw [drop_at h, drop_at g, goS_cons, if_neg e, if_neg le]
theorem goS_len : ∀ (l m : List Str), (goS l m).length ≤ l.length + m.length
  | [], [] => by rw [goS]; exact Nat.zero_le _
  | [], b :: m => by
    rw [goS_put]
    have := goS_len [] m
    simp only [List.length_cons, List.length_nil] at this ⊢
    omega
  | a :: l, [] => by
    rw [goS_cut]
    have := goS_len l []
    simp only [List.length_cons, List.length_nil] at this ⊢
    omega
  | a :: l, b :: m => by
    rw [goS_cons]
    have h1 := goS_len l m
    have h2 := goS_len l (b :: m)
    have h3 := goS_len (a :: l) m
    simp only [List.length_cons] at h1 h2 h3 ⊢
    split
    · simp only [List.length_cons]
      omega
    · split
      · simp only [List.length_cons]
        omega
      · simp only [List.length_cons]
        omega
termination_by l m => l.length + m.length
/-- each step is a keep, a cut or a put of a word -/
def StpOk (x : Stp) : Prop := x.1 ∈ plainK ∧ wordB x.2 = true
theorem goS_ok : ∀ (l m : List Str), (∀ a ∈ l, wordB a = true) → (∀ a ∈ m, wordB a = true) → ∀ x ∈ goS l m, StpOk x
  | [], [] => by
    rw [goS]
    exact fun _ _ x hx => by cases hx
  | [], b :: m => by
    rw [goS_put]
    intro h1 h2 x hx
    rcases List.mem_cons.mp hx with rfl | hx
    · exact ⟨by show ("put" : Str) ∈ plainK; decide +kernel, h2 _ List.mem_cons_self⟩
    · exact goS_ok [] m h1 (fun a ha => h2 a (List.mem_cons_of_mem _ ha)) x hx
  | a :: l, [] => by
    rw [goS_cut]
    intro h1 h2 x hx
    rcases List.mem_cons.mp hx with rfl | hx
    · exact ⟨by show ("cut" : Str) ∈ plainK; decide +kernel, h1 _ List.mem_cons_self⟩
    · exact goS_ok l [] (fun a ha => h1 a (List.mem_cons_of_mem _ ha)) h2 x hx
  | a :: l, b :: m => by
    rw [goS_cons]
    intro h1 h2 x hx
    have h1' := fun a ha => h1 a (List.mem_cons_of_mem _ ha)
    have h2' := fun a ha => h2 a (List.mem_cons_of_mem _ ha)
    split at hx
    · rcases List.mem_cons.mp hx with rfl | hx
      · exact ⟨by show ("keep" : Str) ∈ plainK; decide +kernel, h1 _ List.mem_cons_self⟩
      · exact goS_ok l m h1' h2' x hx
    · split at hx
      · rcases List.mem_cons.mp hx with rfl | hx
        · exact ⟨by show ("cut" : Str) ∈ plainK; decide +kernel, h1 _ List.mem_cons_self⟩
        · exact goS_ok l (b :: m) h1' h2 x hx
      · rcases List.mem_cons.mp hx with rfl | hx
        · exact ⟨by show ("put" : Str) ∈ plainK; decide +kernel, h2 _ List.mem_cons_self⟩
        · exact goS_ok (a :: l) m h1 h2' x hx
termination_by l m => l.length + m.length
/-- stretches -/
def keptB (x : Stp) : Bool := decide (x.1 = ("keep" : Str))
abbrev GrpS : Type := List (List Stp) × Bool
def addG (g : GrpS) (x : Stp) : GrpS := (if g.1 = [] ∨ keptB x ≠ g.2 then g.1 ++ [[x]] else g.1.dropLast ++ [(g.1.getLast?.getD []) ++ [x]], keptB x)
def grpL (ss : List Stp) : GrpS := ss.foldl addG ([], false)
theorem grpL_snoc (ss : List Stp) (x : Stp) : grpL (ss ++ [x]) = addG (grpL ss) x := by
  unfold grpL
  rw [List.foldl_append]
  rfl
def wordsK (k : Str) (st : List Stp) : List Str := (st.filter fun x : Stp => decide (x.1 = k)).map (·.2)
theorem wordsK_snoc (k : Str) (st : List Stp) (x : Stp) : wordsK k (st ++ [x]) = if x.1 = k then wordsK k st ++ [x.2] else wordsK k st := by
  unfold wordsK
  rw [List.filter_append, List.map_append]
  by_cases h : x.1 = k
  · rw [if_pos h, List.filter_cons_of_pos (p := fun x : Stp => decide (x.1 = k)) (decide_eq_true h)]
    rfl
  · rw [if_neg h, List.filter_cons_of_neg (by simpa using h)]
    exact List.append_nil _
theorem wordsK_len (k : Str) (st : List Stp) : (wordsK k st).length ≤ st.length := by
  unfold wordsK
  rw [List.length_map]
  exact List.length_filter_le _ _
def rowsK (st : List Stp) (k : Str) : List RowD := if wordsK k st = [] then [] else [⟨k, 0, wordsK k st⟩]
def rowsG (st : List Stp) : List RowD := plainK.flatMap (rowsK st)
def toldRows (old new : List Str) : List RowD := (grpL (goS old new)).1.flatMap rowsG
theorem snocInd {α : Type} {p : List α → Prop} (h0 : p []) (h1 : ∀ l x, p l → p (l ++ [x])) : ∀ l, p l := by
  have key : ∀ l : List α, p l.reverse := fun l => by
    induction l with
    | nil => exact h0
    | cons a r ih =>
      rw [List.reverse_cons]
      exact h1 _ _ ih
  intro l
  have := key l.reverse
  rwa [List.reverse_reverse] at this
theorem grp_flat : ∀ ss : List Stp, (grpL ss).1.flatten = ss ∧ (∀ st ∈ (grpL ss).1, st ≠ []) := by
  refine snocInd ⟨rfl, fun _ h => by cases h⟩ fun ss x ih => ?_
  · rw [grpL_snoc]
    unfold addG
    obtain ⟨ih1, ih2⟩ := ih
    split
    · refine ⟨?_, fun st hst => ?_⟩
      · show ((grpL ss).1 ++ [[x]]).flatten = _
        rw [List.flatten_append, ih1]
        rfl
      · rcases List.mem_append.mp hst with h | h
        · exact ih2 st h
        · rw [List.mem_singleton.mp h]
          exact List.cons_ne_nil _ _
    · next hn =>
      have hne : (grpL ss).1 ≠ [] := fun z => hn (.inl z)
      refine ⟨?_, fun st hst => ?_⟩
      · show ((grpL ss).1.dropLast ++ [(grpL ss).1.getLast?.getD [] ++ [x]]).flatten = _
        rw [List.getLast?_eq_some_getLast hne, List.flatten_append]
        have e := congrArg List.flatten (List.dropLast_concat_getLast hne)
        rw [List.flatten_append, ih1] at e
        refine Eq.trans ?_ (congrArg (· ++ [x]) e)
        simp
      · rcases List.mem_append.mp hst with h | h
        · exact ih2 st (List.dropLast_subset _ h)
        · rw [List.mem_singleton.mp h]
          simp
theorem grp_len (ss : List Stp) : (grpL ss).1.length ≤ ss.length ∧ ∀ st ∈ (grpL ss).1, st.length ≤ ss.length := by
  obtain ⟨h1, h2⟩ := grp_flat ss
  have key : ∀ G : List (List Stp), (∀ st ∈ G, st ≠ []) → G.length ≤ G.flatten.length ∧ ∀ st ∈ G, st.length ≤ G.flatten.length := fun G => by
    induction G with
    | nil => exact fun _ => ⟨Nat.le_refl _, fun _ h => by cases h⟩
    | cons a r ih =>
      intro h
      obtain ⟨i1, i2⟩ := ih fun s hs => h s (List.mem_cons_of_mem _ hs)
      have ha : 1 ≤ a.length := by
        cases a with
        | nil => exact absurd rfl (h _ List.mem_cons_self)
        | cons _ _ => exact Nat.succ_le_succ (Nat.zero_le _)
      rw [List.flatten_cons, List.length_append, List.length_cons]
      refine ⟨by omega, fun st hst => ?_⟩
      rcases List.mem_cons.mp hst with rfl | hst
      · omega
      · have := i2 st hst
        omega
  have k := key _ h2
  rw [h1] at k
  exact k
theorem rowsK_ok {st : List Stp} (h : ∀ x ∈ st, StpOk x) {k : Str} (hk : k ∈ plainK) : ∀ r ∈ rowsK st k, RowOk r ∧ r.num = 0 ∧ r.kind = k := fun r hr => by
  unfold rowsK at hr
  split at hr
  · cases hr
  · next hne =>
    rw [List.mem_singleton.mp hr]
    refine ⟨⟨List.mem_append.mpr (.inl hk), ?_, hne, fun a ha => ?_⟩, rfl, rfl⟩
    · show numB k 0 = true
      unfold numB
      rw [inV_strs, if_neg]
      · rfl
      · have e : ∀ k ∈ plainK, decide (k ∈ blockK) = false := by decide +kernel
        rw [e k hk]
        decide
    · unfold wordsK at ha
      obtain ⟨x, h1, h2⟩ := List.mem_map.mp ha
      rw [← h2]
      exact (h x (List.mem_filter.mp h1).1).2
theorem told_ok {old new : List Str} (h1 : ∀ a ∈ old, wordB a = true) (h2 : ∀ a ∈ new, wordB a = true) : ∀ r ∈ toldRows old new, RowOk r ∧ r.num = 0 ∧ r.kind ∈ plainK := fun r hr => by
  unfold toldRows at hr
  obtain ⟨st, hst, hr⟩ := List.mem_flatMap.mp hr
  have ok : ∀ x ∈ st, StpOk x := fun x hx => goS_ok old new h1 h2 x (by
    rw [← (grp_flat (goS old new)).1]
    exact List.mem_flatten.mpr ⟨st, hst, hx⟩)
  unfold rowsG at hr
  obtain ⟨k, hk, hr⟩ := List.mem_flatMap.mp hr
  obtain ⟨a, b, c⟩ := rowsK_ok ok hk r hr
  exact ⟨a, b, c ▸ hk⟩
/-! ### told, as landed -/
def StpAt (H : Hp) (v : V) (x : Stp) : Prop := ∃ T, v = .ref T ∧ H T = some (.tup [.str x.1, .str x.2])
def StpsAt (H : Hp) : List V → List Stp → Prop := Paired (StpAt H)
theorem StpAt.same {H H' : Hp} (s : Same H H') {v : V} {x : Stp} (h : StpAt H v x) : StpAt H' v x := let ⟨T, e, h1⟩ := h; ⟨T, e, s _ _ h1⟩
theorem StpsAt.same {H H' : Hp} (s : Same H H') {xs : List V} {ss : List Stp} (h : StpsAt H xs ss) : StpsAt H' xs ss := by
  unfold StpsAt at h ⊢
  induction h with
  | nil => exact .nil
  | cons h t ih => exact .cons (h.same s) ih
/-- a store to a list leaves steps as they are -/
theorem StpAt.set {H : Hp} {D : Addr} {o : HO} {zs : List V} (hD : H D = some (.lst zs)) {v : V} {x : Stp} (h : StpAt H v x) : StpAt (upd H D o) v x := by
  obtain ⟨T, e, h1⟩ := h
  exact ⟨T, e, by rw [upd_ne fun z => by subst z; rw [hD] at h1; cases h1]; exact h1⟩
theorem StpsAt.set {H : Hp} {D : Addr} {o : HO} {zs : List V} (hD : H D = some (.lst zs)) {xs : List V} {ss : List Stp} (h : StpsAt H xs ss) : StpsAt (upd H D o) xs ss := by
  unfold StpsAt at h ⊢
  induction h with
  | nil => exact .nil
  | cons h t ih => exact .cons (h.set hD) ih
theorem prd_app {α β : Type} {F : α → β → Prop} {a c : List α} {b d : List β} (h : Paired F a b) (g : Paired F c d) : Paired F (a ++ c) (b ++ d) := by
  induction h with
  | nil => exact g
  | cons h t ih => exact .cons h ih
theorem prd_len {α β : Type} {F : α → β → Prop} {a : List α} {b : List β} (h : Paired F a b) : a.length = b.length := by
  induction h with
  | nil => rfl
  | cons h t ih => rw [List.length_cons, List.length_cons, ih]
theorem prd_at {α β : Type} {F : α → β → Prop} {a : List α} {b : List β} (h : Paired F a b) : ∀ {i : Nat} {x : α}, a[i]? = some x → ∃ y, b[i]? = some y ∧ F x y := by
  induction h with
  | nil => intro i x e; cases e
  | cons h t ih =>
    intro i x e
    cases i with
    | zero =>
      cases e
      exact ⟨_, rfl, h⟩
    | succ i => exact ih e
section
variable {P : Program} {w : World} {K : PySem.W.Frag} {mg : Str → Option Value} {base : Heap}
theorem scNextKind : FnScope ["costs", "old", "new", "i", "k"] ["costs", "old", "new", "i", "k"] (defScope sNextKind) := ⟨rfl, rfl, rfl, by decide +kernel, rfl, by decide +kernel, by decide +kernel⟩
theorem scSteps : FnScope ["old", "new", "costs", "steps", "i", "k", "kind", "word"] ["old", "new"] (defScope sStepsBetween) := ⟨rfl, rfl, rfl, by decide +kernel, rfl, by decide +kernel, by decide +kernel⟩
def spNextKind (K : PySem.W.Frag) : Sp := fun vs H Q _ => ∃ (D p r : Addr) (old new : List Str) (i k : Nat), vs = [.ref D, .ref p, .ref r, .int (i : Int), .int (k : Int)] ∧ TabAt K H D old new ∧ SqL K H p (old.map V.str) ∧ SqL K H r (new.map V.str) ∧ i ≤ old.length ∧ k ≤ new.length ∧ (i < old.length ∨ k < new.length) ∧ ∀ kd, NextK old new i k kd → Q (.str kd) H
theorem ok_next_kind {f : Addr} {fd : FuncData} (F : FnP K "next_kind" sNextKind f fd) (mL : mg "len" = none) : FnOk P w K mg base (L2.CX P w) 1 f fd ["costs", "old", "new", "i", "k"] (spNextKind K) := by
  refine F.ok scNextKind (fun vs H Q E h => ?_) (fun cdv A outer s H vs Q E hr h => ?_)
  · obtain ⟨D, p, r, old, new, i, k, rfl, _⟩ := h
    rfl
  · obtain ⟨D, p, r, old, new, i, k, rfl, hT, hp, hr', hi, hk, hlt, q⟩ := h
    refine ⟨_, pss_cons (ps_if (pt_cmpR op_eq (pv 3) (pe_callB call_len_seq (by rfl) mL PySem.boot_len (pa_cons (pv 1) pa_nil)) (by rfl)) (pss_one (ps_ret pe_str)) pss_nil)
      (pss_cons (ps_if (pt_cmpR op_eq (pv 4) (pe_callB call_len_seq (by rfl) mL PySem.boot_len (pa_cons (pv 2) pa_nil)) (by rfl)) (pss_one (ps_ret pe_str)) pss_nil)
      (pss_cons (ps_if (pt_cmpR op_eq (pe_ix ix_list (pv 1) (pv 3) (fun _ _ => rfl)) (pe_ix ix_list (pv 2) (pv 4) (fun _ _ => rfl)) (by rfl)) (pss_one (ps_ret pe_str)) pss_nil)
      (pss_cons (ps_if (pt_cmpR op_le (pe_ix ix_list (pe_ix ix_list (pv 0) (pe_op op_add (pv 3) pe_int) (fun _ _ => rfl)) (pv 4) (fun _ _ => rfl)) (pe_ix ix_list (pe_ix ix_list (pv 0) (pv 3) (fun _ _ => rfl)) (pe_op op_add (pv 4) pe_int) (fun _ _ => rfl)) (by rfl)) (pss_one (ps_ret pe_str)) pss_nil)
      (pss_one (ps_ret pe_str))))), ?_⟩
    have lo : ((old.map V.str).length : Int) = (old.length : Int) := by rw [List.length_map]
    have ln : ((new.map V.str).length : Int) = (new.length : Int) := by rw [List.length_map]
    refine ⟨_, rfl, _, rfl, p, _, rfl, .inl hp, rfl, _, rfl, ite2 (fun e => ?_) (fun e => ?_)⟩
    · have e1 : i = old.length := by
        have := V.int.inj (of_decide_eq_true e)
        omega
      have hk2 : k < new.length := by omega
      exact q _ (next_put_end (by omega) (List.getElem?_eq_getElem hk2))
    · have n1 : i ≠ old.length := fun z => e (decide_eq_true (by rw [lo, z]))
      have hi2 : i < old.length := by omega
      have ha := List.getElem?_eq_getElem hi2
      refine ⟨_, rfl, _, rfl, r, _, rfl, .inl hr', rfl, _, rfl, ite2 (fun e => ?_) (fun e => ?_)⟩
      · have e1 : k = new.length := by
          have := V.int.inj (of_decide_eq_true e)
          omega
        exact q _ (next_cut_end (by omega) ha)
      · have n2 : k ≠ new.length := fun z => e (decide_eq_true (by rw [ln, z]))
        have hk2 : k < new.length := by omega
        have hb := List.getElem?_eq_getElem hk2
        obtain ⟨rs, R0, hD0, h0, hR0⟩ := hT.row (i := i) hi
        obtain ⟨rs1, R1, hD1, h1, hR1⟩ := hT.row (i := i + 1) (by omega)
        have i1 : ((i : Int) + 1) = ((i + 1 : Nat) : Int) := by omega
        have k1 : ((k : Int) + 1) = ((k + 1 : Nat) : Int) := by omega
        refine ⟨_, rfl, _, rfl, p, _, _, _, rfl, rfl, hp, atI_nat (by rw [List.getElem?_map, ha]; rfl), _, rfl, _, rfl, r, _, _, _, rfl, rfl, hr', atI_nat (by rw [List.getElem?_map, hb]; rfl), rfl, _, rfl, ite2 (fun e => ?_) (fun e => ?_)⟩
        · exact q _ (next_keep ha hb (V.str.inj (of_decide_eq_true e)))
        · have e1 : old[i] ≠ new[k] := fun z => e (decide_eq_true (congrArg V.str z))
          refine ⟨_, rfl, _, rfl, _, _, rfl, rfl, D, _, _, _, rfl, rfl, hD1, by rw [i1]; exact atI_nat h1, _, rfl, R1, _, _, _, rfl, rfl, hR1, atI_nat (rowD_at (by omega)), _, rfl, _, rfl, D, _, _, _, rfl, rfl, hD0, atI_nat h0, _, rfl, _, _, rfl, rfl, R0, _, _, _, rfl, rfl, hR0, by rw [k1]; exact atI_nat (rowD_at (by omega)), _, _, rfl, rfl, _, rfl, ite2 (fun e2 => ?_) (fun e2 => ?_)⟩
          · refine q _ (next_cut ha hb e1 ?_)
            have := of_decide_eq_true e2
            omega
          · refine q _ (next_put ha hb e1 fun z => e2 (decide_eq_true ?_))
            omega
def spSteps (K : PySem.W.Frag) (Ps : List Addr) : Sp := fun vs H Q _ => ∃ (p q : Addr) (old new : List Str), vs = [.ref p, .ref q] ∧ SqL K H p (old.map V.str) ∧ SqL K H q (new.map V.str) ∧ (∀ a ∈ old, wordB a = true) ∧ (∀ a ∈ new, wordB a = true) ∧ old.length ≤ 120 ∧ new.length ≤ 120 ∧ Tb Ps H ∧
  ∀ (H' : Hp) (S : Addr) (xs : List V), Kp Ps H H' → H S = none → H' S = some (.lst xs) → StpsAt H' xs (goS old new) → Q (.ref S) H'
def StepW (p r D S : Addr) (old new : List Str) (H1 : Hp) (i k : Nat) (σ' : L2.St) (H' : Hp) : Prop := ∃ (xs : List V) (ss : List Stp) (y6 y7 : Option V), σ' = [some (.ref p), some (.ref r), some (.ref D), some (.ref S), some (.int (i : Int)), some (.int (k : Int)), y6, y7] ∧ i ≤ old.length ∧ k ≤ new.length ∧ Same H1 H' ∧ H' S = some (.lst xs) ∧ StpsAt H' xs ss ∧ ss ++ goAt old new i k = goS old new
theorem ok_steps_between {Ps : List Addr} {aO f fT fN : Addr} {fd fdT fdN : FuncData} (F : FnP K "steps_between" sStepsBetween f fd)
    (GT : FnOk P w K mg base (L2.CX P w) 6 fT fdT ["old", "new"] (spTable K Ps)) (kT : PySem.W.keepIn K (.ref fT) = true) (bT : Binds K fdT ["old", "new"] []) (gT : mg "table" = some (.ref fT))
    (GN : FnOk P w K mg base (L2.CX P w) 1 fN fdN ["costs", "old", "new", "i", "k"] (spNextKind K)) (kN : PySem.W.keepIn K (.ref fN) = true) (bN : Binds K fdN ["costs", "old", "new", "i", "k"] []) (gN : mg "next_kind" = some (.ref fN))
    {aN : Addr} (mL : mg "len" = none) (mO : mg "OLD_KINDS" = some (.ref aO)) (kO : KTup K aO oldK) (mW : mg "NEW_KINDS" = some (.ref aN)) (kW : KTup K aN newK) : FnOk P w K mg base (L2.CX P w) 7 f fd ["old", "new"] (spSteps K Ps) := by
  refine F.ok scSteps (fun vs H Q E h => ?_) (fun cdv A outer s H vs Q E hr h => ?_)
  · obtain ⟨p, q, old, new, rfl, _⟩ := h
    rfl
  · obtain ⟨p, r, old, new, rfl, hp, hq, wO, wN, lO, lN, ht, q⟩ := h
    have r1 : Room 1 (A.deeper (envOfC "steps_between" (defScope sStepsBetween) s.heap.objs.size f cdv)) := hr.mono (by decide)
    refine ⟨_, pss_cons (ps_set (i := 2) scSteps.nd rfl (.inl rfl) (pe_call GT hr (by rfl) gT kT bT .nil passL (pa_cons (pv 0) (pa_cons (pv 1) pa_nil))))
      (pss_cons (ps_set (i := 3) scSteps.nd rfl (.inl rfl) (pe_lst pa_nil))
      (pss_cons (ps_set (i := 4) scSteps.nd rfl (.inl rfl) pe_int)
      (pss_cons (ps_set (i := 5) scSteps.nd rfl (.inl rfl) pe_int)
      (pss_cons (ps_while (passes_of rfl) (PW.pt (pw_or (pt_cmpR op_lt (pv 4) (pe_callB call_len_seq (by rfl) mL PySem.boot_len (pa_cons (pv 0) pa_nil)) (by rfl)) (pw_or1 (pt_cmpR op_lt (pv 5) (pe_callB call_len_seq (by rfl) mL PySem.boot_len (pa_cons (pv 1) pa_nil)) (by rfl)))))
        (pss_cons (ps_set (i := 6) scSteps.nd rfl (.inl rfl) (pe_call GN r1 (by rfl) gN kN bN .nil passL (pa_cons (pv 2) (pa_cons (pv 0) (pa_cons (pv 1) (pa_cons (pv 4) (pa_cons (pv 5) pa_nil)))))))
        (pss_cons (ps_set (i := 7) scSteps.nd rfl (.inl rfl) (pe_ifExp (pt_cmpR op_in_seq (pv 6) (pe_glob (v := .ref aO) (by rfl) mO rfl) (by rfl)) (pe_ix ix_list (pv 0) (pv 4) (fun _ _ => rfl)) (pe_ix ix_list (pv 1) (pv 5) (fun _ _ => rfl))))
        (pss_cons (ps_expr (pe_bm PySem.F.plainAttrs_list PySem.F.slot_list_append PySem.F.type_list_append mt_append (pv 3) (pa_cons (pe_tup (pa_cons (pv 6) (pa_cons (pv 7) pa_nil))) pa_nil)))
        (pss_cut (ps_if (pt_cmpR op_in_seq (pv 6) (pe_glob (v := .ref aO) (by rfl) mO rfl) (by rfl)) (pss_one (ps_aug (i := 4) scSteps.nd rfl (.inl rfl) pe_int ip_add)) pss_nil)
        (pss_one (ps_if (pt_cmpR op_in_seq (pv 6) (pe_glob (v := .ref aN) (by rfl) mW rfl) (by rfl)) (pss_one (ps_aug (i := 5) scSteps.nd rfl (.inl rfl) pe_int ip_add)) pss_nil)))))))
      (pss_one (ps_ret (pv 3))))))), ?_⟩
    refine ⟨_, rfl, _, rfl, p, r, old, new, rfl, hp, hq, wO, wN, lO, lN, ht, fun H1 D k1 nD hT => ?_⟩
    have p1 := k1.seq ht hp
    have q1 := k1.seq ht hq
    have t1 := k1.1
    refine ⟨by show 0 ≤ sizeLine; decide, fun S nS => ?_⟩
    have u1 := same_upd nS (o := .lst [])
    have I0 : (upd H1 S (.lst [])) S = some (.lst []) := upd_same
    refine ⟨fun m σ' H' => ∃ i k : Nat, m = (old.length - i) + (new.length - k) ∧ StepW p r D S old new H1 i k σ' H', ⟨_, 0, 0, rfl, [], [], none, none, rfl, Nat.zero_le _, Nat.zero_le _, u1, I0, .nil, rfl⟩, fun m σ' H' hM => ?_⟩
    obtain ⟨i, k, rfl, xs, ss, y6, y7, rfl, hi, hk, sm, hS, hX, hgo⟩ := hM
    have p2 := sm.seq p1
    have q2 := sm.seq q1
    have lo : ((old.map V.str).length : Int) = (old.length : Int) := by rw [List.length_map]
    have ln : ((new.map V.str).length : Int) = (new.length : Int) := by rw [List.length_map]
    refine (fun (body : (i < old.length ∨ k < new.length) → _) => ⟨_, rfl, _, rfl, p, _, rfl, .inl p2, _, _, rfl, rfl, _, rfl, ite2 (fun e => body (.inl ?b1)) (fun e => ⟨_, rfl, _, rfl, r, _, rfl, .inl q2, _, _, rfl, rfl, _, rfl, ite2 (fun e2 => body (.inr ?b2)) (fun e2 => ⟨_, rfl, ?b3⟩)⟩)⟩) ?b4
    case b1 =>
      have := of_decide_eq_true e
      omega
    case b2 =>
      have := of_decide_eq_true e2
      omega
    case b3 =>
      have h1 : old.length ≤ i := Nat.le_of_not_lt fun z => e (decide_eq_true (by omega))
      have h2 : new.length ≤ k := Nat.le_of_not_lt fun z => e2 (decide_eq_true (by omega))
      rw [goAt_end h1 h2, List.append_nil] at hgo
      rw [hgo] at hX
      exact q H' S xs (k1.trans (Kp.same t1 sm)) (k1.free ht nS) hS hX
    case b4 =>
      intro hlt
      refine ⟨_, fun _ _ h => h, ?_⟩
      have hxl : xs.length ≤ 240 := by
        have h1 := prd_len hX
        have h2 := congrArg List.length hgo
        rw [List.length_append] at h2
        have h3 := goS_len old new
        omega
      refine ⟨_, rfl, _, rfl, _, rfl, _, rfl, _, rfl, D, p, r, old, new, i, k, rfl, hT.same sm, p2, q2, hi, hk, hlt, fun kd hkd => ?_⟩
      have fin : ∀ (T : Addr) (kd x : Str) (i' k' : Nat), H' T = none → i' ≤ old.length → k' ≤ new.length → (old.length - i') + (new.length - k') < (old.length - i) + (new.length - k) → goAt old new i k = (kd, x) :: goAt old new i' k' → ∀ σ2, σ2 = ([some (.ref p), some (.ref r), some (.ref D), some (.ref S), some (.int (i' : Int)), some (.int (k' : Int)), some (.str kd), some (.str x)] : L2.St) →
          ∃ m', m' < (old.length - i) + (new.length - k) ∧ ∃ i k : Nat, m' = (old.length - i) + (new.length - k) ∧ StepW p r D S old new H1 i k σ2 (upd (upd H' T (.tup [.str kd, .str x])) S (.lst (xs ++ [.ref T]))) := fun T kd x i' k' nT hi' hk' hm he σ2 hσ => by
        have s1 := same_upd nT (o := .tup [.str kd, .str x])
        have hS1 := s1 _ _ hS
        refine ⟨_, hm, i', k', rfl, xs ++ [.ref T], ss ++ [(kd, x)], _, _, hσ, hi', hk', fun b o e => ?_, upd_same, ?_, ?_⟩
        · rw [upd_ne (ne_of_none e nS)]
          exact s1 b o (sm b o e)
        · exact prd_app (hX.same s1 |>.set hS1) (.cons (StpAt.set hS1 ⟨T, rfl, upd_same⟩) .nil)
        · rw [List.append_assoc, ← hgo, he]
          rfl
      have hlt1 : xs.length < sizeLine := Nat.lt_of_lt_of_le (show xs.length < 1000 by omega) (by decide)
      have oP : inV (.str ("put" : Str)) (oldK.map V.str) = false := by
        rw [inV_strs]
        decide +kernel
      have oC : inV (.str ("cut" : Str)) (oldK.map V.str) = true := by
        rw [inV_strs]
        decide +kernel
      have oK : inV (.str ("keep" : Str)) (oldK.map V.str) = true := by
        rw [inV_strs]
        decide +kernel
      have nP : inV (.str ("put" : Str)) (newK.map V.str) = true := by
        rw [inV_strs]
        decide +kernel
      have nC : inV (.str ("cut" : Str)) (newK.map V.str) = false := by
        rw [inV_strs]
        decide +kernel
      have nK : inV (.str ("keep" : Str)) (newK.map V.str) = true := by
        rw [inV_strs]
        decide +kernel
      cases hkd with
      | put b h e =>
        have hk2 : k < new.length := (List.getElem?_eq_some_iff.mp h).1
        refine ⟨_, rfl, aO, oldK.map V.str, rfl, .inr (kO H'), rfl, flat_strs _, _, rfl, ?_⟩
        rw [oP]
        refine iteF ⟨_, rfl, _, rfl, r, _, _, _, rfl, rfl, q2, atI_nat (by rw [List.getElem?_map, h]; rfl), ?_⟩
        refine ⟨_, rfl, .inl ⟨rfl, _, .inl (.inl hS)⟩, _, rfl, _, rfl, by show 2 ≤ sizeLine; decide, fun T nT => ?_⟩
        refine ⟨S, _, _, rfl, rfl, same_upd nT _ _ hS, hlt1, ?_⟩
        refine ⟨fun σ3 H3 => σ3 = [some (.ref p), some (.ref r), some (.ref D), some (.ref S), some (.int (i : Int)), some (.int (k : Int)), some (.str ("put" : Str)), some (.str b)] ∧ H3 = upd (upd H' T (.tup [.str ("put" : Str), .str b])) S (.lst (xs ++ [.ref T])), ?_, fun σ3 H3 hM => ?_⟩
        · refine ⟨_, rfl, aO, oldK.map V.str, rfl, .inr (kO _), rfl, flat_strs _, _, rfl, ?_⟩
          rw [oP]
          exact iteF ⟨rfl, rfl⟩
        · obtain ⟨rfl, rfl⟩ := hM
          refine ⟨_, rfl, aN, newK.map V.str, rfl, .inr (kW _), rfl, flat_strs _, _, rfl, ?_⟩
          rw [nP]
          exact iteT ⟨_, rfl, _, _, rfl, rfl, fin T "put" b i (k + 1) nT hi (by omega) (by omega) e _ rfl⟩
      | cut a h e =>
        have hi2 : i < old.length := (List.getElem?_eq_some_iff.mp h).1
        refine ⟨_, rfl, aO, oldK.map V.str, rfl, .inr (kO H'), rfl, flat_strs _, _, rfl, ?_⟩
        rw [oC]
        refine iteT ⟨_, rfl, _, rfl, p, _, _, _, rfl, rfl, p2, atI_nat (by rw [List.getElem?_map, h]; rfl), ?_⟩
        refine ⟨_, rfl, .inl ⟨rfl, _, .inl (.inl hS)⟩, _, rfl, _, rfl, by show 2 ≤ sizeLine; decide, fun T nT => ?_⟩
        refine ⟨S, _, _, rfl, rfl, same_upd nT _ _ hS, hlt1, ?_⟩
        refine ⟨fun σ3 H3 => σ3 = [some (.ref p), some (.ref r), some (.ref D), some (.ref S), some (.int ((i + 1 : Nat) : Int)), some (.int (k : Int)), some (.str ("cut" : Str)), some (.str a)] ∧ H3 = upd (upd H' T (.tup [.str ("cut" : Str), .str a])) S (.lst (xs ++ [.ref T])), ?_, fun σ3 H3 hM => ?_⟩
        · refine ⟨_, rfl, aO, oldK.map V.str, rfl, .inr (kO _), rfl, flat_strs _, _, rfl, ?_⟩
          rw [oC]
          exact iteT ⟨_, rfl, _, _, rfl, rfl, rfl, rfl⟩
        · obtain ⟨rfl, rfl⟩ := hM
          refine ⟨_, rfl, aN, newK.map V.str, rfl, .inr (kW _), rfl, flat_strs _, _, rfl, ?_⟩
          rw [nC]
          exact iteF (fin T "cut" a (i + 1) k nT (by omega) hk (by omega) e _ rfl)
      | keep a h g e =>
        have hi2 : i < old.length := (List.getElem?_eq_some_iff.mp h).1
        have hk2 : k < new.length := (List.getElem?_eq_some_iff.mp g).1
        refine ⟨_, rfl, aO, oldK.map V.str, rfl, .inr (kO H'), rfl, flat_strs _, _, rfl, ?_⟩
        rw [oK]
        refine iteT ⟨_, rfl, _, rfl, p, _, _, _, rfl, rfl, p2, atI_nat (by rw [List.getElem?_map, h]; rfl), ?_⟩
        refine ⟨_, rfl, .inl ⟨rfl, _, .inl (.inl hS)⟩, _, rfl, _, rfl, by show 2 ≤ sizeLine; decide, fun T nT => ?_⟩
        refine ⟨S, _, _, rfl, rfl, same_upd nT _ _ hS, hlt1, ?_⟩
        refine ⟨fun σ3 H3 => σ3 = [some (.ref p), some (.ref r), some (.ref D), some (.ref S), some (.int ((i + 1 : Nat) : Int)), some (.int (k : Int)), some (.str ("keep" : Str)), some (.str a)] ∧ H3 = upd (upd H' T (.tup [.str ("keep" : Str), .str a])) S (.lst (xs ++ [.ref T])), ?_, fun σ3 H3 hM => ?_⟩
        · refine ⟨_, rfl, aO, oldK.map V.str, rfl, .inr (kO _), rfl, flat_strs _, _, rfl, ?_⟩
          rw [oK]
          exact iteT ⟨_, rfl, _, _, rfl, rfl, rfl, rfl⟩
        · obtain ⟨rfl, rfl⟩ := hM
          refine ⟨_, rfl, aN, newK.map V.str, rfl, .inr (kW _), rfl, flat_strs _, _, rfl, ?_⟩
          rw [nK]
          exact iteT ⟨_, rfl, _, _, rfl, rfl, fin T "keep" a (i + 1) (k + 1) nT (by omega) (by omega) (by omega) e _ rfl⟩
end
/-! ### stretches, told -/
structure GrpW (H : Hp) (G : Addr) (as : List Addr) (gs : List (List Stp)) : Prop where
  top : H G = some (.lst (as.map V.ref))
  nd : as.Nodup
  out : G ∉ as
  len : as.length = gs.length
  at_ : ∀ (i : Nat) (a : Addr) (g : List Stp), as[i]? = some a → gs[i]? = some g → ∃ xs, H a = some (.lst xs) ∧ StpsAt H xs g
theorem GrpW.same {H H' : Hp} (s : Same H H') {G : Addr} {as : List Addr} {gs : List (List Stp)} (h : GrpW H G as gs) : GrpW H' G as gs :=
  ⟨s _ _ h.top, h.nd, h.out, h.len, fun i a g e1 e2 => let ⟨xs, h1, h2⟩ := h.at_ i a g e1 e2; ⟨xs, s _ _ h1, h2.same s⟩⟩
theorem get_last {α : Type} (l : List α) (x : α) : (l ++ [x])[l.length]? = some x := by
  rw [List.getElem?_append_right (Nat.le_refl _), Nat.sub_self]
  rfl
/-- one more in the last group -/
theorem GrpW.last {H : Hp} {G A T : Addr} {as : List Addr} {gs : List (List Stp)} {g : List Stp} {x : Stp} {xs : List V} (h : GrpW H G (as ++ [A]) (gs ++ [g])) (hA : H A = some (.lst xs)) (hX : StpsAt H xs g) (hT : H T = some (.tup [.str x.1, .str x.2])) :
    GrpW (upd H A (.lst (xs ++ [.ref T]))) G (as ++ [A]) (gs ++ [g ++ [x]]) := by
  have hm : A ∈ as ++ [A] := List.mem_append_right _ (List.mem_singleton.mpr rfl)
  have hl : as.length = gs.length := by
    have := h.len
    rw [List.length_append, List.length_append] at this
    exact Nat.succ.inj this
  refine ⟨?_, h.nd, h.out, ?_, fun i a g' e1 e2 => ?_⟩
  · rw [upd_ne fun z => h.out (by rw [z]; exact hm)]
    exact h.top
  · rw [List.length_append, List.length_append, hl]
    rfl
  · by_cases e : i = as.length
    · subst e
      rw [get_last] at e1
      rw [hl, get_last] at e2
      cases e1
      cases e2
      exact ⟨_, upd_same, prd_app (hX.set hA) (.cons (StpAt.set hA ⟨T, rfl, hT⟩) .nil)⟩
    · have hlt : i < as.length := by
        have h1 := (List.getElem?_eq_some_iff.mp e1).1
        rw [List.length_append] at h1
        have h1 : i < as.length + 1 := h1
        omega
      have ne : a ≠ A := fun z => by
        subst z
        exact e (nodup_at h.nd e1 (get_last as a))
      have e2' : (gs ++ [g])[i]? = some g' := by
        rw [List.getElem?_append_left (by omega)] at e2 ⊢
        exact e2
      obtain ⟨ys, h1, h2⟩ := h.at_ i a g' e1 e2'
      exact ⟨ys, by rw [upd_ne ne]; exact h1, h2.set hA⟩
/-- a new group -/
theorem GrpW.more {H : Hp} {G A : Addr} {as : List Addr} {gs : List (List Stp)} (h : GrpW H G as gs) (nA : H A = none) : GrpW (upd (upd H A (.lst [])) G (.lst ((as ++ [A]).map V.ref))) G (as ++ [A]) (gs ++ [[]]) := by
  have s1 := same_upd nA (o := .lst [])
  have hAG : A ≠ G := fun z => by
    subst z
    rw [h.top] at nA
    cases nA
  have hG1 := s1 _ _ h.top
  refine ⟨upd_same, ?_, ?_, ?_, fun i a g e1 e2 => ?_⟩
  · refine List.nodup_append.mpr ⟨h.nd, List.nodup_cons.mpr ⟨List.not_mem_nil, List.nodup_nil⟩, fun a ha b hb => ?_⟩
    rw [List.mem_singleton.mp hb]
    intro z
    subst z
    obtain ⟨i, hi⟩ := List.mem_iff_getElem?.mp ha
    have hig : i < gs.length := by
      rw [← h.len]
      exact (List.getElem?_eq_some_iff.mp hi).1
    obtain ⟨xs, h1, _⟩ := h.at_ i a _ hi (List.getElem?_eq_getElem hig)
    rw [nA] at h1
    cases h1
  · intro z
    rcases List.mem_append.mp z with z | z
    · exact h.out z
    · exact hAG (List.mem_singleton.mp z).symm
  · rw [List.length_append, List.length_append, h.len]
    rfl
  · by_cases e : i = as.length
    · subst e
      rw [get_last] at e1
      rw [h.len, get_last] at e2
      cases e1
      cases e2
      exact ⟨[], by rw [upd_ne hAG]; exact upd_same, .nil⟩
    · have hlt : i < as.length := by
        have h1 := (List.getElem?_eq_some_iff.mp e1).1
        rw [List.length_append] at h1
        have h1 : i < as.length + 1 := h1
        omega
      rw [List.getElem?_append_left hlt] at e1
      rw [List.getElem?_append_left (by rw [← h.len]; exact hlt)] at e2
      obtain ⟨ys, h1, h2⟩ := h.at_ i a g e1 e2
      have ne : a ≠ G := fun z => h.out (by rw [← z]; exact List.mem_of_getElem? e1)
      exact ⟨ys, by rw [upd_ne ne]; exact s1 _ _ h1, (h2.same s1).set hG1⟩
theorem addG_new {gs : List (List Stp)} {fl : Bool} {x : Stp} (h : gs = [] ∨ keptB x ≠ fl) : (addG (gs, fl) x).1 = gs ++ [[] ++ [x]] := by
  unfold addG
  rw [if_pos h]
  rfl
theorem addG_old {gs : List (List Stp)} {g : List Stp} {fl : Bool} {x : Stp} (h : ¬ (gs ++ [g] = [] ∨ keptB x ≠ fl)) : (addG (gs ++ [g], fl) x).1 = gs ++ [g ++ [x]] := by
  unfold addG
  rw [if_neg h, List.dropLast_concat, List.getLast?_concat]
  rfl
section
variable {P : Program} {w : World} {K : PySem.W.Frag} {mg : Str → Option Value} {base : Heap}
theorem scStretches : FnScope ["steps", "stretches", "last_kept", "kind", "word", "kept"] ["steps"] (defScope sStretchesOf) := ⟨rfl, rfl, rfl, by decide +kernel, rfl, by decide +kernel, by decide +kernel⟩
theorem scTold : FnScope ["old", "new", "rows", "stretch", "row_kind", "words", "kind", "word"] ["old", "new"] (defScope sTold) := ⟨rfl, rfl, rfl, by decide +kernel, rfl, by decide +kernel, by decide +kernel⟩
def StrM (S G : Addr) (fl : Bool) (x : Stp) (gs : List (List Stp)) (H : Hp) (σ3 : L2.St) (H3 : Hp) : Prop := ∃ (as : List Addr) (A : Addr) (gs' : List (List Stp)) (g : List Stp) (ys : List V), σ3 = [some (.ref S), some (.ref G), some (.bl fl), some (.str x.1), some (.str x.2), some (.bl (keptB x))] ∧ Same H H3 ∧ (∀ a ∈ as ++ [A], H a = none) ∧ GrpW H3 G (as ++ [A]) (gs' ++ [g]) ∧ H3 A = some (.lst ys) ∧ StpsAt H3 ys g ∧ ys.length ≤ 240 ∧ (addG (gs, fl) x).1 = gs' ++ [g ++ [x]]
def spStretches (K : PySem.W.Frag) : Sp := fun vs H Q _ => ∃ (S : Addr) (xs : List V) (ss : List Stp), vs = [.ref S] ∧ H S = some (.lst xs) ∧ StpsAt H xs ss ∧ ss.length ≤ 240 ∧ ∀ (H' : Hp) (G : Addr) (as : List Addr), Same H H' → H G = none → (∀ a ∈ as, H a = none) → GrpW H' G as (grpL ss).1 → Q (.ref G) H'
theorem ok_stretches {f : Addr} {fd : FuncData} (F : FnP K "stretches_of" sStretchesOf f fd) (mL : mg "len" = none) : FnOk P w K mg base (L2.CX P w) 1 f fd ["steps"] (spStretches K) := by
  refine F.ok scStretches (fun vs H Q E h => ?_) (fun cdv A outer s H vs Q E hr h => ?_)
  · obtain ⟨S, xs, ss, rfl, _⟩ := h
    rfl
  · obtain ⟨S, xs, ss, rfl, hS, hX, hl, q⟩ := h
    refine ⟨_, pss_cons (ps_set (i := 1) scStretches.nd rfl (.inl rfl) (pe_lst pa_nil))
      (pss_cons (ps_set (i := 2) scStretches.nd rfl (.inl rfl) pe_bl)
      (pss_cons (ps_for (passes_of rfl) rfl (pi_list (pv 0)) (pg_tup rfl (pgs_cons (pg_name (i := 3) scStretches.nd rfl (.inl rfl)) (pgs_cons (pg_name (i := 4) scStretches.nd rfl (.inl rfl)) pgs_nil)))
        (pss_cons (ps_set (i := 5) scStretches.nd rfl (.inl rfl) (pe_cmpR op_eq (pv 3) pe_str (nomark _)))
        (pss_cut (ps_if (PW.pt (pw_or (pt_cmpR op_eq (pe_callB call_len_seq (by rfl) mL PySem.boot_len (pa_cons (pv 1) pa_nil)) pe_int (nomark _)) (pw_or1 (pt_cmpR op_ne (pv 5) (pv 2) (nomark _)))))
          (pss_one (ps_expr (pe_bm PySem.F.plainAttrs_list PySem.F.slot_list_append PySem.F.type_list_append mt_append (pv 1) (pa_cons (pe_lst pa_nil) pa_nil)))) pss_nil)
        (pss_cons (ps_expr (pe_bm PySem.F.plainAttrs_list PySem.F.slot_list_append PySem.F.type_list_append mt_append (pe_ix ix_list (pv 1) (pe_un un_neg pe_int) (fun _ _ => rfl)) (pa_cons (pe_tup (pa_cons (pv 3) (pa_cons (pv 4) pa_nil))) pa_nil)))
        (pss_one (ps_set (i := 2) scStretches.nd rfl (.inl rfl) (pv 5)))))))
      (pss_one (ps_ret (pv 1))))), ?_⟩
    refine ⟨by show 0 ≤ sizeLine; decide, fun G nG => ?_⟩
    refine ⟨_, rfl, S, rfl, ⟨_, (same_upd nG).seq (.inl (.inl hS))⟩, for_list (xs := xs) (fun i σ' H' => ∃ (as : List Addr) (y3 y4 y5 : Option V), σ' = [some (.ref S), some (.ref G), some (.bl (grpL (ss.take i)).2), y3, y4, y5] ∧ Same H H' ∧ (∀ a ∈ as, H a = none) ∧ GrpW H' G as (grpL (ss.take i)).1)
      ⟨[], none, none, none, rfl, same_upd nG, (fun a h => by cases h), upd_same, List.nodup_nil, List.not_mem_nil, rfl, fun i a g e => by cases e⟩ (fun i σ' H' _ hp => ?_) (fun i v σ' H' hx hp => ?_) (fun σ' H' hp => ?_)⟩
    · obtain ⟨as, y3, y4, y5, _, sm, _⟩ := hp
      exact sm.seq (.inl (.inl hS))
    · obtain ⟨as, y3, y4, y5, rfl, sm, fr, hG⟩ := hp
      obtain ⟨x, hx2, T0, rfl, hT0⟩ := prd_at (hX.same sm) hx
      have hi : i < ss.length := (List.getElem?_eq_some_iff.mp hx2).1
      have eg : grpL (ss.take (i + 1)) = addG (grpL (ss.take i)) x := by rw [take_snoc hx2, grpL_snoc]
      have hgl : (grpL (ss.take i)).1.length ≤ 240 := by
        have h1 := (grp_len (ss.take i)).1
        rw [List.length_take] at h1
        omega
      have hgl2 : ∀ st ∈ (grpL (ss.take i)).1, st.length ≤ 240 := fun st h => by
        have h1 := (grp_len (ss.take i)).2 st h
        rw [List.length_take] at h1
        omega
      have efl : (addG (grpL (ss.take i)) x).2 = keptB x := rfl
      rw [eg, efl]
      generalize grpL (ss.take i) = gf at hG hgl hgl2 ⊢
      obtain ⟨gs, fl⟩ := gf
      refine ⟨T0, _, rfl, .inl (.inl hT0), rfl, _, _, rfl, _, _, rfl, rfl, ?_⟩
      refine ⟨_, rfl, rfl, ?_⟩
      have ek : decide (V.str x.1 = V.str ("keep" : Str)) = keptB x := by
        unfold keptB
        by_cases h : x.1 = ("keep" : Str)
        · rw [decide_eq_true h, decide_eq_true (congrArg V.str h)]
        · rw [decide_eq_false h, decide_eq_false (fun z => h (V.str.inj z))]
      rw [ek]
      refine ⟨StrM S G fl x gs H, ?_, fun σ3 H3 hM => ?_⟩
      · have new : (gs = [] ∨ keptB x ≠ fl) → ∀ A : Addr, H' A = none → StrM S G fl x gs H [some (.ref S), some (.ref G), some (.bl fl), some (.str x.1), some (.str x.2), some (.bl (keptB x))] (upd (upd H' A (.lst [])) G (.lst (as.map V.ref ++ [.ref A]))) := fun hc A nA => by
          have hm := hG.more nA
          have e2 : (as ++ [A]).map V.ref = as.map V.ref ++ [.ref A] := by rw [List.map_append]; rfl
          rw [e2] at hm
          have nAH : H A = none := sm.free nA
          have hAG : A ≠ G := fun z => by
            subst z
            have := hG.top
            rw [nA] at this
            cases this
          refine ⟨as, A, gs, [], [], rfl, fun b o e => ?_, fun a ha => ?_, hm, by rw [upd_ne hAG]; exact upd_same, .nil, Nat.zero_le _, addG_new hc⟩
          · rw [upd_ne (ne_of_none e nG)]
            exact same_upd nA _ _ (sm b o e)
          · rcases List.mem_append.mp ha with ha | ha
            · exact fr a ha
            · rw [List.mem_singleton.mp ha]
              exact nAH
        have hal : (as.map V.ref).length < sizeLine := by
          rw [List.length_map, hG.len]
          exact Nat.lt_of_le_of_lt hgl (by decide)
        refine (fun (body : (gs = [] ∨ keptB x ≠ fl) → _) => ⟨_, rfl, G, _, rfl, .inl (.inl (.inl hG.top)), rfl, _, rfl, ite2 (fun e => body (.inl ?b1)) (fun e => ⟨_, rfl, _, rfl, rfl, _, rfl, ite2 (fun e2 => body (.inr ?b2)) (fun e2 => ?b3)⟩)⟩) ?b4
        case b1 =>
          have h1 : ((as.map V.ref).length : Int) = 0 := V.int.inj (of_decide_eq_true e)
          have h2 : as.length = gs.length := hG.len
          rw [List.length_map] at h1
          exact List.length_eq_zero_iff.mp (by omega)
        case b2 =>
          intro z
          rw [z] at e2
          have e2 : (!decide (V.bl fl = V.bl fl)) = true := e2
          rw [decide_eq_true rfl] at e2
          cases e2
        case b3 =>
          have hk : keptB x = fl := Classical.byContradiction fun z => e2 (by
            show (!decide (V.bl (keptB x) = V.bl fl)) = true
            rw [decide_eq_false (fun y => z (V.bl.inj y))]
            rfl)
          have hne : gs ≠ [] := fun z => e (decide_eq_true (by rw [List.length_map, hG.len, z]; rfl))
          obtain ⟨gs', g, rfl⟩ : ∃ gs' g, gs = gs' ++ [g] := ⟨_, _, (List.dropLast_concat_getLast hne).symm⟩
          have hane : as ≠ [] := fun z => by
            have := hG.len
            rw [z, List.length_append] at this
            cases this
          obtain ⟨as', A, rfl⟩ : ∃ as' A, as = as' ++ [A] := ⟨_, _, (List.dropLast_concat_getLast hane).symm⟩
          have hll : as'.length = gs'.length := by
            have := hG.len
            rw [List.length_append, List.length_append] at this
            exact Nat.succ.inj this
          obtain ⟨ys, h1, h2⟩ := hG.at_ as'.length A g (get_last _ _) (by rw [hll]; exact get_last _ _)
          refine ⟨as', A, gs', g, ys, rfl, sm, fr, hG, h1, h2, ?_, addG_old fun z => ?_⟩
          · rw [prd_len h2]
            exact hgl2 g (List.mem_append_right _ (List.mem_singleton.mpr rfl))
          · rcases z with z | z
            · exact hne z
            · exact z hk
        case b4 =>
          intro hc
          exact ⟨_, rfl, .inl ⟨rfl, _, .inl (.inl hG.top)⟩, by show 0 ≤ sizeLine; decide, fun A nA => ⟨G, _, _, rfl, rfl, same_upd nA _ _ hG.top, hal, new hc A nA⟩⟩
      · obtain ⟨as, A, gs', g, ys, rfl, s3, fr3, hG3, hA, hY, hyl, eA⟩ := hM
        have eL : (as ++ [A]).map V.ref = as.map V.ref ++ [.ref A] := by rw [List.map_append]; rfl
        refine ⟨_, rfl, _, rfl, G, _, _, .ref A, rfl, rfl, .inl (.inl hG3.top), by rw [eL]; exact atI_last _ _, .inl ⟨rfl, _, .inl (.inl hA)⟩, _, rfl, _, rfl, by show 2 ≤ sizeLine; decide, fun T nT => ?_⟩
        have s4 := same_upd nT (o := .tup [.str x.1, .str x.2])
        refine ⟨A, _, _, rfl, rfl, s4 _ _ hA, Nat.lt_of_le_of_lt hyl (by decide), ?_⟩
        refine ⟨_, rfl, as ++ [A], _, _, _, rfl, fun b o e => ?_, fr3, ?_⟩
        · rw [upd_ne (ne_of_none e (fr3 A (List.mem_append_right _ (List.mem_singleton.mpr rfl))))]
          exact s4 _ _ (s3 b o e)
        · rw [eA]
          exact (hG3.same s4).last (s4 _ _ hA) (hY.same s4) upd_same
    · obtain ⟨as, y3, y4, y5, rfl, sm, fr, hG⟩ := hp
      rw [List.take_of_length_le (by rw [prd_len hX]; exact Nat.le_refl _)] at hG
      exact ⟨_, rfl, q H' G as sm nG fr hG⟩
def spTold (K : PySem.W.Frag) (Ps : List Addr) : Sp := fun vs H Q _ => ∃ (p q : Addr) (old new : List Str), vs = [.ref p, .ref q] ∧ SqL K H p (old.map V.str) ∧ SqL K H q (new.map V.str) ∧ (∀ a ∈ old, wordB a = true) ∧ (∀ a ∈ new, wordB a = true) ∧ old.length ≤ 120 ∧ new.length ≤ 120 ∧ Tb Ps H ∧
  ∀ (H' : Hp) (R : Addr) (xs : List V), Kp Ps H H' → H R = none → H' R = some (.lst xs) → RowsAt K H' xs (toldRows old new) → Q (.ref R) H'
/-- the rows of the first stretches, and of the first kinds of the next -/
def rowsUp (gs : List (List Stp)) (i j : Nat) : List RowD := (gs.take i).flatMap rowsG ++ (match gs[i]? with | some g => (plainK.take j).flatMap (rowsK g) | none => [])
theorem rowsUp_zero (gs : List (List Stp)) (i : Nat) : rowsUp gs i 0 = (gs.take i).flatMap rowsG := by
  unfold rowsUp
  cases gs[i]? with
  | none => exact List.append_nil _
  | some g => exact List.append_nil _
theorem rowsUp_three {gs : List (List Stp)} {i : Nat} {g : List Stp} (h : gs[i]? = some g) : rowsUp gs i 3 = (gs.take (i + 1)).flatMap rowsG := by
  unfold rowsUp
  rw [h, take_snoc h, List.flatMap_append]
  show _ ++ plainK.flatMap (rowsK g) = _ ++ (rowsG g ++ [])
  rw [List.append_nil]
  rfl
theorem rowsUp_succ {gs : List (List Stp)} {i j : Nat} {g : List Stp} {k : Str} (h : gs[i]? = some g) (hk : plainK[j]? = some k) : rowsUp gs i (j + 1) = rowsUp gs i j ++ rowsK g k := by
  unfold rowsUp
  rw [h]
  show _ ++ (plainK.take (j + 1)).flatMap (rowsK g) = _ ++ (plainK.take j).flatMap (rowsK g) ++ rowsK g k
  rw [take_snoc hk, List.flatMap_append, List.append_assoc]
  show _ ++ (_ ++ (rowsK g k ++ [])) = _
  rw [List.append_nil]
theorem rowsK_len (g : List Stp) (k : Str) : (rowsK g k).length ≤ 1 := by
  unfold rowsK
  split
  · exact Nat.zero_le _
  · exact Nat.le_refl _
theorem rowsG_len (g : List Stp) : (rowsG g).length ≤ 3 := by
  have h1 := rowsK_len g "keep"
  have h2 := rowsK_len g "cut"
  have h3 := rowsK_len g "put"
  show (rowsK g "keep" ++ (rowsK g "cut" ++ (rowsK g "put" ++ []))).length ≤ 3
  rw [List.length_append, List.length_append, List.length_append, List.length_nil]
  omega
theorem rowsUp_len (gs : List (List Stp)) (i j : Nat) : (rowsUp gs i j).length ≤ 3 * gs.length + j := by
  have key : ∀ l : List (List Stp), (l.flatMap rowsG).length ≤ 3 * l.length := fun l => by
    induction l with
    | nil => exact Nat.le_refl _
    | cons a r ih =>
      rw [List.flatMap_cons, List.length_append, List.length_cons]
      have := rowsG_len a
      omega
  have key2 : ∀ (g : List Stp) (l : List Str), (l.flatMap (rowsK g)).length ≤ l.length := fun g l => by
    induction l with
    | nil => exact Nat.le_refl _
    | cons a r ih =>
      rw [List.flatMap_cons, List.length_append, List.length_cons]
      have := rowsK_len g a
      omega
  have h1 := key (gs.take i)
  rw [List.length_take] at h1
  unfold rowsUp
  rw [List.length_append]
  split
  · next g _ =>
    have h2 := key2 g (plainK.take j)
    rw [List.length_take] at h2
    omega
  · rw [List.length_nil]
    omega
theorem ok_told {Ps : List Addr} {f fS fG : Addr} {fd fdS fdG : FuncData} (F : FnP K "told" sTold f fd)
    (GS : FnOk P w K mg base (L2.CX P w) 7 fS fdS ["old", "new"] (spSteps K Ps)) (kS : PySem.W.keepIn K (.ref fS) = true) (bS : Binds K fdS ["old", "new"] []) (gS : mg "steps_between" = some (.ref fS))
    (GG : FnOk P w K mg base (L2.CX P w) 1 fG fdG ["steps"] (spStretches K)) (kG : PySem.W.keepIn K (.ref fG) = true) (bG : Binds K fdG ["steps"] []) (gG : mg "stretches_of" = some (.ref fG))
    (mL : mg "len" = none) (mT : mg "tuple" = none) : FnOk P w K mg base (L2.CX P w) 8 f fd ["old", "new"] (spTold K Ps) := by
  refine F.ok scTold (fun vs H Q E h => ?_) (fun cdv A outer s H vs Q E hr h => ?_)
  · obtain ⟨p, q, old, new, rfl, _⟩ := h
    rfl
  · obtain ⟨p, r, old, new, rfl, hp, hq, wO, wN, lO, lN, ht, q⟩ := h
    have r1 : Room 1 (A.deeper (envOfC "told" (defScope sTold) s.heap.objs.size f cdv)) := hr.mono (by decide)
    refine ⟨_, pss_cons (ps_set (i := 2) scTold.nd rfl (.inl rfl) (pe_lst pa_nil))
      (pss_cons (ps_for (passes_of rfl) rfl (pi_list (pe_call GG r1 (by rfl) gG kG bG .nil passL (pa_cons (pe_call GS hr (by rfl) gS kS bS .nil passL (pa_cons (pv 0) (pa_cons (pv 1) pa_nil))) pa_nil))) (pg_name (i := 3) scTold.nd rfl (.inl rfl))
        (pss_one (ps_for (passes_of rfl) rfl (pi_tup (pe_tup (pa_cons pe_str (pa_cons pe_str (pa_cons pe_str pa_nil))))) (pg_name (i := 4) scTold.nd rfl (.inr rfl))
          (pss_cons (ps_setLc (i := 5) (own := [("kind", 6), ("word", 7)]) (g := gTup K 2 (gCons (gName 6) (gCons (gName 7) gNil))) rfl scTold.nd rfl rfl (sw_true rfl rfl rfl (by decide +kernel)) (pi_list (pv 3)) (blkOk_by (N := ["old", "new", "rows", "stretch", "row_kind", "words", "kind", "word"]) (sc := defScope sTold) (by decide +kernel))
              (fun _ _ _ _ _ => pg_tup rfl (pgs_cons (pg_name (i := 6) scTold.nd rfl (Or.inl rfl)) (pgs_cons (pg_name (i := 7) scTold.nd rfl (Or.inl rfl)) pgs_nil))) (fun _ _ _ _ _ => pts_one (pt_cmpR op_eq (pv 6) (pv 4) (nomark _))) (fun _ _ _ _ _ => pv 7))
          (pss_one (ps_if (pt_cmpR op_gt (pe_callB call_len_seq (by rfl) mL PySem.boot_len (pa_cons (pv 5) pa_nil)) pe_int (nomark _))
            (pss_one (ps_expr (pe_bm PySem.F.plainAttrs_list PySem.F.slot_list_append PySem.F.type_list_append mt_append (pv 2) (pa_cons (pe_tup (pa_cons (pv 4) (pa_cons pe_int (pa_cons (pe_callTy call_tuple_of (by rfl) mT (by decide +kernel) (pa_cons (pv 5) pa_nil)) pa_nil)))) pa_nil)))) pss_nil))))))
      (pss_one (ps_ret (pv 2)))), ?_⟩
    refine ⟨by show 0 ≤ sizeLine; decide, fun R nR => ?_⟩
    have u0 := same_upd nR (o := .lst [])
    have t0 := ht.same u0
    refine ⟨_, rfl, _, rfl, p, r, old, new, rfl, u0.seq hp, u0.seq hq, wO, wN, lO, lN, t0, fun H1 S xs0 k1 nS hS hX => ?_⟩
    have hgl := goS_len old new
    have hR1 : SqL K H1 R [] := k1.seq t0 (.inl (.inl upd_same))
    have kR : Kp Ps H H1 := (Kp.same ht u0).trans k1
    have hR1' : H1 R = some (.lst []) := k1.2 R _ (t0.notin upd_same fun ps z => by cases z) upd_same
    refine ⟨S, xs0, _, rfl, hS, hX, by omega, fun H2 G as s2 nG fr hG => ?_⟩
    have hR2 := s2 _ _ hR1'
    have hGR : G ≠ R := fun z => by
      subst z
      rw [hR1'] at nG
      cases nG
    have haR : ∀ a ∈ as, a ≠ R := fun a ha z => by
      have := fr a ha
      rw [z, hR1'] at this
      cases this
    have kp2 := kR.trans (Kp.same kR.1 s2)
    have gok := told_ok wO wN
    have gflat := grp_flat (goS old new)
    have glen := grp_len (goS old new)
    have gstp : ∀ st ∈ (grpL (goS old new)).1, ∀ x ∈ st, StpOk x := fun st hst x hx => goS_ok old new wO wN x (by
      rw [← gflat.1]
      exact List.mem_flatten.mpr ⟨st, hst, hx⟩)
    have hq2 : ∀ H' xs, Kp Ps H H' → H' R = some (.lst xs) → RowsAt K H' xs ((grpL (goS old new)).1.flatMap rowsG) → Q (.ref R) H' := fun H' xs k h1 h2 => q H' R xs k nR h1 h2
    generalize (grpL (goS old new)).1 = gs at hG gflat glen gstp hq2
    have gsl : gs.length ≤ 240 := by omega
    refine ⟨G, rfl, ⟨_, .inl (.inl hG.top)⟩, for_list (xs := as.map V.ref) (fun i σ' H' => ∃ (xs : List V) (y3 y4 y5 : Option V), σ' = [some (.ref p), some (.ref r), some (.ref R), y3, y4, y5, none, none] ∧ Kp Ps H H' ∧ (∀ b o, b ≠ R → H2 b = some o → H' b = some o) ∧ H' R = some (.lst xs) ∧ RowsAt K H' xs (rowsUp gs i 0)) ⟨[], none, none, none, rfl, kp2, fun b o _ e => e, hR2, ?_⟩ (fun i σ' H' _ hp => ?_) (fun i v σ' H' hx hp => ?_) (fun σ' H' hp => ?_)⟩
    · rw [rowsUp_zero]
      exact ⟨rfl, fun i v e => by cases e⟩
    · obtain ⟨xs, y3, y4, y5, _, _, sb, _⟩ := hp
      exact .inl (.inl (sb _ _ hGR hG.top))
    · obtain ⟨xs, y3, y4, y5, rfl, kp3, sb3, hR3, hX3⟩ := hp
      rw [List.getElem?_map] at hx
      obtain ⟨a, ha, rfl⟩ := Option.map_eq_some_iff.mp hx
      have hal := (List.getElem?_eq_some_iff.mp ha).1
      have hgi : i < gs.length := by
        rw [← hG.len]
        exact hal
      obtain ⟨g, hg⟩ : ∃ g, gs[i]? = some g := ⟨_, List.getElem?_eq_getElem hgi⟩
      obtain ⟨ys, hA, hY⟩ := hG.at_ i a g ha hg
      have hgm := List.mem_of_getElem? hg
      have gl : g.length ≤ 240 := by
        have := glen.2 g hgm
        omega
      have haR' := haR a (List.mem_of_getElem? ha)
      refine ⟨by show 3 ≤ sizeLine; decide, fun T3 n3 => ?_⟩
      have u3 := same_upd n3 (o := .tup [.str "keep", .str "cut", .str "put"])
      refine ⟨T3, rfl, ⟨_, .inl (.inl upd_same)⟩, for_tup (xs := plainK.map V.str) (fun j σ' H' => ∃ (xs : List V) (y4 y5 : Option V), σ' = [some (.ref p), some (.ref r), some (.ref R), some (.ref a), y4, y5, none, none] ∧ Kp Ps H H' ∧ (∀ b o, b ≠ R → H2 b = some o → H' b = some o) ∧ H' T3 = some (.tup (plainK.map V.str)) ∧ H' R = some (.lst xs) ∧ RowsAt K H' xs (rowsUp gs i j)) ⟨xs, y4, y5, rfl, kp3.trans (Kp.same kp3.1 u3), fun b o n e => u3 _ _ (sb3 b o n e), upd_same, u3 _ _ hR3, hX3.same u3⟩ (fun j σ' H' _ hp => ?_) (fun j x σ' H' hx hp => ?_) (fun σ' H' hp => ?_)⟩
      · obtain ⟨xs, y4, y5, _, _, _, h, _⟩ := hp
        exact .inl (.inl h)
      · obtain ⟨xs, y4, y5, rfl, kp4, sb4, h34, hR4, hX4⟩ := hp
        rw [List.getElem?_map] at hx
        obtain ⟨k, hk, rfl⟩ := Option.map_eq_some_iff.mp hx
        have hA4 := sb4 _ _ haR' hA
        have hY4 : StpsAt H' ys g := by
          have : ∀ {xs : List V} {ss : List Stp}, StpsAt H2 xs ss → StpsAt H' xs ss := fun {xs ss} h => by
            unfold StpsAt at h ⊢
            induction h with
            | nil => exact .nil
            | cons h t ih =>
              obtain ⟨T, e, h1⟩ := h
              exact .cons ⟨T, e, sb4 _ _ (fun z => by subst z; rw [hR2] at h1; cases h1) h1⟩ ih
          exact this hY
        refine ⟨_, rfl, a, rfl, ⟨_, .inl (.inl hA4)⟩, fun D nD => ?_⟩
        refine lc_list (K := K) (a := a) (xs := ys) (fun m H3 => Same H' H3 ∧ H3 D = some (.lst ((wordsK k (g.take m)).map V.str))) ⟨same_upd nD, upd_same⟩ (fun m H3 _ hP => hP.1.seq (.inl (.inl hA4))) (fun m v H3 hv hP => ?_) (fun H3 hP => ?_)
        · obtain ⟨sm, hD⟩ := hP
          obtain ⟨x, hx2, T, rfl, hT⟩ := prd_at (hY4.same sm) hv
          have ek : wordsK k (g.take (m + 1)) = if x.1 = k then wordsK k (g.take m) ++ [x.2] else wordsK k (g.take m) := by rw [take_snoc hx2, wordsK_snoc]
          refine ⟨T, _, rfl, .inl (.inl hT), rfl, _, _, rfl, _, _, rfl, rfl, rfl, _, rfl, _, rfl, rfl, _, rfl, ite2 (fun e => ?_) (fun e => ?_)⟩
          · have e1 : x.1 = k := V.str.inj (of_decide_eq_true e)
            rw [if_pos e1] at ek
            refine ⟨_, rfl, _, hD, ?_, fun b o h => ?_, ?_⟩
            · rw [List.length_map]
              have h1 := wordsK_len k (g.take m)
              rw [List.length_take] at h1
              exact Nat.lt_of_le_of_lt (show _ ≤ 240 by omega) (by decide)
            · rw [upd_ne (ne_of_none h nD)]
              exact sm b o h
            · rw [upd_same, ek, List.map_append]
              rfl
          · have e1 : x.1 ≠ k := fun z => e (decide_eq_true (congrArg V.str z))
            rw [if_neg e1] at ek
            exact ⟨sm, by rw [ek]; exact hD⟩
        · obtain ⟨sm, hD⟩ := hP
          rw [List.take_of_length_le (by rw [prd_len hY4]; exact Nat.le_refl _)] at hD
          have kp5 := kp4.trans (Kp.same kp4.1 sm)
          have sb5 : ∀ b o, b ≠ R → H2 b = some o → H3 b = some o := fun b o n e => sm _ _ (sb4 b o n e)
          have hR5 := sm _ _ hR4
          have hX5 := hX4.same sm
          have h35 := sm _ _ h34
          have eU := rowsUp_succ (j := j) hg hk
          refine ⟨_, rfl, D, _, rfl, .inl (.inl (.inl hD)), _, _, rfl, rfl, _, rfl, ite2 (fun e => ?_) (fun e => ?_)⟩
          · have hne : wordsK k g ≠ [] := fun z => by
              have h1 := of_decide_eq_true e
              rw [z] at h1
              exact absurd h1 (by decide)
            have eK : rowsK g k = [⟨k, 0, wordsK k g⟩] := by
              unfold rowsK
              rw [if_neg hne]
            have xl : xs.length < sizeLine := by
              have h1 := rowsUp_len gs i j
              rw [hX5.1]
              have hj : j < 3 := (List.getElem?_eq_some_iff.mp hk).1
              exact Nat.lt_of_le_of_lt (show _ ≤ 1000 by omega) (by decide)
            refine ⟨_, rfl, .inl ⟨rfl, _, .inl (.inl hR5)⟩, _, rfl, _, rfl, D, _, rfl, .inl ⟨.inl (.inl hD), fun W nW => ?_⟩⟩
            have u1 := same_upd nW (o := .tup ((wordsK k g).map V.str))
            refine ⟨by show 3 ≤ sizeLine; decide, fun T nT => ?_⟩
            have u2 := same_upd nT (o := .tup [.str k, .int 0, .ref W])
            have u12 := u1.trans u2
            have hR6 := u12 _ _ hR5
            refine ⟨R, _, _, rfl, rfl, hR6, xl, ?_⟩
            have hT : H3 T = none := u1.free nT
            have row : RowAt K (upd (upd H3 W (.tup ((wordsK k g).map V.str))) T (.tup [.str k, .int 0, .ref W])) (.ref T) ⟨k, 0, wordsK k g⟩ := ⟨T, W, rfl, .inl (.inl upd_same), sameT u2 (.inl (.inl upd_same))⟩
            refine ⟨_, _, _, rfl, Kp.set ht (kp5.trans (Kp.same kp5.1 u12)) nR, fun b o n e => ?_, ?_, upd_same, ?_⟩
            · rw [upd_ne n]
              exact u12 _ _ (sb5 b o n e)
            · rw [upd_ne fun z => by subst z; rw [hR5] at h35; cases h35]
              exact u12 _ _ h35
            · rw [eU, eK]
              exact RowsAt.set (noTup hR6) ((hX5.same u12).snoc row)
          · have hnil : wordsK k g = [] := by
              have h1 : ¬ (((wordsK k g).map V.str).length : Int) > 0 := fun z => e (decide_eq_true z)
              rw [List.length_map] at h1
              exact List.length_eq_zero_iff.mp (by omega)
            have eK : rowsK g k = [] := by
              unfold rowsK
              rw [if_pos hnil]
            refine ⟨xs, _, _, rfl, kp5, sb5, h35, hR5, ?_⟩
            rw [eU, eK, List.append_nil]
            exact hX5
      · obtain ⟨xs, y4, y5, rfl, kp4, sb4, h34, hR4, hX4⟩ := hp
        refine ⟨xs, _, _, _, rfl, kp4, sb4, hR4, ?_⟩
        rw [rowsUp_zero]
        have hX4 : RowsAt K H' xs (rowsUp gs i 3) := hX4
        rw [rowsUp_three hg] at hX4
        exact hX4
    · obtain ⟨xs, y3, y4, y5, rfl, kp3, sb3, hR3, hX3⟩ := hp
      refine ⟨_, rfl, hq2 H' xs kp3 hR3 ?_⟩
      rw [rowsUp_zero, List.take_of_length_le (by rw [List.length_map, hG.len]; exact Nat.le_refl _)] at hX3
      exact hX3
end
/-! ### told: its rows' words are tracked -/
section
variable {P : Program} {w : World} {K : PySem.W.Frag} {mg : Str → Option Value} {base : Heap}
def spToldT (K : PySem.W.Frag) (Ps : List Addr) : Sp := fun vs H Q _ => ∃ (p q : Addr) (old new : List Str), vs = [.ref p, .ref q] ∧ SqL K H p (old.map V.str) ∧ SqL K H q (new.map V.str) ∧ (∀ a ∈ old, wordB a = true) ∧ (∀ a ∈ new, wordB a = true) ∧ old.length ≤ 120 ∧ new.length ≤ 120 ∧ Tb Ps H ∧
  ∀ (H' : Hp) (R : Addr) (xs : List V), Kp Ps H H' → H R = none → H' R = some (.lst xs) → RowsT K H' xs (toldRows old new) → Q (.ref R) H'
theorem ok_toldT {Ps : List Addr} {f fS fG : Addr} {fd fdS fdG : FuncData} (F : FnP K "told" sTold f fd)
    (GS : FnOk P w K mg base (L2.CX P w) 7 fS fdS ["old", "new"] (spSteps K Ps)) (kS : PySem.W.keepIn K (.ref fS) = true) (bS : Binds K fdS ["old", "new"] []) (gS : mg "steps_between" = some (.ref fS))
    (GG : FnOk P w K mg base (L2.CX P w) 1 fG fdG ["steps"] (spStretches K)) (kG : PySem.W.keepIn K (.ref fG) = true) (bG : Binds K fdG ["steps"] []) (gG : mg "stretches_of" = some (.ref fG))
    (mL : mg "len" = none) (mT : mg "tuple" = none) : FnOk P w K mg base (L2.CX P w) 8 f fd ["old", "new"] (spToldT K Ps) := by
  refine F.ok scTold (fun vs H Q E h => ?_) (fun cdv A outer s H vs Q E hr h => ?_)
  · obtain ⟨p, q, old, new, rfl, _⟩ := h
    rfl
  · obtain ⟨p, r, old, new, rfl, hp, hq, wO, wN, lO, lN, ht, q⟩ := h
    have r1 : Room 1 (A.deeper (envOfC "told" (defScope sTold) s.heap.objs.size f cdv)) := hr.mono (by decide)
    refine ⟨_, pss_cons (ps_set (i := 2) scTold.nd rfl (.inl rfl) (pe_lst pa_nil))
      (pss_cons (ps_for (passes_of rfl) rfl (pi_list (pe_call GG r1 (by rfl) gG kG bG .nil passL (pa_cons (pe_call GS hr (by rfl) gS kS bS .nil passL (pa_cons (pv 0) (pa_cons (pv 1) pa_nil))) pa_nil))) (pg_name (i := 3) scTold.nd rfl (.inl rfl))
        (pss_one (ps_for (passes_of rfl) rfl (pi_tup (pe_tup (pa_cons pe_str (pa_cons pe_str (pa_cons pe_str pa_nil))))) (pg_name (i := 4) scTold.nd rfl (.inr rfl))
          (pss_cons (ps_setLc (i := 5) (own := [("kind", 6), ("word", 7)]) (g := gTup K 2 (gCons (gName 6) (gCons (gName 7) gNil))) rfl scTold.nd rfl rfl (sw_true rfl rfl rfl (by decide +kernel)) (pi_list (pv 3)) (blkOk_by (N := ["old", "new", "rows", "stretch", "row_kind", "words", "kind", "word"]) (sc := defScope sTold) (by decide +kernel))
              (fun _ _ _ _ _ => pg_tup rfl (pgs_cons (pg_name (i := 6) scTold.nd rfl (Or.inl rfl)) (pgs_cons (pg_name (i := 7) scTold.nd rfl (Or.inl rfl)) pgs_nil))) (fun _ _ _ _ _ => pts_one (pt_cmpR op_eq (pv 6) (pv 4) (nomark _))) (fun _ _ _ _ _ => pv 7))
          (pss_one (ps_if (pt_cmpR op_gt (pe_callB call_len_seq (by rfl) mL PySem.boot_len (pa_cons (pv 5) pa_nil)) pe_int (nomark _))
            (pss_one (ps_expr (pe_bm PySem.F.plainAttrs_list PySem.F.slot_list_append PySem.F.type_list_append mt_append (pv 2) (pa_cons (pe_tup (pa_cons (pv 4) (pa_cons pe_int (pa_cons (pe_callTy call_tuple_of (by rfl) mT (by decide +kernel) (pa_cons (pv 5) pa_nil)) pa_nil)))) pa_nil)))) pss_nil))))))
      (pss_one (ps_ret (pv 2)))), ?_⟩
    refine ⟨by show 0 ≤ sizeLine; decide, fun R nR => ?_⟩
    have u0 := same_upd nR (o := .lst [])
    have t0 := ht.same u0
    refine ⟨_, rfl, _, rfl, p, r, old, new, rfl, u0.seq hp, u0.seq hq, wO, wN, lO, lN, t0, fun H1 S xs0 k1 nS hS hX => ?_⟩
    have hgl := goS_len old new
    have hR1 : SqL K H1 R [] := k1.seq t0 (.inl (.inl upd_same))
    have kR : Kp Ps H H1 := (Kp.same ht u0).trans k1
    have hR1' : H1 R = some (.lst []) := k1.2 R _ (t0.notin upd_same fun ps z => by cases z) upd_same
    refine ⟨S, xs0, _, rfl, hS, hX, by omega, fun H2 G as s2 nG fr hG => ?_⟩
    have hR2 := s2 _ _ hR1'
    have hGR : G ≠ R := fun z => by
      subst z
      rw [hR1'] at nG
      cases nG
    have haR : ∀ a ∈ as, a ≠ R := fun a ha z => by
      have := fr a ha
      rw [z, hR1'] at this
      cases this
    have kp2 := kR.trans (Kp.same kR.1 s2)
    have gok := told_ok wO wN
    have gflat := grp_flat (goS old new)
    have glen := grp_len (goS old new)
    have gstp : ∀ st ∈ (grpL (goS old new)).1, ∀ x ∈ st, StpOk x := fun st hst x hx => goS_ok old new wO wN x (by
      rw [← gflat.1]
      exact List.mem_flatten.mpr ⟨st, hst, hx⟩)
    have hq2 : ∀ H' xs, Kp Ps H H' → H' R = some (.lst xs) → RowsT K H' xs ((grpL (goS old new)).1.flatMap rowsG) → Q (.ref R) H' := fun H' xs k h1 h2 => q H' R xs k nR h1 h2
    generalize (grpL (goS old new)).1 = gs at hG gflat glen gstp hq2
    have gsl : gs.length ≤ 240 := by omega
    refine ⟨G, rfl, ⟨_, .inl (.inl hG.top)⟩, for_list (xs := as.map V.ref) (fun i σ' H' => ∃ (xs : List V) (y3 y4 y5 : Option V), σ' = [some (.ref p), some (.ref r), some (.ref R), y3, y4, y5, none, none] ∧ Kp Ps H H' ∧ (∀ b o, b ≠ R → H2 b = some o → H' b = some o) ∧ H' R = some (.lst xs) ∧ RowsT K H' xs (rowsUp gs i 0)) ⟨[], none, none, none, rfl, kp2, fun b o _ e => e, hR2, ?_⟩ (fun i σ' H' _ hp => ?_) (fun i v σ' H' hx hp => ?_) (fun σ' H' hp => ?_)⟩
    · rw [rowsUp_zero]
      exact ⟨rfl, fun i v e => by cases e⟩
    · obtain ⟨xs, y3, y4, y5, _, _, sb, _⟩ := hp
      exact .inl (.inl (sb _ _ hGR hG.top))
    · obtain ⟨xs, y3, y4, y5, rfl, kp3, sb3, hR3, hX3⟩ := hp
      rw [List.getElem?_map] at hx
      obtain ⟨a, ha, rfl⟩ := Option.map_eq_some_iff.mp hx
      have hal := (List.getElem?_eq_some_iff.mp ha).1
      have hgi : i < gs.length := by
        rw [← hG.len]
        exact hal
      obtain ⟨g, hg⟩ : ∃ g, gs[i]? = some g := ⟨_, List.getElem?_eq_getElem hgi⟩
      obtain ⟨ys, hA, hY⟩ := hG.at_ i a g ha hg
      have hgm := List.mem_of_getElem? hg
      have gl : g.length ≤ 240 := by
        have := glen.2 g hgm
        omega
      have haR' := haR a (List.mem_of_getElem? ha)
      refine ⟨by show 3 ≤ sizeLine; decide, fun T3 n3 => ?_⟩
      have u3 := same_upd n3 (o := .tup [.str "keep", .str "cut", .str "put"])
      refine ⟨T3, rfl, ⟨_, .inl (.inl upd_same)⟩, for_tup (xs := plainK.map V.str) (fun j σ' H' => ∃ (xs : List V) (y4 y5 : Option V), σ' = [some (.ref p), some (.ref r), some (.ref R), some (.ref a), y4, y5, none, none] ∧ Kp Ps H H' ∧ (∀ b o, b ≠ R → H2 b = some o → H' b = some o) ∧ H' T3 = some (.tup (plainK.map V.str)) ∧ H' R = some (.lst xs) ∧ RowsT K H' xs (rowsUp gs i j)) ⟨xs, y4, y5, rfl, kp3.trans (Kp.same kp3.1 u3), fun b o n e => u3 _ _ (sb3 b o n e), upd_same, u3 _ _ hR3, hX3.same u3⟩ (fun j σ' H' _ hp => ?_) (fun j x σ' H' hx hp => ?_) (fun σ' H' hp => ?_)⟩
      · obtain ⟨xs, y4, y5, _, _, _, h, _⟩ := hp
        exact .inl (.inl h)
      · obtain ⟨xs, y4, y5, rfl, kp4, sb4, h34, hR4, hX4⟩ := hp
        rw [List.getElem?_map] at hx
        obtain ⟨k, hk, rfl⟩ := Option.map_eq_some_iff.mp hx
        have hA4 := sb4 _ _ haR' hA
        have hY4 : StpsAt H' ys g := by
          have : ∀ {xs : List V} {ss : List Stp}, StpsAt H2 xs ss → StpsAt H' xs ss := fun {xs ss} h => by
            unfold StpsAt at h ⊢
            induction h with
            | nil => exact .nil
            | cons h t ih =>
              obtain ⟨T, e, h1⟩ := h
              exact .cons ⟨T, e, sb4 _ _ (fun z => by subst z; rw [hR2] at h1; cases h1) h1⟩ ih
          exact this hY
        refine ⟨_, rfl, a, rfl, ⟨_, .inl (.inl hA4)⟩, fun D nD => ?_⟩
        refine lc_list (K := K) (a := a) (xs := ys) (fun m H3 => Same H' H3 ∧ H3 D = some (.lst ((wordsK k (g.take m)).map V.str))) ⟨same_upd nD, upd_same⟩ (fun m H3 _ hP => hP.1.seq (.inl (.inl hA4))) (fun m v H3 hv hP => ?_) (fun H3 hP => ?_)
        · obtain ⟨sm, hD⟩ := hP
          obtain ⟨x, hx2, T, rfl, hT⟩ := prd_at (hY4.same sm) hv
          have ek : wordsK k (g.take (m + 1)) = if x.1 = k then wordsK k (g.take m) ++ [x.2] else wordsK k (g.take m) := by rw [take_snoc hx2, wordsK_snoc]
          refine ⟨T, _, rfl, .inl (.inl hT), rfl, _, _, rfl, _, _, rfl, rfl, rfl, _, rfl, _, rfl, rfl, _, rfl, ite2 (fun e => ?_) (fun e => ?_)⟩
          · have e1 : x.1 = k := V.str.inj (of_decide_eq_true e)
            rw [if_pos e1] at ek
            refine ⟨_, rfl, _, hD, ?_, fun b o h => ?_, ?_⟩
            · rw [List.length_map]
              have h1 := wordsK_len k (g.take m)
              rw [List.length_take] at h1
              exact Nat.lt_of_le_of_lt (show _ ≤ 240 by omega) (by decide)
            · rw [upd_ne (ne_of_none h nD)]
              exact sm b o h
            · rw [upd_same, ek, List.map_append]
              rfl
          · have e1 : x.1 ≠ k := fun z => e (decide_eq_true (congrArg V.str z))
            rw [if_neg e1] at ek
            exact ⟨sm, by rw [ek]; exact hD⟩
        · obtain ⟨sm, hD⟩ := hP
          rw [List.take_of_length_le (by rw [prd_len hY4]; exact Nat.le_refl _)] at hD
          have kp5 := kp4.trans (Kp.same kp4.1 sm)
          have sb5 : ∀ b o, b ≠ R → H2 b = some o → H3 b = some o := fun b o n e => sm _ _ (sb4 b o n e)
          have hR5 := sm _ _ hR4
          have hX5 := hX4.same sm
          have h35 := sm _ _ h34
          have eU := rowsUp_succ (j := j) hg hk
          refine ⟨_, rfl, D, _, rfl, .inl (.inl (.inl hD)), _, _, rfl, rfl, _, rfl, ite2 (fun e => ?_) (fun e => ?_)⟩
          · have hne : wordsK k g ≠ [] := fun z => by
              have h1 := of_decide_eq_true e
              rw [z] at h1
              exact absurd h1 (by decide)
            have eK : rowsK g k = [⟨k, 0, wordsK k g⟩] := by
              unfold rowsK
              rw [if_neg hne]
            have xl : xs.length < sizeLine := by
              have h1 := rowsUp_len gs i j
              rw [hX5.1]
              have hj : j < 3 := (List.getElem?_eq_some_iff.mp hk).1
              exact Nat.lt_of_le_of_lt (show _ ≤ 1000 by omega) (by decide)
            refine ⟨_, rfl, .inl ⟨rfl, _, .inl (.inl hR5)⟩, _, rfl, _, rfl, D, _, rfl, .inl ⟨.inl (.inl hD), fun W nW => ?_⟩⟩
            have u1 := same_upd nW (o := .tup ((wordsK k g).map V.str))
            refine ⟨by show 3 ≤ sizeLine; decide, fun T nT => ?_⟩
            have u2 := same_upd nT (o := .tup [.str k, .int 0, .ref W])
            have u12 := u1.trans u2
            have hR6 := u12 _ _ hR5
            refine ⟨R, _, _, rfl, rfl, hR6, xl, ?_⟩
            have hT : H3 T = none := u1.free nT
            have row : RowT K (upd (upd H3 W (.tup ((wordsK k g).map V.str))) T (.tup [.str k, .int 0, .ref W])) (.ref T) ⟨k, 0, wordsK k g⟩ := ⟨T, W, rfl, .inl (.inl upd_same), u2 _ _ upd_same⟩
            refine ⟨_, _, _, rfl, Kp.set ht (kp5.trans (Kp.same kp5.1 u12)) nR, fun b o n e => ?_, ?_, upd_same, ?_⟩
            · rw [upd_ne n]
              exact u12 _ _ (sb5 b o n e)
            · rw [upd_ne fun z => by subst z; rw [hR5] at h35; cases h35]
              exact u12 _ _ h35
            · rw [eU, eK]
              exact RowsT.set (noTup hR6) ((hX5.same u12).app (RowsT.one row))
          · have hnil : wordsK k g = [] := by
              have h1 : ¬ (((wordsK k g).map V.str).length : Int) > 0 := fun z => e (decide_eq_true z)
              rw [List.length_map] at h1
              exact List.length_eq_zero_iff.mp (by omega)
            have eK : rowsK g k = [] := by
              unfold rowsK
              rw [if_pos hnil]
            refine ⟨xs, _, _, rfl, kp5, sb5, h35, hR5, ?_⟩
            rw [eU, eK, List.append_nil]
            exact hX5
      · obtain ⟨xs, y4, y5, rfl, kp4, sb4, h34, hR4, hX4⟩ := hp
        refine ⟨xs, _, _, _, rfl, kp4, sb4, hR4, ?_⟩
        rw [rowsUp_zero]
        have hX4 : RowsT K H' xs (rowsUp gs i 3) := hX4
        rw [rowsUp_three hg] at hX4
        exact hX4
    · obtain ⟨xs, y3, y4, y5, rfl, kp3, sb3, hR3, hX3⟩ := hp
      refine ⟨_, rfl, hq2 H' xs kp3 hR3 ?_⟩
      rw [rowsUp_zero, List.take_of_length_le (by rw [List.length_map, hG.len]; exact Nat.le_refl _)] at hX3
      exact hX3
end
/-! ### the told one: its words, its rows side by side -/
def sideS (ks : List Str) (ss : List Stp) : List Str := (ss.filter fun x : Stp => decide (x.1 ∈ ks)).map (·.2)
theorem sideS_cons (ks : List Str) (x : Stp) (ss : List Stp) : sideS ks (x :: ss) = if x.1 ∈ ks then x.2 :: sideS ks ss else sideS ks ss := by
  unfold sideS
  by_cases h : x.1 ∈ ks
  · rw [if_pos h, List.filter_cons_of_pos (p := fun x : Stp => decide (x.1 ∈ ks)) (decide_eq_true h)]
    rfl
  · rw [if_neg h, List.filter_cons_of_neg (by simpa using h)]
theorem sideS_append (ks : List Str) (a b : List Stp) : sideS ks (a ++ b) = sideS ks a ++ sideS ks b := by
  unfold sideS
  rw [List.filter_append, List.map_append]
theorem sideS_flat (ks : List Str) (G : List (List Stp)) : sideS ks G.flatten = G.flatMap (sideS ks) := by
  induction G with
  | nil => rfl
  | cons a r ih => rw [List.flatten_cons, sideS_append, ih, List.flatMap_cons]
theorem in_old : (("keep" : Str) ∈ oldK) ∧ (("cut" : Str) ∈ oldK) ∧ ¬ (("put" : Str) ∈ oldK) := ⟨by decide +kernel, by decide +kernel, by decide +kernel⟩
theorem in_new : (("keep" : Str) ∈ newK) ∧ ¬ (("cut" : Str) ∈ newK) ∧ (("put" : Str) ∈ newK) := ⟨by decide +kernel, by decide +kernel, by decide +kernel⟩
theorem goS_sides : ∀ (l m : List Str), sideS oldK (goS l m) = l ∧ sideS newK (goS l m) = m
  | [], [] => by
    rw [goS]
    exact ⟨rfl, rfl⟩
  | [], b :: m => by
    rw [goS_put, sideS_cons, sideS_cons, if_neg in_old.2.2, if_pos in_new.2.2, (goS_sides [] m).1, (goS_sides [] m).2]
    exact ⟨rfl, rfl⟩
  | a :: l, [] => by
    rw [goS_cut, sideS_cons, sideS_cons, if_pos in_old.2.1, if_neg in_new.2.1, (goS_sides l []).1, (goS_sides l []).2]
    exact ⟨rfl, rfl⟩
  | a :: l, b :: m => by
    rw [goS_cons]
    split
    · next h =>
      subst h
      rw [sideS_cons, sideS_cons, if_pos in_old.1, if_pos in_new.1, (goS_sides l m).1, (goS_sides l m).2]
      exact ⟨rfl, rfl⟩
    · split
      · rw [sideS_cons, sideS_cons, if_pos in_old.2.1, if_neg in_new.2.1, (goS_sides l (b :: m)).1, (goS_sides l (b :: m)).2]
        exact ⟨rfl, rfl⟩
      · rw [sideS_cons, sideS_cons, if_neg in_old.2.2, if_pos in_new.2.2, (goS_sides (a :: l) m).1, (goS_sides (a :: l) m).2]
        exact ⟨rfl, rfl⟩
termination_by l m => l.length + m.length
theorem prd_len_snoc {α β : Type} {a : List α} {x : α} {b : List β} {y : β} (h : (a ++ [x]).length = (b ++ [y]).length) : a.length = b.length := by
  rw [List.length_append, List.length_append] at h
  exact Nat.succ.inj h
theorem prd_split {α β : Type} {F : α → β → Prop} : ∀ {a : List α} {b : List β} {x : α} {y : β}, a.length = b.length → Paired F (a ++ [x]) (b ++ [y]) → Paired F a b ∧ F x y
  | [], [], _, _, _, .cons h _ => ⟨.nil, h⟩
  | _ :: _, _ :: _, _, _, e, .cons h t => let ⟨p, q⟩ := prd_split (Nat.succ.inj e) t; ⟨.cons h p, q⟩
/-- groups: of one sort each, by turns -/
def Unif (st : List Stp) (b : Bool) : Prop := st ≠ [] ∧ ∀ x ∈ st, keptB x = b
def AltL : List Bool → Prop
  | [] => True
  | [_] => True
  | b :: c :: l => b ≠ c ∧ AltL (c :: l)
theorem altL_snoc : ∀ (bs : List Bool) (c : Bool), AltL bs → (bs.getLast? = some (!c) ∨ bs = []) → AltL (bs ++ [c])
  | [], _, _, _ => trivial
  | [b], c, _, h => by
    rcases h with h | h
    · cases h
      exact ⟨by cases c <;> decide, trivial⟩
    · cases h
  | b :: d :: l, c, ⟨h1, h2⟩, h => by
    refine ⟨h1, altL_snoc (d :: l) c h2 (.inl ?_)⟩
    rcases h with h | h
    · rw [List.getLast?_cons_cons] at h
      exact h
    · cases h
theorem grp_unif : ∀ ss : List Stp, ∃ bs : List Bool, Paired Unif (grpL ss).1 bs ∧ AltL bs ∧ (bs = [] ∨ bs.getLast? = some (grpL ss).2) := by
  refine snocInd ⟨[], .nil, trivial, .inl rfl⟩ fun ss x ih => ?_
  obtain ⟨bs, h1, h2, h3⟩ := ih
  rw [grpL_snoc]
  generalize grpL ss = gf at h1 h3
  obtain ⟨gs, fl⟩ := gf
  by_cases hc : gs = [] ∨ keptB x ≠ fl
  · rw [addG_new hc]
    refine ⟨bs ++ [keptB x], prd_app h1 (.cons ⟨List.cons_ne_nil _ _, fun y hy => ?_⟩ .nil), altL_snoc _ _ h2 ?_, .inr ?_⟩
    · rw [List.mem_singleton.mp hy]
    · rcases h3 with h3 | h3
      · exact .inr h3
      · rcases hc with hc | hc
        · right
          have := prd_len h1
          rw [hc] at this
          exact List.length_eq_zero_iff.mp this.symm
        · left
          rw [h3]
          have : ∀ a b : Bool, a ≠ b → b = !a := by decide
          exact congrArg some (this _ _ hc)
    · rw [List.getLast?_concat]
      rfl
  · have hne : gs ≠ [] := fun z => hc (.inl z)
    have hk : keptB x = fl := Classical.byContradiction fun z => hc (.inr z)
    obtain ⟨gs', g, rfl⟩ : ∃ gs' g, gs = gs' ++ [g] := ⟨_, _, (List.dropLast_concat_getLast hne).symm⟩
    rw [addG_old hc]
    have hb : bs ≠ [] := fun z => by
      have := prd_len h1
      rw [z, List.length_append] at this
      cases this
    obtain ⟨bs', b, rfl⟩ : ∃ bs' b, bs = bs' ++ [b] := ⟨_, _, (List.dropLast_concat_getLast hb).symm⟩
    have h3 : b = fl := by
      rcases h3 with h3 | h3
      · exact absurd h3 hb
      · rw [List.getLast?_concat] at h3
        exact Option.some.inj h3
    obtain ⟨p1, p2, p3⟩ := prd_split (prd_len_snoc (prd_len h1)) h1
    refine ⟨bs' ++ [b], prd_app p1 (.cons ⟨by simp, fun y hy => ?_⟩ .nil), h2, .inr ?_⟩
    · rcases List.mem_append.mp hy with hy | hy
      · exact p3 y hy
      · rw [List.mem_singleton.mp hy, h3, hk]
    · rw [List.getLast?_concat, h3, ← hk]
      rfl
theorem wordsOf_rowsK (ks : List Str) (st : List Stp) (k : Str) : wordsOf ks (rowsK st k) = if k ∈ ks then wordsK k st else [] := by
  unfold rowsK
  by_cases h : wordsK k st = []
  · rw [if_pos h, h]
    split <;> rfl
  · rw [if_neg h]
    have e := wordsOf_snoc ks [] ⟨k, 0, wordsK k st⟩
    rw [List.nil_append] at e
    rw [e]
    split
    · rfl
    · rfl
theorem kinds_of {x : Stp} (h : StpOk x) : x.1 = ("keep" : Str) ∨ x.1 = ("cut" : Str) ∨ x.1 = ("put" : Str) := by
  have h1 : x.1 ∈ (["keep", "cut", "put"] : List Str) := h.1
  rcases List.mem_cons.mp h1 with h | h
  · exact .inl h
  · rcases List.mem_cons.mp h with h | h
    · exact .inr (.inl h)
    · exact .inr (.inr (List.mem_singleton.mp h))
theorem keptB_iff {x : Stp} : keptB x = true ↔ x.1 = ("keep" : Str) := by
  unfold keptB
  exact ⟨of_decide_eq_true, decide_eq_true⟩
theorem ne_kinds : (("keep" : Str) ≠ "cut") ∧ (("keep" : Str) ≠ "put") ∧ (("cut" : Str) ≠ "put") := ⟨by decide +kernel, by decide +kernel, by decide +kernel⟩
theorem wordsK_none {k : Str} {st : List Stp} (h : ∀ x ∈ st, x.1 ≠ k) : wordsK k st = [] := by
  unfold wordsK
  rw [List.filter_eq_nil_iff.mpr fun x hx => by simpa using h x hx]
  rfl
theorem wordsK_all {k : Str} {st : List Stp} (h : ∀ x ∈ st, x.1 = k) : wordsK k st = st.map (·.2) := by
  unfold wordsK
  rw [List.filter_eq_self.mpr fun x hx => by simpa using h x hx]
theorem rowsG_true {st : List Stp} (h : Unif st true) : rowsG st = [⟨"keep", 0, st.map (·.2)⟩] ∧ st.map (·.2) ≠ [] := by
  have hk : ∀ x ∈ st, x.1 = ("keep" : Str) := fun x hx => keptB_iff.mp (h.2 x hx)
  have hne : st.map (·.2) ≠ [] := fun z => h.1 (List.map_eq_nil_iff.mp z)
  have e1 : rowsK st "keep" = [⟨"keep", 0, st.map (·.2)⟩] := by
    unfold rowsK
    rw [wordsK_all hk, if_neg hne]
  have e2 : rowsK st "cut" = [] := by
    unfold rowsK
    rw [wordsK_none (fun x hx z => ne_kinds.1 ((hk x hx).symm.trans z)), if_pos rfl]
  have e3 : rowsK st "put" = [] := by
    unfold rowsK
    rw [wordsK_none (fun x hx z => ne_kinds.2.1 ((hk x hx).symm.trans z)), if_pos rfl]
  refine ⟨?_, hne⟩
  show rowsK st "keep" ++ (rowsK st "cut" ++ (rowsK st "put" ++ [])) = _
  rw [e1, e2, e3]
  rfl
theorem rowsG_false {st : List Stp} (h : Unif st false) (ok : ∀ x ∈ st, StpOk x) : rowsG st = rowsK st "cut" ++ rowsK st "put" ∧ (wordsK "cut" st ≠ [] ∨ wordsK "put" st ≠ []) := by
  have hk : ∀ x ∈ st, x.1 ≠ ("keep" : Str) := fun x hx z => by
    have := h.2 x hx
    rw [keptB_iff.mpr z] at this
    cases this
  have e1 : rowsK st "keep" = [] := by
    unfold rowsK
    rw [wordsK_none hk, if_pos rfl]
  refine ⟨?_, ?_⟩
  · show rowsK st "keep" ++ (rowsK st "cut" ++ (rowsK st "put" ++ [])) = _
    rw [e1, List.append_nil]
    rfl
  · cases st with
    | nil => exact absurd rfl h.1
    | cons x r =>
      rcases kinds_of (ok x List.mem_cons_self) with e | e | e
      · exact absurd e (hk x List.mem_cons_self)
      · left
        unfold wordsK
        rw [List.filter_cons_of_pos (p := fun x : Stp => decide (x.1 = ("cut" : Str))) (decide_eq_true e)]
        exact List.cons_ne_nil _ _
      · right
        unfold wordsK
        rw [List.filter_cons_of_pos (p := fun x : Stp => decide (x.1 = ("put" : Str))) (decide_eq_true e)]
        exact List.cons_ne_nil _ _
theorem side_wordsK {ks : List Str} {k : Str} {st : List Stp} (h : ∀ x ∈ st, decide (x.1 ∈ ks) = decide (x.1 = k)) : sideS ks st = wordsK k st := by
  unfold sideS wordsK
  rw [List.filter_congr h]
theorem rowsG_side {st : List Stp} {b : Bool} (h : Unif st b) (ok : ∀ x ∈ st, StpOk x) : wordsOf oldK (rowsG st) = sideS oldK st ∧ wordsOf newK (rowsG st) = sideS newK st := by
  cases b with
  | true =>
    have hk : ∀ x ∈ st, x.1 = ("keep" : Str) := fun x hx => keptB_iff.mp (h.2 x hx)
    have key : ∀ ks : List Str, ("keep" : Str) ∈ ks → wordsOf ks (rowsG st) = sideS ks st := fun ks hks => by
      have e := wordsOf_snoc ks [] ⟨"keep", 0, st.map (·.2)⟩
      rw [List.nil_append] at e
      rw [(rowsG_true h).1, e, if_pos hks, side_wordsK (k := "keep") (fun x hx => by rw [hk x hx, decide_eq_true hks, decide_eq_true rfl]), wordsK_all hk]
      rfl
    exact ⟨key _ in_old.1, key _ in_new.1⟩
  | false =>
    have hk : ∀ x ∈ st, x.1 ≠ ("keep" : Str) := fun x hx z => by
      have := h.2 x hx
      rw [keptB_iff.mpr z] at this
      cases this
    rw [(rowsG_false h ok).1]
    constructor
    · rw [wordsOf_append, wordsOf_rowsK, wordsOf_rowsK, if_pos in_old.2.1, if_neg in_old.2.2, List.append_nil]
      refine (side_wordsK fun x hx => ?_).symm
      rcases kinds_of (ok x hx) with e | e | e
      · exact absurd e (hk x hx)
      · rw [e, decide_eq_true in_old.2.1, decide_eq_true rfl]
      · rw [e, decide_eq_false in_old.2.2, decide_eq_false ne_kinds.2.2.symm]
    · rw [wordsOf_append, wordsOf_rowsK, wordsOf_rowsK, if_neg in_new.2.1, if_pos in_new.2.2, List.nil_append]
      refine (side_wordsK fun x hx => ?_).symm
      rcases kinds_of (ok x hx) with e | e | e
      · exact absurd e (hk x hx)
      · rw [e, decide_eq_false in_new.2.1, decide_eq_false ne_kinds.2.2]
      · rw [e, decide_eq_true in_new.2.2, decide_eq_true rfl]
theorem grp_stp {l m : List Str} (h1 : ∀ a ∈ l, wordB a = true) (h2 : ∀ a ∈ m, wordB a = true) : ∀ st ∈ (grpL (goS l m)).1, ∀ x ∈ st, StpOk x := fun st hst x hx => goS_ok l m h1 h2 x (by
  rw [← (grp_flat (goS l m)).1]
  exact List.mem_flatten.mpr ⟨st, hst, hx⟩)
theorem told_sides {old new : List Str} (h1 : ∀ a ∈ old, wordB a = true) (h2 : ∀ a ∈ new, wordB a = true) : wordsOf oldK (toldRows old new) = old ∧ wordsOf newK (toldRows old new) = new := by
  obtain ⟨bs, u, _, _⟩ := grp_unif (goS old new)
  have ok := grp_stp h1 h2
  have fl := (grp_flat (goS old new)).1
  obtain ⟨s1, s2⟩ := goS_sides old new
  unfold toldRows
  rw [← fl, sideS_flat] at s1
  rw [← fl, sideS_flat] at s2
  generalize (grpL (goS old new)).1 = G at u ok s1 s2
  have key : ∀ {G : List (List Stp)} {bs : List Bool}, Paired Unif G bs → (∀ st ∈ G, ∀ x ∈ st, StpOk x) → wordsOf oldK (G.flatMap rowsG) = G.flatMap (sideS oldK) ∧ wordsOf newK (G.flatMap rowsG) = G.flatMap (sideS newK) := fun {G bs} u => by
    induction u with
    | nil => exact fun _ => ⟨rfl, rfl⟩
    | cons h t ih =>
      intro ok
      obtain ⟨i1, i2⟩ := ih fun st hst => ok st (List.mem_cons_of_mem _ hst)
      obtain ⟨j1, j2⟩ := rowsG_side h (ok _ List.mem_cons_self)
      rw [List.flatMap_cons, List.flatMap_cons, List.flatMap_cons, wordsOf_append, wordsOf_append, i1, i2, j1, j2]
      exact ⟨rfl, rfl⟩
  obtain ⟨k1, k2⟩ := key u ok
  exact ⟨k1.trans s1, k2.trans s2⟩
/-- which kinds may stand side by side -/
def nextB (k l : Str) : Bool := if k = ("keep" : Str) then decide (l ≠ ("keep" : Str)) else if k = ("cut" : Str) then decide (l ≠ ("cut" : Str)) else decide (l = ("keep" : Str))
def Chn : List RowD → Prop
  | [] => True
  | [_] => True
  | r :: s :: l => nextB r.kind s.kind = true ∧ Chn (s :: l)
theorem Chn.at_ : ∀ {l : List RowD}, Chn l → ∀ {i : Nat} {r s : RowD}, l[i]? = some r → l[i + 1]? = some s → nextB r.kind s.kind = true
  | [], _, _, _, _, h, _ => by cases h
  | [_], _, i, _, _, _, h => by cases i <;> cases h
  | a :: b :: l, ⟨h1, h2⟩, 0, r, s, e1, e2 => by
    cases e1
    cases e2
    exact h1
  | a :: b :: l, ⟨h1, h2⟩, i + 1, r, s, e1, e2 => Chn.at_ (l := b :: l) h2 (i := i) e1 e2
theorem told_next {old new : List Str} (h1 : ∀ a ∈ old, wordB a = true) (h2 : ∀ a ∈ new, wordB a = true) : Chn (toldRows old new) := by
  obtain ⟨bs, u, al, _⟩ := grp_unif (goS old new)
  have ok := grp_stp h1 h2
  unfold toldRows
  generalize (grpL (goS old new)).1 = G at u ok
  have key : ∀ {G : List (List Stp)} {bs : List Bool}, Paired Unif G bs → (∀ st ∈ G, ∀ x ∈ st, StpOk x) → AltL bs → Chn (G.flatMap rowsG) ∧ ∀ b bs', bs = b :: bs' → ∃ r l, G.flatMap rowsG = r :: l ∧ decide (r.kind = ("keep" : Str)) = b := fun {G bs} u => by
    induction u with
    | nil => exact fun _ _ => ⟨trivial, fun _ _ e => by cases e⟩
    | @cons st b G' bs' h t ih =>
      intro ok al
      have al' : AltL bs' := by
        cases bs' with
        | nil => trivial
        | cons c l => exact al.2
      obtain ⟨i1, i2⟩ := ih (fun s hs => ok s (List.mem_cons_of_mem _ hs)) al'
      -- the rest begins with the other sort
      have rest : G'.flatMap rowsG = [] ∨ ∃ r l, G'.flatMap rowsG = r :: l ∧ decide (r.kind = ("keep" : Str)) = !b := by
        cases bs' with
        | nil =>
          cases t
          exact .inl rfl
        | cons c l =>
          obtain ⟨r, l', e1, e2⟩ := i2 c l rfl
          refine .inr ⟨r, l', e1, ?_⟩
          have : ∀ a b : Bool, a ≠ b → b = !a := by decide
          rw [e2]
          exact this _ _ al.1
      rw [List.flatMap_cons]
      have one : ∀ (a : RowD), (∀ r : RowD, decide (r.kind = ("keep" : Str)) = (!b) → nextB a.kind r.kind = true) → Chn (a :: G'.flatMap rowsG) := fun a ha => by
        rcases rest with e | ⟨r, l, e, e2⟩
        · rw [e]
          trivial
        · rw [e] at i1 ⊢
          exact ⟨ha r e2, i1⟩
      cases b with
      | true =>
        rw [(rowsG_true h).1, List.singleton_append]
        refine ⟨one ⟨"keep", 0, st.map (·.2)⟩ fun r hr => ?_, fun b' bs'' e => ?_⟩
        · have hr := of_decide_eq_false hr
          unfold nextB
          rw [if_pos rfl]
          exact decide_eq_true hr
        · cases e
          exact ⟨_, _, rfl, decide_eq_true rfl⟩
      | false =>
        obtain ⟨e1, e2⟩ := rowsG_false h (ok _ List.mem_cons_self)
        have oneC : Chn (⟨"cut", 0, wordsK "cut" st⟩ :: G'.flatMap rowsG) := one _ fun r hr => by
          have hr := of_decide_eq_true hr
          unfold nextB
          rw [if_neg ne_kinds.1.symm, if_pos rfl, hr]
          exact decide_eq_true ne_kinds.1
        have oneP : Chn (⟨"put", 0, wordsK "put" st⟩ :: G'.flatMap rowsG) := one _ fun r hr => by
          have hr := of_decide_eq_true hr
          unfold nextB
          rw [if_neg ne_kinds.2.1.symm, if_neg ne_kinds.2.2.symm, hr]
          exact decide_eq_true rfl
        rw [e1]
        unfold rowsK
        by_cases hc : wordsK "cut" st = []
        · rw [if_pos hc]
          rcases e2 with e2 | e2
          · exact absurd hc e2
          · rw [if_neg e2]
            refine ⟨oneP, fun b' bs'' e => ?_⟩
            cases e
            exact ⟨_, _, rfl, decide_eq_false ne_kinds.2.1.symm⟩
        · rw [if_neg hc]
          by_cases hp : wordsK "put" st = []
          · rw [if_pos hp]
            refine ⟨oneC, fun b' bs'' e => ?_⟩
            cases e
            exact ⟨_, _, rfl, decide_eq_false ne_kinds.1.symm⟩
          · rw [if_neg hp]
            refine ⟨⟨?_, oneP⟩, fun b' bs'' e => ?_⟩
            · show nextB "cut" "put" = true
              decide +kernel
            · cases e
              exact ⟨_, _, rfl, decide_eq_false ne_kinds.1.symm⟩
  exact (key u ok al).1
theorem told_len (old new : List Str) : (toldRows old new).length ≤ 3 * (old.length + new.length) := by
  have h1 := rowsUp_len (grpL (goS old new)).1 (grpL (goS old new)).1.length 0
  rw [rowsUp_zero, List.take_of_length_le (Nat.le_refl _)] at h1
  have h2 := (grp_len (goS old new)).1
  have h3 := goS_len old new
  unfold toldRows
  omega
/-! ### plain rows are no blocks -/
theorem plain_no {rs : List RowD} (h : ∀ r ∈ rs, RowOk r ∧ r.num = 0 ∧ r.kind ∈ plainK) : ∀ r ∈ rs, ¬ r.kind ∈ blockK := fun r hr => by
  have : ∀ k ∈ plainK, ¬ k ∈ blockK := by decide +kernel
  exact this _ (h r hr).2.2
section
variable {P : Program} {w : World} {K : PySem.W.Frag} {mg : Str → Option Value} {base : Heap}
theorem scChanged : FnScope ["old", "new"] ["old", "new"] (defScope sChanged) := ⟨rfl, rfl, rfl, by decide +kernel, rfl, by decide +kernel, by decide +kernel⟩
def spChanged (K : PySem.W.Frag) (Ps : List Addr) : Sp := fun vs H Q _ => ∃ (p q : Addr) (old new : List Str), vs = [.ref p, .ref q] ∧ SqL K H p (old.map V.str) ∧ SqL K H q (new.map V.str) ∧ (∀ a ∈ old, wordB a = true) ∧ (∀ a ∈ new, wordB a = true) ∧ old.length ≤ 120 ∧ new.length ≤ 120 ∧ Tb Ps H ∧
  ∀ (H' : Hp) (D : Addr) (us : List V) (rs' : List RowD), Kp Ps H H' → H D = none → H' D = some (.lst us) → RowsT K H' us rs' → Told (toldRows old new) 1 rs' → Q (.ref D) H'
theorem wordsOf_len {ks : List Str} : ∀ {X : List RowD}, (∀ r ∈ X, r.kind ∈ ks) → (wordsOf ks X).length = wlen X
  | [], _ => rfl
  | r :: X, h => by
    have ih := wordsOf_len (ks := ks) (X := X) fun r hr => h r (List.mem_cons_of_mem _ hr)
    have e : wordsOf ks (r :: X) = wordsOf ks ([] ++ [r]) ++ wordsOf ks X := by
      unfold wordsOf
      simp [h r List.mem_cons_self]
    rw [e, List.length_append, wordsOf_snoc, if_pos (h r List.mem_cons_self), ih, wlen_cons]
    rfl
theorem kW_words (k : Str) (ks : List Str) (hk : k ∈ ks) : ∀ X : List RowD, kW k X ≤ (wordsOf ks X).length
  | [] => Nat.le_refl _
  | r :: X => by
    have ih := kW_words k ks hk X
    have e : wordsOf ks (r :: X) = wordsOf ks ([] ++ [r]) ++ wordsOf ks X := by
      unfold wordsOf
      by_cases h : r.kind ∈ ks <;> simp [h]
    rw [e, List.length_append, wordsOf_snoc, kW_cons]
    by_cases h : r.kind = k
    · rw [if_pos h, if_pos (by rw [h]; exact hk)]
      show r.ws.length + kW k X ≤ ([] ++ r.ws).length + _
      rw [List.nil_append]
      omega
    · rw [if_neg h]
      omega
theorem wlen_sides : ∀ X : List RowD, (∀ r ∈ X, r.kind ∈ plainK) → wlen X ≤ (wordsOf oldK X).length + kW "put" X
  | [], _ => Nat.le_refl _
  | r :: X, h => by
    have ih := wlen_sides X fun r hr => h r (List.mem_cons_of_mem _ hr)
    have e : wordsOf oldK (r :: X) = wordsOf oldK ([] ++ [r]) ++ wordsOf oldK X := by
      unfold wordsOf
      by_cases h : r.kind ∈ oldK <;> simp [h]
    rw [e, List.length_append, wordsOf_snoc, kW_cons, wlen_cons]
    by_cases c : r.kind ∈ oldK
    · rw [if_pos c]
      show _ ≤ ([] ++ r.ws).length + _ + _
      rw [List.nil_append]
      omega
    · have : r.kind = "put" := by
        have : ∀ k ∈ plainK, ¬ k ∈ oldK → k = "put" := by decide +kernel
        exact this _ (h r List.mem_cons_self) c
      rw [if_pos this]
      omega
theorem told_handed {old new : List Str} (wO : ∀ a ∈ old, wordB a = true) (wN : ∀ a ∈ new, wordB a = true) (lO : old.length ≤ 120) (lN : new.length ≤ 120) : Handed (toldRows old new) := by
  have ok := told_ok wO wN
  obtain ⟨so, sn⟩ := told_sides wO wN
  have h1 := kW_words "put" newK (by decide +kernel) (toldRows old new)
  rw [sn] at h1
  have h2 := wlen_sides (toldRows old new) fun r hr => (ok r hr).2.2
  rw [so] at h2
  exact ⟨fun r hr => (ok r hr).1, by omega, by omega⟩
theorem ok_changed {Ps : List Addr} {cR f fT fW : Addr} {fd fdT fdW : FuncData} (F : FnP K "changed" sChanged f fd)
    (GT : FnOk P w K mg base (L2.CX P w) 8 fT fdT ["old", "new"] (spToldT K Ps)) (kT : PySem.W.keepIn K (.ref fT) = true) (bT : Binds K fdT ["old", "new"] []) (gT : mg "told" = some (.ref fT))
    (GW : FnOk P w K mg base (L2.CX P w) 9 fW fdW ["rows"] (spWithBlocks K Ps cR)) (kW : PySem.W.keepIn K (.ref fW) = true) (bW : Binds K fdW ["rows"] []) (gW : mg "with_blocks" = some (.ref fW)) :
    FnOk P w K mg base (L2.CX P w) 10 f fd ["old", "new"] (spChanged K Ps) := by
  refine F.ok scChanged (fun vs H Q E h => ?_) (fun cdv A outer s H vs Q E hr h => ?_)
  · obtain ⟨p, q, old, new, rfl, _⟩ := h
    rfl
  · obtain ⟨p, q, old, new, rfl, hp, hq, wO, wN, lO, lN, ht, fin⟩ := h
    refine ⟨_, pss_one (ps_ret (pe_callS GW hr (by rfl) gW kW bW (fun σ => passAt (takes_of rfl rfl rfl rfl) σ) (pa_cons (pe_call GT (hr.mono (by decide)) (by rfl) gT kT bT .nil passL (pa_cons (pv 0) (pa_cons (pv 1) pa_nil))) pa_nil))), ?_⟩
    have ok := told_ok wO wN
    refine ⟨_, rfl, _, rfl, p, q, old, new, rfl, hp, hq, wO, wN, lO, lN, ht, fun H1 R xs k1 nR hR hX => ?_⟩
    refine ⟨R, xs, toldRows old new, rfl, .inl (.inl hR), hX, told_handed wO wN lO lN, k1.1, fun _ H2 D us rs' k2 nD hD hU T f => ?_, fun ⟨r, hr, hb⟩ => absurd hb (plain_no ok r hr)⟩
    exact fin H2 D us rs' (k1.trans k2) (k1.free ht nD) hD hU T
end
/-! ### what is asked of words: done, or told off -/
theorem fnOr {P : Program} {w : World} {K : PySem.W.Frag} {mg : Str → Option Value} {base : Heap} {CX : CXT} {k : Nat} {f : Addr} {fd : FuncData} {ps : List Str} {sp sp' : Sp} (F : FnOk P w K mg base CX k f fd ps sp) (G : FnOk P w K mg base CX k f fd ps sp') :
    FnOk P w K mg base CX k f fd ps (fun vs H Q E => sp vs H Q E ∨ sp' vs H Q E) :=
  ⟨fun vs H Q E q => q.elim (F.len vs H Q E) (G.len vs H Q E), fun A outer s H args us vs Q E hr he hb hv hs => hs.elim (F.run A outer s H args us vs Q E hr he hb hv) (G.run A outer s H args us vs Q E hr he hb hv)⟩
def dueO (o : Option (List V)) : Nat := if wordsB o = true then (if shortB o = true then 0 else 2) else 1
def dueP (o o2 : Option (List V)) : Nat := if dueO o = 0 then dueO o2 else dueO o
theorem dueO_zero {o : Option (List V)} (h : dueO o = 0) : wordsB o = true ∧ shortB o = true := by
  unfold dueO at h
  split at h
  · rename_i a
    split at h
    · rename_i b
      exact ⟨a, b⟩
    · cases h
  · cases h
theorem dueO_yes {o : Option (List V)} (h1 : wordsB o = true) (h2 : shortB o = true) : dueO o = 0 := by
  unfold dueO
  rw [if_pos h1, if_pos h2]
theorem dueO_bad {o : Option (List V)} (h1 : wordsB o = false) : dueO o = 1 := by
  unfold dueO
  rw [if_neg (by rw [h1]; exact Bool.false_ne_true)]
theorem dueO_long {o : Option (List V)} (h1 : wordsB o = true) (h2 : shortB o = false) : dueO o = 2 := by
  unfold dueO
  rw [if_pos h1, if_neg (by rw [h2]; exact Bool.false_ne_true)]
/-- all is well, no word, too long -/
def Ends3 (Ps : List Addr) (cW cL : Addr) (H : Hp) (Q : VK) (E : XK) (d : Nat) : Prop := (d = 0 → ∀ (x : V) (H' : Hp), Kp Ps H H' → Q x H') ∧ (d = 1 → ∀ H', Kp Ps H H' → E (.ref cW) none H') ∧ (d = 2 → ∀ H', Kp Ps H H' → E (.ref cL) none H')
theorem texts_of {K : PySem.W.Frag} {H : Hp} {v : V} {o : Option (List V)} (h : TextV K H v o) (d : dueO o = 0) : ∃ (p : Addr) (ws : List Str), v = .ref p ∧ SqL K H p (ws.map V.str) ∧ (∀ a ∈ ws, wordB a = true) ∧ ws.length ≤ 120 := by
  obtain ⟨h1, h2⟩ := dueO_zero d
  cases o with
  | none => cases h1
  | some xs =>
    obtain ⟨p, rfl, hS, _, _⟩ := h
    have h1 : xs.all isW = true := h1
    have h2 : decide (xs.length ≤ 120) = true := h2
    have key : ∀ xs : List V, xs.all isW = true → ∃ ws : List Str, xs = ws.map V.str ∧ ∀ a ∈ ws, wordB a = true := fun xs => by
      induction xs with
      | nil => exact fun _ => ⟨[], rfl, fun _ h => by cases h⟩
      | cons x xs ih =>
        intro h
        rw [List.all_cons, Bool.and_eq_true] at h
        obtain ⟨ws, e, hw⟩ := ih h.2
        cases x with
        | str a =>
          refine ⟨a :: ws, by rw [e]; rfl, fun b hb => ?_⟩
          rcases List.mem_cons.mp hb with z | z
          · rw [z]
            exact h.1
          · exact hw b z
        | _ => cases h.1
    obtain ⟨ws, rfl, hw⟩ := key xs h1
    refine ⟨p, ws, rfl, hS, hw, ?_⟩
    have := of_decide_eq_true h2
    rw [List.length_map] at this
    exact this
section
variable {P : Program} {w : World} {K : PySem.W.Frag} {mg : Str → Option Value} {base : Heap}
def spBad2 (K : PySem.W.Frag) (Ps : List Addr) (cW cL : Addr) : Sp := fun vs H _ E => ∃ v u o o2, vs = [v, u] ∧ TextV K H v o ∧ TextV K H u o2 ∧ Tb Ps H ∧ dueP o o2 ≠ 0 ∧ (dueP o o2 = 1 → ∀ H', Kp Ps H H' → E (.ref cW) none H') ∧ (dueP o o2 = 2 → ∀ H', Kp Ps H H' → E (.ref cL) none H')
def spAsk2 (K : PySem.W.Frag) (Ps : List Addr) (cW cL : Addr) : Sp := fun vs H Q E => ∃ v u o o2, vs = [v, u] ∧ TextV K H v o ∧ TextV K H u o2 ∧ Tb Ps H ∧ Ends3 Ps cW cL H Q E (dueP o o2)
def spGood2 (K : PySem.W.Frag) (Ps : List Addr) : Sp := fun vs H Q _ => ∃ (p q : Addr) (old new : List Str), vs = [.ref p, .ref q] ∧ SqL K H p (old.map V.str) ∧ SqL K H q (new.map V.str) ∧ (∀ a ∈ old, wordB a = true) ∧ (∀ a ∈ new, wordB a = true) ∧ old.length ≤ 120 ∧ new.length ≤ 120 ∧ Tb Ps H ∧ ∀ (x : V) (H' : Hp), Kp Ps H H' → Q x H'
theorem ask2 {Ps : List Addr} {cW cL f : Addr} {fd : FuncData} {k : Nat} {ps : List Str} (G : FnOk P w K mg base (L2.CX P w) k f fd ps (spGood2 K Ps)) (B : FnOk P w K mg base (L2.CX P w) k f fd ps (spBad2 K Ps cW cL)) : FnOk P w K mg base (L2.CX P w) k f fd ps (spAsk2 K Ps cW cL) :=
  (fnOr G B).imp fun vs H Q E ⟨v, u, o, o2, e, hv, hu, ht, en⟩ => by
    by_cases d : dueP o o2 = 0
    · left
      have d1 : dueO o = 0 := by
        unfold dueP at d
        split at d
        · assumption
        · exact d
      have d2 : dueO o2 = 0 := by
        unfold dueP at d
        rw [if_pos d1] at d
        exact d
      obtain ⟨p, old, rfl, hp, wO, lO⟩ := texts_of hv d1
      obtain ⟨q, new, rfl, hq, wN, lN⟩ := texts_of hu d2
      exact ⟨p, q, old, new, e, hp, hq, wO, wN, lO, lN, ht, en.1 d⟩
    · exact .inr ⟨v, u, o, o2, e, hv, hu, ht, d, en.2.1, en.2.2⟩
theorem ok_tableX {Ps : List Addr} {cW cL f fT : Addr} {fd fdT : FuncData} (F : FnP K "table" sTable f fd)
    (GT : FnOk P w K mg base (L2.CX P w) 5 fT fdT ["words"] (spCheckTextX K Ps cW cL)) (kT : PySem.W.keepIn K (.ref fT) = true) (bT : Binds K fdT ["words"] []) (gT : mg "check_text" = some (.ref fT)) : FnOk P w K mg base (L2.CX P w) 6 f fd ["old", "new"] (spBad2 K Ps cW cL) := by
  refine F.ok scTable (fun vs H Q E h => ?_) (fun cdv A outer s H vs Q E hr h => ?_)
  · obtain ⟨v, u, o, o2, rfl, _⟩ := h
    rfl
  · obtain ⟨v, u, o, o2, rfl, hv, hu, ht, ne, e1, e2⟩ := h
    refine ⟨_, pss_cons (ps_expr (pe_callS GT hr (by rfl) gT kT bT (fun σ => passAt (takes_of rfl rfl rfl rfl) σ) (pa_cons (pv 0) pa_nil))) (pss_cons (ps_expr (pe_callS GT hr (by rfl) gT kT bT (fun σ => passAt (takes_of rfl rfl rfl rfl) σ) (pa_cons (pv 1) pa_nil))) pss_never), ?_⟩
    unfold dueP at ne e1 e2
    refine ⟨_, rfl, v, o, rfl, hv, ht, fun a b H1 k1 => ?_, fun a H1 k1 => ?_, fun a b H1 k1 => ?_⟩
    · rw [if_pos (dueO_yes a b)] at ne e1 e2
      refine ⟨_, rfl, u, o2, rfl, hu.kp ht k1, k1.1, fun c d => absurd (dueO_yes c d) ne, fun c H2 k2 => e1 (dueO_bad c) H2 (k1.trans k2), fun c d H2 k2 => e2 (dueO_long c d) H2 (k1.trans k2)⟩
    · rw [dueO_bad a, if_neg (by decide)] at e1
      exact e1 rfl H1 k1
    · rw [dueO_long a b, if_neg (by decide)] at e2
      exact e2 rfl H1 k1
theorem ok_apartX {Ps : List Addr} {cW cL f fT : Addr} {fd fdT : FuncData} (F : FnP K "apart" sApart f fd)
    (GT : FnOk P w K mg base (L2.CX P w) 6 fT fdT ["old", "new"] (spBad2 K Ps cW cL)) (kT : PySem.W.keepIn K (.ref fT) = true) (bT : Binds K fdT ["old", "new"] []) (gT : mg "table" = some (.ref fT)) : FnOk P w K mg base (L2.CX P w) 7 f fd ["old", "new"] (spBad2 K Ps cW cL) := by
  refine F.ok scApart (fun vs H Q E h => ?_) (fun cdv A outer s H vs Q E hr h => ?_)
  · obtain ⟨v, u, o, o2, rfl, _⟩ := h
    rfl
  · obtain ⟨v, u, o, o2, rfl, hb⟩ := h
    refine ⟨_, pss_one (ps_ret (pe_ix ix_list (pe_ix ix_list (pe_callS GT hr (by rfl) gT kT bT (fun σ => passAt (takes_of rfl rfl rfl rfl) σ) (pa_cons (pv 0) (pa_cons (pv 1) pa_nil))) pe_int (fun _ _ => rfl)) pe_int (fun _ _ => rfl))), ?_⟩
    exact ⟨_, rfl, _, rfl, v, u, o, o2, rfl, hb⟩
theorem ok_stepsX {Ps : List Addr} {cW cL f fT : Addr} {fd fdT : FuncData} (F : FnP K "steps_between" sStepsBetween f fd)
    (GT : FnOk P w K mg base (L2.CX P w) 6 fT fdT ["old", "new"] (spBad2 K Ps cW cL)) (kT : PySem.W.keepIn K (.ref fT) = true) (bT : Binds K fdT ["old", "new"] []) (gT : mg "table" = some (.ref fT)) : FnOk P w K mg base (L2.CX P w) 7 f fd ["old", "new"] (spBad2 K Ps cW cL) := by
  refine F.ok scSteps (fun vs H Q E h => ?_) (fun cdv A outer s H vs Q E hr h => ?_)
  · obtain ⟨v, u, o, o2, rfl, _⟩ := h
    rfl
  · obtain ⟨v, u, o, o2, rfl, hb⟩ := h
    refine ⟨_, pss_cons (ps_set (i := 2) scSteps.nd rfl (.inl rfl) (pe_callS GT hr (by rfl) gT kT bT (fun σ => passAt (takes_of rfl rfl rfl rfl) σ) (pa_cons (pv 0) (pa_cons (pv 1) pa_nil)))) pss_never, ?_⟩
    exact ⟨_, rfl, _, rfl, v, u, o, o2, rfl, hb⟩
theorem ok_toldX {Ps : List Addr} {cW cL f fS fG : Addr} {fd fdS fdG : FuncData} (F : FnP K "told" sTold f fd)
    (GS : FnOk P w K mg base (L2.CX P w) 7 fS fdS ["old", "new"] (spBad2 K Ps cW cL)) (kS : PySem.W.keepIn K (.ref fS) = true) (bS : Binds K fdS ["old", "new"] []) (gS : mg "steps_between" = some (.ref fS))
    (GG : FnOk P w K mg base (L2.CX P w) 1 fG fdG ["steps"] (spStretches K)) (kG : PySem.W.keepIn K (.ref fG) = true) (bG : Binds K fdG ["steps"] []) (gG : mg "stretches_of" = some (.ref fG)) : FnOk P w K mg base (L2.CX P w) 8 f fd ["old", "new"] (spBad2 K Ps cW cL) := by
  refine F.ok scTold (fun vs H Q E h => ?_) (fun cdv A outer s H vs Q E hr h => ?_)
  · obtain ⟨v, u, o, o2, rfl, _⟩ := h
    rfl
  · obtain ⟨v, u, o, o2, rfl, hv, hu, ht, ne, e1, e2⟩ := h
    have r1 : Room 1 (A.deeper (envOfC "told" (defScope sTold) s.heap.objs.size f cdv)) := hr.mono (by decide)
    refine ⟨_, pss_cons (ps_set (i := 2) scTold.nd rfl (.inl rfl) (pe_lst pa_nil))
      (pss_cons (ps_for (passes_of rfl) rfl (pi_list (pe_call GG r1 (by rfl) gG kG bG .nil passL (pa_cons (pe_callS GS hr (by rfl) gS kS bS (fun σ => passAt (takes_of rfl rfl rfl rfl) σ) (pa_cons (pv 0) (pa_cons (pv 1) pa_nil))) pa_nil))) (pg_name (i := 3) scTold.nd rfl (.inl rfl)) pss_never) pss_never), ?_⟩
    refine ⟨by show 0 ≤ sizeLine; decide, fun R nR => ?_⟩
    have k0 := Kp.new (p := R) (o := .lst []) ht nR
    exact ⟨_, rfl, _, rfl, v, u, o, o2, rfl, hv.kp ht k0, hu.kp ht k0, k0.1, ne, fun z H' k => e1 z H' (k0.trans k), fun z H' k => e2 z H' (k0.trans k)⟩
theorem ok_changedX {Ps : List Addr} {cW cL cR f fT fW : Addr} {fd fdT fdW : FuncData} (F : FnP K "changed" sChanged f fd)
    (GT : FnOk P w K mg base (L2.CX P w) 8 fT fdT ["old", "new"] (spBad2 K Ps cW cL)) (kT : PySem.W.keepIn K (.ref fT) = true) (bT : Binds K fdT ["old", "new"] []) (gT : mg "told" = some (.ref fT))
    (GW : FnOk P w K mg base (L2.CX P w) 9 fW fdW ["rows"] (spWithBlocks K Ps cR)) (kW : PySem.W.keepIn K (.ref fW) = true) (bW : Binds K fdW ["rows"] []) (gW : mg "with_blocks" = some (.ref fW)) : FnOk P w K mg base (L2.CX P w) 10 f fd ["old", "new"] (spBad2 K Ps cW cL) := by
  refine F.ok scChanged (fun vs H Q E h => ?_) (fun cdv A outer s H vs Q E hr h => ?_)
  · obtain ⟨v, u, o, o2, rfl, _⟩ := h
    rfl
  · obtain ⟨v, u, o, o2, rfl, hb⟩ := h
    refine ⟨_, pss_one (ps_ret (pe_callS GW hr (by rfl) gW kW bW (fun σ => passAt (takes_of rfl rfl rfl rfl) σ) (pa_cons (pe_callS GT (hr.mono (by decide)) (by rfl) gT kT bT (fun σ => passAt (takes_of rfl rfl rfl rfl) σ) (pa_cons (pv 0) (pa_cons (pv 1) pa_nil))) pa_nil))), ?_⟩
    exact ⟨_, rfl, _, rfl, v, u, o, o2, rfl, hb⟩
theorem good_table {Ps : List Addr} {f : Addr} {fd : FuncData} {k : Nat} {ps : List Str} (G : FnOk P w K mg base (L2.CX P w) k f fd ps (spTable K Ps)) : FnOk P w K mg base (L2.CX P w) k f fd ps (spGood2 K Ps) :=
  G.imp fun vs H Q E ⟨p, q, old, new, e, h1, h2, h3, h4, h5, h6, ht, h⟩ => ⟨p, q, old, new, e, h1, h2, h3, h4, h5, h6, ht, fun H' D k _ _ => h _ H' k⟩
theorem good_apart {Ps : List Addr} {f : Addr} {fd : FuncData} {k : Nat} {ps : List Str} (G : FnOk P w K mg base (L2.CX P w) k f fd ps (spApart K Ps)) : FnOk P w K mg base (L2.CX P w) k f fd ps (spGood2 K Ps) :=
  G.imp fun vs H Q E ⟨p, q, old, new, e, h1, h2, h3, h4, h5, h6, ht, h⟩ => ⟨p, q, old, new, e, h1, h2, h3, h4, h5, h6, ht, fun H' k => h _ H' k⟩
theorem good_told {Ps : List Addr} {f : Addr} {fd : FuncData} {k : Nat} {ps : List Str} (G : FnOk P w K mg base (L2.CX P w) k f fd ps (spToldT K Ps)) : FnOk P w K mg base (L2.CX P w) k f fd ps (spGood2 K Ps) :=
  G.imp fun vs H Q E ⟨p, q, old, new, e, h1, h2, h3, h4, h5, h6, ht, h⟩ => ⟨p, q, old, new, e, h1, h2, h3, h4, h5, h6, ht, fun H' R xs k _ _ _ => h _ H' k⟩
theorem good_changed {Ps : List Addr} {f : Addr} {fd : FuncData} {k : Nat} {ps : List Str} (G : FnOk P w K mg base (L2.CX P w) k f fd ps (spChanged K Ps)) : FnOk P w K mg base (L2.CX P w) k f fd ps (spGood2 K Ps) :=
  G.imp fun vs H Q E ⟨p, q, old, new, e, h1, h2, h3, h4, h5, h6, ht, h⟩ => ⟨p, q, old, new, e, h1, h2, h3, h4, h5, h6, ht, fun H' D us rs' k _ _ _ _ => h _ H' k⟩
/-! #### joined and parted -/
def spAsk1 (K : PySem.W.Frag) (Ps : List Addr) (cW cL : Addr) : Sp := fun vs H Q E => ∃ v o, vs = [v] ∧ TextV K H v o ∧ Tb Ps H ∧ Ends3 Ps cW cL H Q E (dueO o)
theorem ok_joinedX {Ps : List Addr} {cW cL f fT : Addr} {fd fdT : FuncData} (F : FnP K "joined" sJoined f fd)
    (GT : FnOk P w K mg base (L2.CX P w) 5 fT fdT ["words"] (spCheckTextX K Ps cW cL)) (kT : PySem.W.keepIn K (.ref fT) = true) (bT : Binds K fdT ["words"] []) (gT : mg "check_text" = some (.ref fT)) : FnOk P w K mg base (L2.CX P w) 6 f fd ["words"] (spAsk1 K Ps cW cL) := by
  refine F.ok scJoined (fun vs H Q E h => ?_) (fun cdv A outer s H vs Q E hr h => ?_)
  · obtain ⟨v, o, rfl, _⟩ := h
    rfl
  · obtain ⟨v, o, rfl, hv, ht, e0, e1, e2⟩ := h
    refine ⟨_, pss_cons (ps_expr (pe_callS GT hr (by rfl) gT kT bT (fun σ => passAt (takes_of rfl rfl rfl rfl) σ) (pa_cons (pv 0) pa_nil))) (pss_one (ps_ret (pe_join pe_str (pv 0)))), ?_⟩
    refine ⟨_, rfl, v, o, rfl, hv, ht, fun a b H1 k1 => ?_, fun a => e1 (dueO_bad a), fun a b => e2 (dueO_long a b)⟩
    obtain ⟨p, ws, rfl, hS, hw, hl⟩ := texts_of hv (dueO_yes a b)
    refine ⟨⟨_, rfl⟩, _, rfl, _, p, ws, rfl, rfl, .inl (k1.seq ht hS), ?_, e0 (dueO_yes a b) _ H1 k1⟩
    have h2 := sum_len hw
    have e : (" " : Str).length = 1 := by decide +kernel
    rw [e]
    omega
def spAskL (K : PySem.W.Frag) (Ps : List Addr) (cW cL : Addr) : Sp := fun vs H Q E => ∃ a : Str, vs = [.str a] ∧ a.length ≤ 1000000 ∧ (∀ x ∈ Txt.words a, x.length ≤ 1000000) ∧ (Txt.words a).length ≤ 1000 ∧ Tb Ps H ∧ Ends3 Ps cW cL H Q E (dueO (some ((Txt.words a).map V.str)))
theorem ok_partedX {Ps : List Addr} {cW cL f fT : Addr} {fd fdT : FuncData} (F : FnP K "parted" sParted f fd)
    (GT : FnOk P w K mg base (L2.CX P w) 5 fT fdT ["words"] (spCheckTextX K Ps cW cL)) (kT : PySem.W.keepIn K (.ref fT) = true) (bT : Binds K fdT ["words"] []) (gT : mg "check_text" = some (.ref fT)) : FnOk P w K mg base (L2.CX P w) 6 f fd ["line"] (spAskL K Ps cW cL) := by
  refine F.ok scParted (fun vs H Q E h => ?_) (fun cdv A outer s H vs Q E hr h => ?_)
  · obtain ⟨a, rfl, _⟩ := h
    rfl
  · obtain ⟨a, rfl, ha, hx, hl, ht, e0, e1, e2⟩ := h
    refine ⟨_, pss_cons (ps_set (i := 1) scParted.nd rfl (.inl rfl) (pe_words (pv 0))) (pss_cons (ps_expr (pe_callS GT hr (by rfl) gT kT bT (fun σ => passAt (takes_of rfl rfl rfl rfl) σ) (pa_cons (pv 1) pa_nil))) (pss_one (ps_ret (pv 1)))), ?_⟩
    refine ⟨_, rfl, ⟨_, rfl⟩, a, rfl, rfl, Nat.le_trans (show a.length + 2 ≤ 1000002 by omega) (by decide), fun p np => ?_⟩
    have k1 : Kp Ps H (upd H p (.lst ((Txt.words a).map V.str))) := Kp.new ht np
    refine ⟨_, rfl, .ref p, some ((Txt.words a).map V.str), rfl, ⟨p, rfl, .inl (.inl upd_same), fun x h => ?_, by rw [List.length_map]; exact hl⟩, k1.1, fun b c H' k2 => ?_, fun b H' k2 => e1 (dueO_bad b) H' (k1.trans k2), fun b c H' k2 => e2 (dueO_long b c) H' (k1.trans k2)⟩
    · obtain ⟨y, hy, rfl⟩ := List.mem_map.mp h
      exact .inl ⟨y, rfl, hx y hy⟩
    · exact ⟨_, rfl, e0 (dueO_yes b c) _ H' (k1.trans k2)⟩
end
/-! ### the law: asked, tried, any -/
def AskD (K : PySem.W.Frag) (H : Hp) (n : Nat) (v u : V) (d : Nat) : Prop :=
  (n = 0 ∧ ∃ o, TextV K H v o ∧ d = dueO o) ∨ (n = 1 ∧ ∃ a, v = .str a ∧ a.length ≤ 1000000 ∧ (∀ x ∈ Txt.words a, x.length ≤ 1000000) ∧ (Txt.words a).length ≤ 1000 ∧ d = dueO (some ((Txt.words a).map V.str))) ∨ (2 ≤ n ∧ n ≤ 5 ∧ ∃ o o2, TextV K H v o ∧ TextV K H u o2 ∧ d = dueP o o2)
theorem dueO_le (o : Option (List V)) : dueO o ≤ 2 := by
  unfold dueO
  split
  · split
    · decide
    · decide
  · decide
theorem dueP_le (o o2 : Option (List V)) : dueP o o2 ≤ 2 := by
  unfold dueP
  split
  · exact dueO_le _
  · exact dueO_le _
theorem AskD.le {K : PySem.W.Frag} {H : Hp} {n : Nat} {v u : V} {d : Nat} (h : AskD K H n v u d) : d ≤ 2 := by
  rcases h with ⟨_, o, _, e⟩ | ⟨_, a, _, _, _, _, e⟩ | ⟨_, _, o, o2, _, _, e⟩
  · rw [e]; exact dueO_le _
  · rw [e]; exact dueO_le _
  · rw [e]; exact dueP_le _ _
def dueS (d : Nat) : Str := if d = 0 then "" else if d = 1 then "no word" else "too long"
section
variable {P : Program} {w : World} {K : PySem.W.Frag} {mg : Str → Option Value} {base : Heap}
theorem scAsked : FnScope ["_law_way", "_law_one", "_law_other"] ["_law_way", "_law_one", "_law_other"] (defScope sAsked) := ⟨rfl, rfl, rfl, by decide +kernel, rfl, by decide +kernel, by decide +kernel⟩
theorem scTried : FnScope ["_law_way", "_law_one", "_law_other"] ["_law_way", "_law_one", "_law_other"] (defScope sTried) := ⟨rfl, rfl, rfl, by decide +kernel, rfl, by decide +kernel, by decide +kernel⟩
theorem scAny : FnScope ["_law_way", "_law_one", "_law_other", "e"] ["_law_way", "_law_one", "_law_other"] (defScope sAny) := ⟨rfl, rfl, rfl, by decide +kernel, rfl, by decide +kernel, by decide +kernel⟩
def spAsked (K : PySem.W.Frag) (Ps : List Addr) (cW cL : Addr) : Sp := fun vs H Q E => ∃ (n : Nat) (v u : V) (d : Nat), vs = [.int (n : Int), v, u] ∧ AskD K H n v u d ∧ Tb Ps H ∧ Ends3 Ps cW cL H Q E d
theorem ok_asked {Ps : List Addr} {cW cL f fJ fP fT fA fO fC : Addr} {fd fdJ fdP fdT fdA fdO fdC : FuncData} (F : FnP K "_law_asked" sAsked f fd)
    (GJ : FnOk P w K mg base (L2.CX P w) 6 fJ fdJ ["words"] (spAsk1 K Ps cW cL)) (kJ : PySem.W.keepIn K (.ref fJ) = true) (bJ : Binds K fdJ ["words"] []) (gJ : mg "joined" = some (.ref fJ))
    (GP : FnOk P w K mg base (L2.CX P w) 6 fP fdP ["line"] (spAskL K Ps cW cL)) (kP : PySem.W.keepIn K (.ref fP) = true) (bP : Binds K fdP ["line"] []) (gP : mg "parted" = some (.ref fP))
    (GT : FnOk P w K mg base (L2.CX P w) 6 fT fdT ["old", "new"] (spAsk2 K Ps cW cL)) (kT : PySem.W.keepIn K (.ref fT) = true) (bT : Binds K fdT ["old", "new"] []) (gT : mg "table" = some (.ref fT))
    (GA : FnOk P w K mg base (L2.CX P w) 7 fA fdA ["old", "new"] (spAsk2 K Ps cW cL)) (kA : PySem.W.keepIn K (.ref fA) = true) (bA : Binds K fdA ["old", "new"] []) (gA : mg "apart" = some (.ref fA))
    (GO : FnOk P w K mg base (L2.CX P w) 8 fO fdO ["old", "new"] (spAsk2 K Ps cW cL)) (kO : PySem.W.keepIn K (.ref fO) = true) (bO : Binds K fdO ["old", "new"] []) (gO : mg "told" = some (.ref fO))
    (GC : FnOk P w K mg base (L2.CX P w) 10 fC fdC ["old", "new"] (spAsk2 K Ps cW cL)) (kC : PySem.W.keepIn K (.ref fC) = true) (bC : Binds K fdC ["old", "new"] []) (gC : mg "changed" = some (.ref fC)) :
    FnOk P w K mg base (L2.CX P w) 11 f fd ["_law_way", "_law_one", "_law_other"] (spAsked K Ps cW cL) := by
  refine F.ok scAsked (fun vs H Q E h => ?_) (fun cdv A outer s H vs Q E hr h => ?_)
  · obtain ⟨n, v, u, d, rfl, _⟩ := h
    rfl
  · obtain ⟨n, v, u, d, rfl, hA, ht, en⟩ := h
    refine ⟨_, pss_cons (ps_if (pt_cmpR op_eq (pv 0) pe_int (nomark _)) (pss_one (ps_ret (pe_callS GJ (hr.mono (by decide)) (by rfl) gJ kJ bJ (fun σ => passAt (takes_of rfl rfl rfl rfl) σ) (pa_cons (pv 1) pa_nil)))) pss_nil)
      (pss_cons (ps_if (pt_cmpR op_eq (pv 0) pe_int (nomark _)) (pss_one (ps_ret (pe_callS GP (hr.mono (by decide)) (by rfl) gP kP bP (fun σ => passAt (takes_of rfl rfl rfl rfl) σ) (pa_cons (pv 1) pa_nil)))) pss_nil)
      (pss_cons (ps_if (pt_cmpR op_eq (pv 0) pe_int (nomark _)) (pss_one (ps_ret (pe_callS GT (hr.mono (by decide)) (by rfl) gT kT bT (fun σ => passAt (takes_of rfl rfl rfl rfl) σ) (pa_cons (pv 1) (pa_cons (pv 2) pa_nil))))) pss_nil)
      (pss_cons (ps_if (pt_cmpR op_eq (pv 0) pe_int (nomark _)) (pss_one (ps_ret (pe_callS GA (hr.mono (by decide)) (by rfl) gA kA bA (fun σ => passAt (takes_of rfl rfl rfl rfl) σ) (pa_cons (pv 1) (pa_cons (pv 2) pa_nil))))) pss_nil)
      (pss_cons (ps_if (pt_cmpR op_eq (pv 0) pe_int (nomark _)) (pss_one (ps_ret (pe_callS GO (hr.mono (by decide)) (by rfl) gO kO bO (fun σ => passAt (takes_of rfl rfl rfl rfl) σ) (pa_cons (pv 1) (pa_cons (pv 2) pa_nil))))) pss_nil)
      (pss_one (ps_ret (pe_callS GC hr (by rfl) gC kC bC (fun σ => passAt (takes_of rfl rfl rfl rfl) σ) (pa_cons (pv 1) (pa_cons (pv 2) pa_nil))))))))), ?_⟩
    rcases hA with ⟨rfl, o, hv, rfl⟩ | ⟨rfl, a, rfl, ha, hx, hl, rfl⟩ | ⟨n2, n5, o, o2, hv, hu, rfl⟩
    · exact ⟨_, rfl, rfl, _, rfl, iteT ⟨_, rfl, v, o, rfl, hv, ht, en⟩⟩
    · exact ⟨_, rfl, rfl, _, rfl, iteF ⟨_, rfl, rfl, _, rfl, iteT ⟨_, rfl, a, rfl, ha, hx, hl, ht, en⟩⟩⟩
    · rcases (show n = 2 ∨ n = 3 ∨ n = 4 ∨ n = 5 by omega) with rfl | rfl | rfl | rfl
      · exact ⟨_, rfl, rfl, _, rfl, iteF ⟨_, rfl, rfl, _, rfl, iteF ⟨_, rfl, rfl, _, rfl, iteT ⟨_, rfl, _, rfl, v, u, o, o2, rfl, hv, hu, ht, en⟩⟩⟩⟩
      · exact ⟨_, rfl, rfl, _, rfl, iteF ⟨_, rfl, rfl, _, rfl, iteF ⟨_, rfl, rfl, _, rfl, iteF ⟨_, rfl, rfl, _, rfl, iteT ⟨_, rfl, _, rfl, v, u, o, o2, rfl, hv, hu, ht, en⟩⟩⟩⟩⟩
      · exact ⟨_, rfl, rfl, _, rfl, iteF ⟨_, rfl, rfl, _, rfl, iteF ⟨_, rfl, rfl, _, rfl, iteF ⟨_, rfl, rfl, _, rfl, iteF ⟨_, rfl, rfl, _, rfl, iteT ⟨_, rfl, _, rfl, v, u, o, o2, rfl, hv, hu, ht, en⟩⟩⟩⟩⟩⟩
      · exact ⟨_, rfl, rfl, _, rfl, iteF ⟨_, rfl, rfl, _, rfl, iteF ⟨_, rfl, rfl, _, rfl, iteF ⟨_, rfl, rfl, _, rfl, iteF ⟨_, rfl, rfl, _, rfl, iteF ⟨_, rfl, _, rfl, v, u, o, o2, rfl, hv, hu, ht, en⟩⟩⟩⟩⟩⟩
def spTried (K : PySem.W.Frag) (Ps : List Addr) : Sp := fun vs H Q _ => ∃ (n : Nat) (v u : V) (d : Nat), vs = [.int (n : Int), v, u] ∧ AskD K H n v u d ∧ Tb Ps H ∧ ∀ H', Kp Ps H H' → Q (.str (dueS d)) H'
theorem ok_tried {Ps : List Addr} {cW cL f fA : Addr} {fd fdA : FuncData} (F : FnP K "_law_tried" sTried f fd)
    (GA : FnOk P w K mg base (L2.CX P w) 11 fA fdA ["_law_way", "_law_one", "_law_other"] (spAsked K Ps cW cL)) (kA : PySem.W.keepIn K (.ref fA) = true) (bA : Binds K fdA ["_law_way", "_law_one", "_law_other"] []) (gA : mg "_law_asked" = some (.ref fA))
    (mW : mg "NoWord" = some (.ref cW)) (mL : mg "TooLong" = some (.ref cL)) (xWW : PySem.W.exmOne K (.ref cW) (.ref cW) = some true) (xLW : PySem.W.exmOne K (.ref cL) (.ref cW) = some false) (xLL : PySem.W.exmOne K (.ref cL) (.ref cL) = some true) : FnOk P w K mg base (L2.CX P w) 12 f fd ["_law_way", "_law_one", "_law_other"] (spTried K Ps) := by
  refine F.ok scTried (fun vs H Q E h => ?_) (fun cdv A outer s H vs Q E hr h => ?_)
  · obtain ⟨n, v, u, d, rfl, _⟩ := h
    rfl
  · obtain ⟨n, v, u, d, rfl, hA, ht, q⟩ := h
    refine ⟨_, pss_cons (ps_try_many (Wout := fun cls d _ H => E cls d H) rfl rfl (takes_of rfl rfl rfl rfl)
        (fun W pn xe tk _ => pss_one (ps_expr (pe_callS (E := WE W) GA hr (by rfl) gA kA bA (fun σ => passAt tk σ) (pa_cons (pv 0) (pa_cons (pv 1) (pa_cons (pv 2) pa_nil))))))
        (.cons (c := .ref cW) ⟨by rfl, by decide +kernel, .inl mW⟩ (fun a oe cls d pn _ _ => pss_one (ps_ret pe_str)) (.cons (c := .ref cL) ⟨by rfl, by decide +kernel, .inl mL⟩ (fun a oe cls d pn _ _ => pss_one (ps_ret pe_str)) .nil)))
      (pss_one (ps_ret pe_str)), ?_⟩
    refine ⟨_, rfl, _, rfl, _, rfl, n, v, u, d, rfl, hA, ht, fun e x H' k => ?_, fun e H' k => ⟨true, xWW, fun _ b nb => ?_, fun z => by cases z⟩, fun e H' k => ⟨false, xLW, (fun z => by cases z), fun _ => ⟨true, xLL, fun _ b nb => ?_, fun z => by cases z⟩⟩⟩
    · have := q H' k
      rw [e] at this
      exact this
    · have := q H' k
      rw [e] at this
      exact this
    · have := q H' k
      rw [e] at this
      exact this
def spAny (K : PySem.W.Frag) (Ps : List Addr) : Sp := fun vs H Q _ => ∃ (n : Nat) (v u : V) (d : Nat), vs = [.int (n : Int), v, u] ∧ AskD K H n v u d ∧ Tb Ps H ∧ ∀ H', Kp Ps H H' → Q (.bl (decide (d ≠ 0))) H'
theorem ok_any {Ps : List Addr} {cW cL cE f fA : Addr} {fd fdA : FuncData} (F : FnP K "_law_any" sAny f fd)
    (GA : FnOk P w K mg base (L2.CX P w) 11 fA fdA ["_law_way", "_law_one", "_law_other"] (spAsked K Ps cW cL)) (kA : PySem.W.keepIn K (.ref fA) = true) (bA : Binds K fdA ["_law_way", "_law_one", "_law_other"] []) (gA : mg "_law_asked" = some (.ref fA))
    (mE : mg "RedraftError" = some (.ref cE)) (xW : PySem.W.exmOne K (.ref cW) (.ref cE) = some true) (xL : PySem.W.exmOne K (.ref cL) (.ref cE) = some true) (CW : L2.ExcC K cW) (kW : PySem.W.kitOne K (.ref cW) (.type "ValueError") = some true) (CL : L2.ExcC K cL) (kL : PySem.W.kitOne K (.ref cL) (.type "ValueError") = some true)
    (mI : mg "isinstance" = none) (mV : mg "ValueError" = none) : FnOk P w K mg base (L2.CX P w) 12 f fd ["_law_way", "_law_one", "_law_other"] (spAny K Ps) := by
  refine F.ok scAny (fun vs H Q E h => ?_) (fun cdv A outer s H vs Q E hr h => ?_)
  · obtain ⟨n, v, u, d, rfl, _⟩ := h
    rfl
  · obtain ⟨n, v, u, d, rfl, hA, ht, q⟩ := h
    refine ⟨_, pss_cons (ps_try_as (i := 3) (c := .ref cE) (Wout := fun cls d _ H => E cls d H) (ts := fun a cls d D σ H => (cls = .ref cW ∧ d = none ∧ tRet (tCB (rIsE K cW a) (tCons (tVar 3) (tCons (tC (.ty "ValueError")) tNil))) D σ H) ∨ (cls = .ref cL ∧ d = none ∧ tRet (tCB (rIsE K cL a) (tCons (tVar 3) (tCons (tC (.ty "ValueError")) tNil))) D σ H)) rfl rfl scAny.nd rfl rfl ⟨by rfl, by decide +kernel, .inl mE⟩ (takes_of rfl rfl rfl rfl)
        (fun W pn xe tk _ => pss_one (ps_expr (pe_callS (E := WE W) GA hr (by rfl) gA kA bA (fun σ => passAt tk σ) (pa_cons (pv 0) (pa_cons (pv 1) (pa_cons (pv 2) pa_nil))))))
        (fun a oe cls d pn hz hf => ⟨fun pins s σ H D I h => ?_⟩))
      (pss_one (ps_ret pe_bl)), ?_⟩
    · rcases h with ⟨rfl, rfl, h⟩ | ⟨rfl, rfl, h⟩
      · exact (pss_one (ps_ret (pe_callB (call_isE CW hz hf) (by rfl) mI (by decide +kernel) (pa_cons (pv 3) (pa_cons (pe_bltn (v := .ty "ValueError") (by rfl) mV (by decide +kernel) rfl) pa_nil))))).run pins s σ H D I h
      · exact (pss_one (ps_ret (pe_callB (call_isE CL hz hf) (by rfl) mI (by decide +kernel) (pa_cons (pv 3) (pa_cons (pe_bltn (v := .ty "ValueError") (by rfl) mV (by decide +kernel) rfl) pa_nil))))).run pins s σ H D I h
    · refine ⟨_, rfl, _, rfl, _, rfl, n, v, u, d, rfl, hA, ht, fun e x H' k => ?_, fun e H' k => ⟨true, xW, fun _ b nb => .inl ⟨rfl, rfl, ?_⟩, fun z => by cases z⟩, fun e H' k => ⟨true, xL, fun _ b nb => .inr ⟨rfl, rfl, ?_⟩, fun z => by cases z⟩⟩
      · have := q H' k
        rw [e] at this
        exact this
      · have := q H' k
        rw [e] at this
        exact ⟨_, rfl, .ty "ValueError", .type "ValueError", true, rfl, fun u h => h, kW, this⟩
      · have := q H' k
        rw [e] at this
        exact ⟨_, rfl, .ty "ValueError", .type "ValueError", true, rfl, fun u h => h, kL, this⟩
end
/-! ### the law: what is no word; a pair of texts -/
def wrongL (A B : Addr) : List V := [.str "", .str (Rs2.repS "a" 41), .str "a b", .int 7, .non, .bl true, .ref A, .ref B, .str "a\tb", .str "a\n", .str "\t", .str " a"]
theorem wrong_at {K : PySem.W.Frag} {H : Hp} {A B : Addr} (hA : SqL K H A [.str "a"]) (hB : SqT K H B [.str "a", .str "b"]) : ∀ v ∈ wrongL A B, WV K H v ∧ isW v = false := fun v hv => by
  have st : ∀ a : Str, a.length ≤ 1000000 → wordB a = false → WV K H (.str a) ∧ isW (.str a) = false := fun a h1 h2 => ⟨.inl ⟨a, rfl, h1⟩, h2⟩
  unfold wrongL at hv
  simp only [List.mem_cons, List.not_mem_nil, or_false] at hv
  rcases hv with rfl | rfl | rfl | rfl | rfl | rfl | rfl | rfl | rfl | rfl | rfl | rfl
  · exact st _ (by decide +kernel) (by decide +kernel)
  · exact st _ (by decide +kernel) (by decide +kernel)
  · exact st _ (by decide +kernel) (by decide +kernel)
  · exact ⟨.inr (.int _), rfl⟩
  · exact ⟨.inr .non, rfl⟩
  · exact ⟨.inr (.bl _), rfl⟩
  · exact ⟨.inr (.lst hA), rfl⟩
  · exact ⟨.inr (.tup hB), rfl⟩
  · exact st _ (by decide +kernel) (by decide +kernel)
  · exact st _ (by decide +kernel) (by decide +kernel)
  · exact st _ (by decide +kernel) (by decide +kernel)
  · exact st _ (by decide +kernel) (by decide +kernel)
theorem dueS_eq {d : Nat} : (dueS d = "") ↔ d = 0 := by
  have e : (("no word" : Str) ≠ "") ∧ (("too long" : Str) ≠ "") := by decide +kernel
  unfold dueS
  split
  · rename_i h
    exact ⟨fun _ => h, fun _ => rfl⟩
  · split
    · rename_i h _
      exact ⟨fun z => absurd z e.1, fun z => absurd z h⟩
    · rename_i h _
      exact ⟨fun z => absurd z e.2, fun z => absurd z h⟩
theorem dueS_dec (d : Nat) : decide (V.str (dueS d) = V.str "") = decide (d = 0) := by
  by_cases h : d = 0
  · rw [decide_eq_true h, decide_eq_true (congrArg V.str (dueS_eq.mpr h))]
  · rw [decide_eq_false h, decide_eq_false fun z => h (dueS_eq.mp (V.str.inj z))]
theorem due_pick (d m : Nat) : atI ([.str (dueS d), .str (dueS m)] : List V) (if decide (V.str (dueS d) = V.str "") = true then 1 else 0) = some (.str (dueS (if d = 0 then m else d))) := by
  rw [dueS_dec]
  by_cases h : d = 0
  · rw [decide_eq_true h, if_pos rfl, if_pos h]
    rfl
  · rw [decide_eq_false h, if_neg Bool.false_ne_true, if_neg h]
    rfl
theorem TextV.same {K : PySem.W.Frag} {H H' : Hp} (s : Same H H') {v : V} {o : Option (List V)} (h : TextV K H v o) : TextV K H' v o := h.kp noTb (Kp.same noTb s)
def besO (j : Nat) : List V := if j = 0 then [.str "a", .str "b"] else if j = 1 then (List.replicate 121 [V.str "a"]).flatten else if j = 2 then [.str "a", .int 5] else []
def besD (j : Nat) : Nat := if j = 1 then 2 else if j = 2 then 1 else 0
theorem bes_due : ∀ j, j < 4 → dueO (some (besO j)) = besD j := by
  have key : ∀ j ∈ List.range 4, dueO (some (besO j)) = besD j := by decide +kernel
  exact fun j h => key j (List.mem_range.mpr h)
theorem bes_wv {K : PySem.W.Frag} {H : Hp} (j : Nat) : (∀ x ∈ besO j, WV K H x) ∧ (besO j).length ≤ 1000 := by
  have st : ∀ a : Str, a.length ≤ 1000000 → WV K H (.str a) := fun a h1 => .inl ⟨a, rfl, h1⟩
  unfold besO
  split
  · refine ⟨fun x hx => ?_, by decide⟩
    rcases List.mem_cons.mp hx with z | z
    · rw [z]; exact st _ (by decide +kernel)
    · rw [List.mem_singleton.mp z]; exact st _ (by decide +kernel)
  · split
    · refine ⟨fun x hx => ?_, by decide⟩
      obtain ⟨l, h1, h2⟩ := List.mem_flatten.mp hx
      rw [List.eq_of_mem_replicate h1] at h2
      rw [List.mem_singleton.mp h2]
      exact st _ (by decide +kernel)
    · split
      · refine ⟨fun x hx => ?_, by decide⟩
        rcases List.mem_cons.mp hx with z | z
        · rw [z]; exact st _ (by decide +kernel)
        · rw [List.mem_singleton.mp z]; exact .inr (.int _)
      · exact ⟨fun x hx => (by cases hx), by decide⟩
section
variable {P : Program} {w : World} {K : PySem.W.Frag} {mg : Str → Option Value} {base : Heap}
theorem scWrong : FnScope ["_law_cell", "_law_some"] ["_law_cell"] (defScope sWrong) := ⟨rfl, rfl, rfl, by decide +kernel, rfl, by decide +kernel, by decide +kernel⟩
def spWrong (K : PySem.W.Frag) : Sp := fun vs H Q _ => ∃ c : Int, vs = [.int c] ∧ ∀ (H' : Hp) (v : V), Same H H' → (∀ D o, H D ≠ none → WV K (upd H' D o) v) → isW v = false → Q v H'
theorem ok_wrong {f : Addr} {fd : FuncData} (F : FnP K "_law_wrong" sWrong f fd) : FnOk P w K mg base (L2.CX P w) 1 f fd ["_law_cell"] (spWrong K) := by
  refine F.ok scWrong (fun vs H Q E h => ?_) (fun cdv A outer s H vs Q E hr h => ?_)
  · obtain ⟨c, rfl, _⟩ := h
    rfl
  · obtain ⟨c, rfl, q⟩ := h
    refine ⟨_, pss_cons (ps_set (i := 1) scWrong.nd rfl (.inl rfl) (pe_lst (pa_cons pe_str (pa_cons (pe_op Rs2.op_repS pe_str pe_int) (pa_cons pe_str (pa_cons pe_int (pa_cons pe_non (pa_cons pe_bl (pa_cons (pe_lst (pa_cons pe_str pa_nil)) (pa_cons (pe_tup (pa_cons pe_str (pa_cons pe_str pa_nil))) (pa_cons pe_str (pa_cons pe_str (pa_cons pe_str (pa_cons pe_str pa_nil))))))))))))))
      (pss_one (ps_ret (pe_ix ix_list (pv 1) (pe_op op_mod (pv 0) pe_int) (fun _ _ => rfl)))), ?_⟩
    refine ⟨"a", 41, rfl, rfl, by decide, by decide, by decide +kernel, by decide +kernel, by decide +kernel, by show 1 ≤ sizeLine; decide, fun A nA => ⟨by show 2 ≤ sizeLine; decide, fun B nB => ⟨by show 12 ≤ sizeLine; decide, fun L nL => ?_⟩⟩⟩
    have u1 := same_upd nA (o := .lst [.str "a"])
    have u2 := same_upd nB (o := .tup [.str "a", .str "b"])
    have u3 := same_upd nL (o := .lst (wrongL A B))
    have hA := u3 _ _ (u2 _ _ (upd_same (H := H) (a := A) (o := .lst [.str "a"])))
    have hB := u3 _ _ (upd_same (H := upd H A (.lst [.str "a"])) (a := B) (o := .tup [.str "a", .str "b"]))
    have hL : (upd (upd (upd H A (.lst [.str "a"])) B (.tup [.str "a", .str "b"])) L (.lst (wrongL A B))) L = some (.lst (wrongL A B)) := upd_same
    have s3 := u1.trans (u2.trans u3)
    have lt := ltM (c := c) (n := 12) (by decide)
    obtain ⟨v, hv⟩ : ∃ v, (wrongL A B)[(c % ((12 : Nat) : Int)).toNat]? = some v := ⟨_, List.getElem?_eq_getElem (show (c % ((12 : Nat) : Int)).toNat < (wrongL A B).length from lt)⟩
    have nB' : H B = none := u1.free nB
    obtain ⟨_, w2⟩ := wrong_at (K := K) (.inl (.inl hA)) (.inl (.inl hB)) v (List.mem_of_getElem? hv)
    have w1 : ∀ D o, H D ≠ none → WV K (upd (upd (upd (upd H A (.lst [.str "a"])) B (.tup [.str "a", .str "b"])) L (.lst (wrongL A B))) D o) v := fun D o hD =>
      (wrong_at (K := K) (.inl (.inl (by rw [upd_ne (fun z => hD (by rw [← z]; exact nA))]; exact hA))) (.inl (.inl (by rw [upd_ne (fun z => hD (by rw [← z]; exact nB'))]; exact hB))) v (List.mem_of_getElem? hv)).1
    exact ⟨_, rfl, _, rfl, _, _, rfl, rfl, (by show (0 : Int) < 12; decide), L, _, _, v, rfl, rfl, .inl (.inl hL), atM (n := 12) (by decide) hv, q _ v s3 w1 w2⟩
abbrev lpnN : List Str := ["_law_script", "_law_words", "_law_due", "_law_kind", "_law_beside", "_law_more", "_law_way", "_law_found", "_law_first"]
theorem scPair : FnScope lpnN ["_law_script", "_law_words", "_law_due"] (defScope sPair) := ⟨rfl, rfl, rfl, by decide +kernel, rfl, by decide +kernel, by decide +kernel⟩
def spPair (K : PySem.W.Frag) (Ps : List Addr) : Sp := fun vs H Q _ => ∃ (a : Addr) (ns : List Int) (v : V) (o : Option (List V)), vs = [.ref a, v, .str (dueS (dueO o))] ∧ SqL K H a (ns.map V.int) ∧ TextV K H v o ∧ Tb Ps H ∧ ∀ H', Kp Ps H H' → Q (.bl true) H'
theorem ok_pair {Ps : List Addr} {f fC fT fA : Addr} {fd fdC fdT fdA : FuncData} (F : FnP K "_law_pair" sPair f fd)
    (GC : FnOk P w K mg base (L2.CX P w) 1 fC fdC ["_law_script", "_law_k"] (spCell K)) (kC : PySem.W.keepIn K (.ref fC) = true) (bC : Binds K fdC ["_law_script", "_law_k"] []) (gC : mg "_law_cell_at" = some (.ref fC))
    (GT : FnOk P w K mg base (L2.CX P w) 12 fT fdT ["_law_way", "_law_one", "_law_other"] (spTried K Ps)) (kT : PySem.W.keepIn K (.ref fT) = true) (bT : Binds K fdT ["_law_way", "_law_one", "_law_other"] []) (gT : mg "_law_tried" = some (.ref fT))
    (GA : FnOk P w K mg base (L2.CX P w) 12 fA fdA ["_law_way", "_law_one", "_law_other"] (spAny K Ps)) (kA : PySem.W.keepIn K (.ref fA) = true) (bA : Binds K fdA ["_law_way", "_law_one", "_law_other"] []) (gA : mg "_law_any" = some (.ref fA))
    (mN : mg "int" = none) (mR : mg "range" = none) : FnOk P w K mg base (L2.CX P w) 13 f fd ["_law_script", "_law_words", "_law_due"] (spPair K Ps) := by
  refine F.ok scPair (fun vs H Q E h => ?_) (fun cdv A outer s H vs Q E hr h => ?_)
  · obtain ⟨a, ns, v, o, rfl, _⟩ := h
    rfl
  · obtain ⟨a, ns, v, o, rfl, hS, hv, ht, q⟩ := h
    have r1 : Room 1 (A.deeper (envOfC "_law_pair" (defScope sPair) s.heap.objs.size f cdv)) := hr.mono (by decide)
    refine ⟨_, pss_cons (ps_set (i := 3) scPair.nd rfl (.inl rfl) (pe_op op_mod (pe_call GC r1 (by rfl) gC kC bC .nil passL (pa_cons (pv 0) (pa_cons pe_int pa_nil))) pe_int))
      (pss_cons (ps_set (i := 4) scPair.nd rfl (.inl rfl) (pe_ix ix_list (pe_lst (pa_cons (pe_lst (pa_cons pe_str (pa_cons pe_str pa_nil))) (pa_cons (pe_op op_rep (pe_lst (pa_cons pe_str pa_nil)) pe_int) (pa_cons (pe_lst (pa_cons pe_str (pa_cons pe_int pa_nil))) (pa_cons (pe_lst pa_nil) pa_nil))))) (pv 3) (fun _ _ => rfl)))
      (pss_cons (ps_set (i := 5) scPair.nd rfl (.inl rfl) (pe_ix ix_list (pe_lst (pa_cons pe_str (pa_cons pe_str (pa_cons pe_str (pa_cons pe_str pa_nil))))) (pv 3) (fun _ _ => rfl)))
      (pss_cons (ps_for (passes_of rfl) rfl (pi_range2 (by rfl) mR (pa_cons pe_int (pa_cons pe_int pa_nil))) (pg_name (i := 6) scPair.nd rfl (.inl rfl))
        (pss_cut (ps_if (pt_cmpR op_eq (pe_op op_mod (pe_op op_fdiv (pe_call GC r1 (by rfl) gC kC bC .nil passL (pa_cons (pv 0) (pa_cons pe_int pa_nil))) pe_int) pe_int) pe_int (nomark _))
          (pss_cons (ps_set (i := 7) scPair.nd rfl (.inl rfl) (pe_call GT (hr.mono (by decide)) (by rfl) gT kT bT .nil passL (pa_cons (pv 6) (pa_cons (pv 1) (pa_cons (pv 4) pa_nil)))))
          (pss_one (ps_set (i := 8) scPair.nd rfl (.inl rfl) (pe_ix ix_list (pe_lst (pa_cons (pv 2) (pa_cons (pv 5) pa_nil))) (pe_callTy call_int1 (by rfl) mN (by decide +kernel) (pa_cons (pe_cmpR op_eq (pv 2) pe_str (nomark _)) pa_nil)) (fun _ _ => rfl)))))
          (pss_cons (ps_set (i := 7) scPair.nd rfl (.inl rfl) (pe_call GT (hr.mono (by decide)) (by rfl) gT kT bT .nil passL (pa_cons (pv 6) (pa_cons (pv 4) (pa_cons (pv 1) pa_nil)))))
          (pss_one (ps_set (i := 8) scPair.nd rfl (.inl rfl) (pe_ix ix_list (pe_lst (pa_cons (pv 5) (pa_cons (pv 2) pa_nil))) (pe_callTy call_int1 (by rfl) mN (by decide +kernel) (pa_cons (pe_cmpR op_eq (pv 5) pe_str (nomark _)) pa_nil)) (fun _ _ => rfl))))))
        (pss_one (ps_if (pt_cmpR op_ne (pv 7) (pv 8) (nomark _)) pss_never pss_nil))))
      (pss_one (ps_ret (pe_cmpR op_eq (pe_call GA (hr.mono (by decide)) (by rfl) gA kA bA .nil passL (pa_cons pe_int (pa_cons (pv 1) (pa_cons (pv 4) pa_nil)))) (pe_or (pe_cmpR op_ne (pv 2) pe_str (nomark _)) (pe_one (pe_cmpR op_ne (pv 5) pe_str (nomark _)))) (by rfl))))))), ?_⟩
    refine ⟨_, rfl, a, ns, 10, rfl, hS, _, _, rfl, rfl, (by show (0 : Int) < 4; decide), ?_⟩
    dsimp only
    have lt := ltM (c := L2.cellOf ns 10) (n := 4) (by decide)
    have ej : L2.cellOf ns 10 % 4 = (((L2.cellOf ns 10 % ((4 : Nat) : Int)).toNat : Nat) : Int) := (Int.toNat_of_nonneg (Int.emod_nonneg _ (by decide))).symm
    rw [ej]
    generalize (L2.cellOf ns 10 % ((4 : Nat) : Int)).toNat = j at lt
    -- beside
    refine ⟨by show 2 ≤ sizeLine; decide, fun B1 n1 => ⟨by show 1 ≤ sizeLine; decide, fun B2 n2 => ?_⟩⟩
    have u1 := same_upd n1 (o := .lst [.str "a", .str "b"])
    have u2 := same_upd n2 (o := .lst [.str "a"])
    have h1 := u2 _ _ (upd_same (H := H) (a := B1) (o := .lst [.str "a", .str "b"]))
    have h2 : (upd (upd H B1 (.lst [.str "a", .str "b"])) B2 (.lst [.str "a"])) B2 = some (.lst [.str "a"]) := upd_same
    have s12 := u1.trans u2
    generalize upd (upd H B1 (.lst [.str "a", .str "b"])) B2 (.lst [.str "a"]) = H1 at s12 h1 h2 ⊢
    refine ⟨B2, 121, _, rfl, rfl, h2, by decide, by decide, by decide, fun B3 n3 => ⟨by show 2 ≤ sizeLine; decide, fun B4 n4 => ⟨by show 0 ≤ sizeLine; decide, fun B5 n5 => ⟨by show 4 ≤ sizeLine; decide, fun L nL => ?_⟩⟩⟩⟩
    have u3 := same_upd n3 (o := .lst (List.replicate ((121 : Int)).toNat [V.str "a"]).flatten)
    have u4 := same_upd n4 (o := .lst [.str "a", .int 5])
    have u5 := same_upd n5 (o := .lst [])
    have u6 := same_upd nL (o := .lst [.ref B1, .ref B3, .ref B4, .ref B5])
    have u36 := u3.trans (u4.trans (u5.trans u6))
    have g1 := u36 _ _ h1
    have g3 := (u4.trans (u5.trans u6)) _ _ (upd_same (H := H1) (a := B3) (o := .lst (List.replicate ((121 : Int)).toNat [V.str "a"]).flatten))
    have g4 := (u5.trans u6) _ _ (upd_same (H := upd H1 B3 (.lst (List.replicate ((121 : Int)).toNat [V.str "a"]).flatten)) (a := B4) (o := .lst [.str "a", .int 5]))
    have g5 := u6 _ _ (upd_same (H := upd (upd H1 B3 (.lst (List.replicate ((121 : Int)).toNat [V.str "a"]).flatten)) B4 (.lst [.str "a", .int 5])) (a := B5) (o := .lst []))
    have gL := upd_same (H := upd (upd (upd H1 B3 (.lst (List.replicate ((121 : Int)).toNat [V.str "a"]).flatten)) B4 (.lst [.str "a", .int 5])) B5 (.lst [])) (a := L) (o := .lst [.ref B1, .ref B3, .ref B4, .ref B5])
    generalize upd (upd (upd (upd H1 B3 (.lst (List.replicate ((121 : Int)).toNat [V.str "a"]).flatten)) B4 (.lst [.str "a", .int 5])) B5 (.lst [])) L (.lst [.ref B1, .ref B3, .ref B4, .ref B5]) = H2 at u36 g1 g3 g4 g5 gL ⊢
    have s02 := s12.trans u36
    obtain ⟨B, hLB, hB⟩ : ∃ B, ([.ref B1, .ref B3, .ref B4, .ref B5] : List V)[j]? = some (.ref B) ∧ H2 B = some (.lst (besO j)) := by
      match j, lt with
      | 0, _ => exact ⟨B1, rfl, g1⟩
      | 1, _ => exact ⟨B3, rfl, g3⟩
      | 2, _ => exact ⟨B4, rfl, g4⟩
      | 3, _ => exact ⟨B5, rfl, g5⟩
    refine ⟨_, rfl, L, _, _, _, rfl, rfl, .inl (.inl gL), atI_nat hLB, ?_⟩
    refine ⟨by show 4 ≤ sizeLine; decide, fun L2 nL2 => ?_⟩
    have u7 := same_upd nL2 (o := .lst [.str "", .str "too long", .str "no word", .str ""])
    have hM : ([.str "", .str "too long", .str "no word", .str ""] : List V)[j]? = some (.str (dueS (besD j))) := by
      match j, lt with
      | 0, _ => rfl
      | 1, _ => rfl
      | 2, _ => rfl
      | 3, _ => rfl
    have gL2 : (upd H2 L2 (.lst [.str "", .str "too long", .str "no word", .str ""])) L2 = some (.lst [.str "", .str "too long", .str "no word", .str ""]) := upd_same
    have hB3 := u7 _ _ hB
    generalize upd H2 L2 (.lst [.str "", .str "too long", .str "no word", .str ""]) = H3 at u7 gL2 hB3 ⊢
    refine ⟨_, rfl, L2, _, _, _, rfl, rfl, .inl (.inl gL2), atI_nat hM, ?_⟩
    have s03 := s02.trans u7
    have t3 := ht.same s03
    have hS3 := s03.seq hS
    have hv3 := hv.same s03
    have bd := bes_due j lt
    have hb3 : TextV K H3 (.ref B) (some (besO j)) := ⟨B, rfl, .inl (.inl hB3), (bes_wv j).1, (bes_wv (K := K) (H := H3) j).2⟩
    generalize besO j = bo at bd hb3
    generalize besD j = bj at bd
    subst bd
    generalize some bo = o2 at hb3
    refine ⟨2, 6, rfl, ⟨by decide, by decide, by decide, by decide⟩, ?_⟩
    refine for_range (lo := 2) (n := 4) (fun i σ' H' => ∃ y6 y7 y8, σ' = [some (.ref a), some v, some (.str (dueS (dueO o))), some (.int (j : Int)), some (.ref B), some (.str (dueS (dueO o2))), y6, y7, y8] ∧ Kp Ps H3 H') ⟨none, none, none, rfl, Kp.refl t3⟩ (fun i σ' H4 hi hp => ?_) (fun σ' H4 hp => ?_)
    · obtain ⟨y6, y7, y8, rfl, k4⟩ := hp
      have hS4 := k4.seq t3 hS3
      have hv4 := hv3.kp t3 k4
      have hb4 := hb3.kp t3 k4
      have t4 := k4.1
      have ew : (2 : Int) + (i : Int) = ((2 + i : Nat) : Int) := by omega
      rw [ew]
      refine ⟨fun σ5 H5 => ∃ x, σ5 = [some (.ref a), some v, some (.str (dueS (dueO o))), some (.int (j : Int)), some (.ref B), some (.str (dueS (dueO o2))), some (.int ((2 + i : Nat) : Int)), some (.str x), some (.str x)] ∧ Kp Ps H3 H5, ?_, fun σ5 H5 hM => ?_⟩
      · refine ⟨_, rfl, a, ns, 10, rfl, hS4, _, _, rfl, rfl, ⟨by decide, by decide⟩, _, _, rfl, rfl, (by show (0 : Int) < 2; decide), rfl, _, rfl, ite2 (fun _ => ?_) (fun _ => ?_)⟩
        · refine ⟨_, rfl, _, rfl, _, rfl, 2 + i, v, .ref B, dueP o o2, rfl, .inr (.inr ⟨by omega, by omega, o, o2, hv4, hb4, rfl⟩), t4, fun H6 k6 => ?_⟩
          refine ⟨_, rfl, _, rfl, by show 2 ≤ sizeLine; decide, fun L5 nL5 => ⟨_, rfl, rfl, .inr ⟨_, rfl, L5, _, _, _, rfl, rfl, .inl (.inl upd_same), due_pick _ _, dueS (dueP o o2), rfl, (k4.trans k6).trans (Kp.new k6.1 nL5)⟩⟩⟩
        · refine ⟨_, rfl, _, rfl, _, rfl, 2 + i, .ref B, v, dueP o2 o, rfl, .inr (.inr ⟨by omega, by omega, o2, o, hb4, hv4, rfl⟩), t4, fun H6 k6 => ?_⟩
          refine ⟨_, rfl, _, rfl, by show 2 ≤ sizeLine; decide, fun L5 nL5 => ⟨_, rfl, rfl, .inr ⟨_, rfl, L5, _, _, _, rfl, rfl, .inl (.inl upd_same), due_pick _ _, dueS (dueP o2 o), rfl, (k4.trans k6).trans (Kp.new k6.1 nL5)⟩⟩⟩
      · obtain ⟨x, rfl, k5⟩ := hM
        refine ⟨_, rfl, _, rfl, rfl, _, rfl, ?_⟩
        rw [show decide (V.str x = V.str x) = true from decide_eq_true rfl]
        exact iteF ⟨_, _, _, rfl, k5⟩
    · obtain ⟨y6, y7, y8, rfl, k4⟩ := hp
      have hv4 := hv3.kp t3 k4
      have hb4 := hb3.kp t3 k4
      refine ⟨_, rfl, _, rfl, 2, v, .ref B, dueP o o2, rfl, .inr (.inr ⟨by omega, by omega, o, o2, hv4, hb4, rfl⟩), k4.1, fun H6 k6 => ?_⟩
      have kq := q H6 ((Kp.same ht s03).trans (k4.trans k6))
      refine ⟨_, rfl, rfl, _, rfl, ?_⟩
      rw [dueS_dec]
      by_cases h : dueO o = 0
      · have e : dueP o o2 = dueO o2 := if_pos h
        rw [decide_eq_true h, e]
        refine iteF ⟨_, rfl, rfl, rfl, ?_⟩
        rw [dueS_dec]
        by_cases h2 : dueO o2 = 0
        · rw [show decide (dueO o2 ≠ 0) = false from decide_eq_false fun z => z h2, decide_eq_true h2]
          exact kq
        · rw [show decide (dueO o2 ≠ 0) = true from decide_eq_true h2, decide_eq_false h2]
          exact kq
      · have e : dueP o o2 = dueO o := if_neg h
        rw [decide_eq_false h, e, show decide (dueO o ≠ 0) = true from decide_eq_true h]
        exact iteT ⟨rfl, kq⟩
end
/-- what isinstance asks of an own class of errors -/
def excB (K : PySem.W.Frag) (D : Addr) : Bool := He.eqO (PySem.W.findIn K (.ref D) "__getattribute__") (some (some (.builtin "BaseException.__getattribute__"))) && (He.eqO (PySem.W.findIn K (.ref D) "__getattr__") (some none) &&
  (decide (PySem.W.subIn K (.ref D) (.type "BaseException") = some true) && (PySem.W.hasDictIn K D && (He.eqO (PySem.W.findIn K (.ref D) "__class__") (some (some (.builtin "object.__class__"))) &&
  (He.eqO (PySem.W.specialIn K (.builtin "object.__class__") "__get__") (some (some (.builtin "getset_descriptor.__get__"))) && (decide (PySem.W.takesIn K (.builtin "object.__class__") = some true) && (decide (PySem.W.mroIn K D (.type "object") = some true) &&
  decide (PySem.W.kitOne K (.ref D) (.type "ValueError") = some true))))))))
theorem excB_ok {K : PySem.W.Frag} {D : Addr} (h : excB K D = true) : L2.ExcC K D ∧ PySem.W.kitOne K (.ref D) (.type "ValueError") = some true := by
  unfold excB at h
  obtain ⟨h1, h⟩ := He.ba h
  obtain ⟨h2, h⟩ := He.ba h
  obtain ⟨h3, h⟩ := He.ba h
  obtain ⟨h4, h⟩ := He.ba h
  obtain ⟨h5, h⟩ := He.ba h
  obtain ⟨h6, h⟩ := He.ba h
  obtain ⟨h7, h⟩ := He.ba h
  obtain ⟨h8, h9⟩ := He.ba h
  exact ⟨⟨He.eqO_ok h1, He.eqO_ok h2, of_decide_eq_true h3, h4, He.eqO_ok h5, He.eqO_ok h6, of_decide_eq_true h7, of_decide_eq_true h8⟩, of_decide_eq_true h9⟩
/-! ### the law: words refused -/
def NW (a : Str) : Prop := a.length ≠ 0 ∧ ∀ c ∈ a.cps.toList, Unicode.isSpace c = false
theorem nw_word {a : Str} (h : wordB a = true) : NW a := ⟨by have := wordB_len h; omega, word_nosp h⟩
theorem scan_join : ∀ (l : List Str), ∀ x : Str, (∀ a ∈ l, NW a) → NW x → KWd.scan (Txt.join " " (l ++ [x])) = (l, x) := by
  refine snocInd (fun x _ hx => ?_) fun l y ih x hl hx => ?_
  · have e := scan_app Str.empty x
    rw [emp_app] at e
    have e0 : KWd.scan Str.empty = ([], Str.empty) := rfl
    rw [List.nil_append, join_one, e, e0, fold_word _ _ _ hx.2, str_eta, emp_app]
  · have hy := hl y (List.mem_append_right _ List.mem_cons_self)
    have sp : ∀ c ∈ (" " : Str).cps.toList, Unicode.isSpace c = true := by decide +kernel
    have ne : (" " : Str).cps.toList ≠ [] := by decide +kernel
    rw [join_snoc _ _ (by simp), scan_app, scan_app, ih y (fun a ha => hl a (List.mem_append_left _ ha)) hy, fold_gap sp ne hy.1, fold_word _ _ _ hx.2, str_eta, emp_app]
theorem words_join {ws : List Str} (h : ∀ a ∈ ws, NW a) : Txt.words (Txt.join " " ws) = ws := by
  rcases Classical.em (ws = []) with z | z
  · subst z
    rw [join_none]
    have e0 : KWd.scan Str.empty = ([], Str.empty) := rfl
    rw [KWd.words_of e0]
    rfl
  · obtain ⟨l, x, rfl⟩ : ∃ l x, ws = l ++ [x] := ⟨_, _, (List.dropLast_concat_getLast z).symm⟩
    have hx := h x (List.mem_append_right _ List.mem_cons_self)
    rw [KWd.words_of (scan_join l x (fun a ha => h a (List.mem_append_left _ ha)) hx), if_neg hx.1]
def b41 : Str := Rs2.repS "b" 41
theorem b41_nw : NW b41 ∧ b41.length = 41 ∧ wordB b41 = false := ⟨⟨by decide +kernel, by decide +kernel⟩, by decide +kernel, by decide +kernel⟩
theorem due_words {ws : List Str} (hw : ∀ a ∈ ws, wordB a = true) : dueO (some (ws.map V.str)) = if 120 < ws.length then 2 else 0 := by
  unfold dueO
  rw [if_pos (wordsB_good hw)]
  have e : shortB (some (ws.map V.str)) = decide (ws.length ≤ 120) := by
    show decide ((ws.map V.str).length ≤ 120) = _
    rw [List.length_map]
  rw [e]
  by_cases h : ws.length ≤ 120
  · rw [decide_eq_true h, if_pos rfl, if_neg (by omega)]
  · rw [decide_eq_false h, if_neg Bool.false_ne_true, if_pos (by omega)]
theorem due_ins {xs ys : List V} {y : V} (h : isW y = false) : dueO (some (xs ++ [y] ++ ys)) = 1 := by
  refine dueO_bad ?_
  show (xs ++ [y] ++ ys).all isW = false
  rw [List.all_append, List.all_append, List.all_cons, h]
  simp
theorem due_int (m : Nat) : atI ([.str "", .str "too long"] : List V) (if decide ((120 : Int) < (m : Int)) = true then 1 else 0) = some (.str (dueS (if 120 < m then 2 else 0))) := by
  by_cases h : 120 < m
  · rw [decide_eq_true (show (120 : Int) < (m : Int) by omega), if_pos rfl, if_pos h]
    rfl
  · rw [decide_eq_false (show ¬ (120 : Int) < (m : Int) by omega), if_neg Bool.false_ne_true, if_neg h]
    rfl
theorem sum_41 {ws : List Str} (h : ∀ a ∈ ws, a.length ≤ 41) : (ws.map (·.length)).sum ≤ 41 * ws.length := by
  induction ws with
  | nil => exact Nat.zero_le _
  | cons a r ih =>
    have h1 := h a List.mem_cons_self
    have h2 := ih fun b hb => h b (List.mem_cons_of_mem _ hb)
    rw [List.map_cons, List.sum_cons, List.length_cons]
    omega
section
variable {P : Program} {w : World} {K : PySem.W.Frag} {mg : Str → Option Value} {base : Heap}
abbrev l2N : List Str := ["_law_script", "_law_size", "_law_words", "_law_due", "_law_at", "_law_mixed", "_law_kind", "_law_line", "_law_k"]
theorem scLaw : FnScope l2N ["_law_script"] (defScope sLaw) := ⟨rfl, rfl, rfl, by decide +kernel, rfl, by decide +kernel, by decide +kernel⟩
def spLaw (K : PySem.W.Frag) (Ps : List Addr) : Sp := fun vs H Q _ => ∃ (a : Addr) (ns : List Int), vs = [.ref a] ∧ SqL K H a (ns.map V.int) ∧ Tb Ps H ∧ ∀ H', Q (.bl true) H'
theorem ok_law {Ps : List Addr} {f fC fB fW fT fA fP : Addr} {fd fdC fdB fdW fdT fdA fdP : FuncData} (F : FnP K "law" sLaw f fd)
    (GC : FnOk P w K mg base (L2.CX P w) 1 fC fdC ["_law_script", "_law_k"] (spCell K)) (kC : PySem.W.keepIn K (.ref fC) = true) (bC : Binds K fdC ["_law_script", "_law_k"] []) (gC : mg "_law_cell_at" = some (.ref fC))
    (GB : FnOk P w K mg base (L2.CX P w) 2 fB fdB ["_law_cell"] spWordBy) (kB : PySem.W.keepIn K (.ref fB) = true) (bB : Binds K fdB ["_law_cell"] []) (gB : mg "_law_word_by" = some (.ref fB))
    (GW : FnOk P w K mg base (L2.CX P w) 1 fW fdW ["_law_cell"] (spWrong K)) (kW : PySem.W.keepIn K (.ref fW) = true) (bW : Binds K fdW ["_law_cell"] []) (gW : mg "_law_wrong" = some (.ref fW))
    (GT : FnOk P w K mg base (L2.CX P w) 12 fT fdT ["_law_way", "_law_one", "_law_other"] (spTried K Ps)) (kT : PySem.W.keepIn K (.ref fT) = true) (bT : Binds K fdT ["_law_way", "_law_one", "_law_other"] []) (gT : mg "_law_tried" = some (.ref fT))
    (GA : FnOk P w K mg base (L2.CX P w) 12 fA fdA ["_law_way", "_law_one", "_law_other"] (spAny K Ps)) (kA : PySem.W.keepIn K (.ref fA) = true) (bA : Binds K fdA ["_law_way", "_law_one", "_law_other"] []) (gA : mg "_law_any" = some (.ref fA))
    (GP : FnOk P w K mg base (L2.CX P w) 13 fP fdP ["_law_script", "_law_words", "_law_due"] (spPair K Ps)) (kP : PySem.W.keepIn K (.ref fP) = true) (bP : Binds K fdP ["_law_script", "_law_words", "_law_due"] []) (gP : mg "_law_pair" = some (.ref fP))
    (mR : mg "range" = none) (mN : mg "int" = none) (mT : mg "list" = none) (mU : mg "tuple" = none) {t1 t2 : Tok} (mLO : mg "LONGEST" = some (.int 40 t1)) (mMO : mg "MOST" = some (.int 120 t2)) : FnOk P w K mg base (L2.CX P w) 14 f fd ["_law_script"] (spLaw K Ps) := by
  refine F.ok scLaw (fun vs H Q E h => ?_) (fun cdv A outer s H vs Q E hr h => ?_)
  · obtain ⟨a, ns, rfl, _⟩ := h
    rfl
  · obtain ⟨a, ns, rfl, hS, ht, q⟩ := h
    have r1 : Room 1 (A.deeper (envOfC "law" (defScope sLaw) s.heap.objs.size f cdv)) := hr.mono (by decide)
    have r2 : Room 2 (A.deeper (envOfC "law" (defScope sLaw) s.heap.objs.size f cdv)) := hr.mono (by decide)
    have r12 : Room 12 (A.deeper (envOfC "law" (defScope sLaw) s.heap.objs.size f cdv)) := hr.mono (by decide)
    refine ⟨_, (pss_cons (ps_set (i := 1) scLaw.nd rfl (.inl rfl) (pe_op op_mod (pe_call GC r1 (by rfl) gC kC bC .nil passL (pa_cons (pv 0) (pa_cons pe_int pa_nil))) pe_int))
      (pss_cut (ps_if (pt_cmpR op_eq (pe_op op_mod (pe_op op_fdiv (pe_call GC r1 (by rfl) gC kC bC .nil passL (pa_cons (pv 0) (pa_cons pe_int pa_nil))) pe_int) pe_int) pe_int (nomark _))
        (pss_one (ps_set (i := 1) scLaw.nd rfl (.inl rfl) (pe_op op_add pe_int (pe_op op_mod (pe_op op_fdiv (pe_call GC r1 (by rfl) gC kC bC .nil passL (pa_cons (pv 0) (pa_cons pe_int pa_nil))) pe_int) pe_int)))) pss_nil)
      (pss_cons (ps_setLc (i := 2) (own := [("_law_k", 8)]) (g := gName 8) (tt := tYes) rfl scLaw.nd rfl rfl (sw_true rfl rfl rfl (by decide +kernel)) (pi_range1 (by rfl) mR (pa_cons (pv 1) pa_nil)) (blkOk_by (N := l2N) (sc := defScope sLaw) (by decide +kernel))
        (fun _ _ _ _ _ => pg_name (i := 8) scLaw.nd rfl (Or.inl rfl)) (fun _ _ _ _ _ => pts_nil)
        (fun _ _ _ _ _ => pe_call GB r2 (by rfl) gB kB bB .nil passL (pa_cons (pe_op op_add (pe_call GC r1 (by rfl) gC kC bC .nil passL (pa_cons (pv 0) (pa_cons (pe_op op_add pe_int (pe_op op_mod (pv 8) pe_int)) pa_nil))) (pe_op op_mul pe_int (pv 8))) pa_nil)))
      (pss_cons (ps_set (i := 3) scLaw.nd rfl (.inl rfl) (pe_ix ix_list (pe_lst (pa_cons pe_str (pa_cons pe_str pa_nil))) (pe_callTy call_int1 (by rfl) mN (by decide +kernel) (pa_cons (pe_cmpR op_gt (pv 1) pe_int (nomark _)) pa_nil)) (fun _ _ => rfl)))
      (pss_cons (ps_set (i := 4) scLaw.nd rfl (.inl rfl) (pe_op op_mod (pe_call GC r1 (by rfl) gC kC bC .nil passL (pa_cons (pv 0) (pa_cons pe_int pa_nil))) (pe_op op_add (pv 1) pe_int)))
      (pss_cons (ps_set (i := 5) scLaw.nd rfl (.inl rfl) (pe_callTy call_list_of (by rfl) mT (by decide +kernel) (pa_cons (pv 2) pa_nil)))
      (pss_cons (ps_set (i := 6) scLaw.nd rfl (.inl rfl) (pe_op op_mod (pe_call GC r1 (by rfl) gC kC bC .nil passL (pa_cons (pv 0) (pa_cons pe_int pa_nil))) pe_int))
      (pss_cut (ps_if (PW.pt (pw_or (pt_cmpR op_eq (pv 6) pe_int (nomark _)) (pw_or1 (pt_cmpR op_eq (pv 6) pe_int (nomark _)))))
        (pss_cons (ps_expr (pe_bm PySem.F.plainAttrs_list PySem.F.slot_list_insert PySem.F.type_list_insert mt_insert (pv 5) (pa_cons (pv 4) (pa_cons (pe_call GW r1 (by rfl) gW kW bW .nil passL (pa_cons (pe_call GC r1 (by rfl) gC kC bC .nil passL (pa_cons (pv 0) (pa_cons pe_int pa_nil))) pa_nil)) pa_nil))))
        (pss_one (ps_set (i := 3) scLaw.nd rfl (.inl rfl) pe_str))) pss_nil)
      (pss_cut (ps_if (pt_cmpR op_eq (pv 6) pe_int (nomark _))
        (pss_cons (ps_set (i := 5) scLaw.nd rfl (.inl rfl) (pe_ix ix_list (pe_lst (pa_cons (pe_callTy call_tuple_of (by rfl) mU (by decide +kernel) (pa_cons (pv 5) pa_nil)) (pa_cons pe_str (pa_cons pe_non (pa_cons pe_int (pa_cons (pe_disp (pps_cons pe_str pe_int pps_nil) (by rfl) (by rfl) (fun z => by cases z) (by decide)) (pa_cons pe_dnewK pa_nil))))))) (pe_op op_mod (pe_call GC r1 (by rfl) gC kC bC .nil passL (pa_cons (pv 0) (pa_cons pe_int pa_nil))) pe_int) (fun _ _ => rfl)))
        (pss_one (ps_set (i := 3) scLaw.nd rfl (.inl rfl) pe_str))) pss_nil)
      (pss_cons (ps_if (PW.pt (pw_or (pt_cmpR op_ne (pe_call GT r12 (by rfl) gT kT bT .nil passL (pa_cons pe_int (pa_cons (pv 5) (pa_cons (pe_lst pa_nil) pa_nil)))) (pv 3) (by rfl))
          (pw_or (pt_cmpR op_ne (pe_call GA r12 (by rfl) gA kA bA .nil passL (pa_cons pe_int (pa_cons (pv 5) (pa_cons (pe_lst pa_nil) pa_nil)))) (pe_cmpR op_ne (pv 3) pe_str (nomark _)) (by rfl))
          (pw_or (pt_cmpR op_ne (pe_glob (v := .int 40) (by rfl) mLO ⟨_, rfl⟩) pe_int (nomark _)) (pw_or1 (pt_cmpR op_ne (pe_glob (v := .int 120) (by rfl) mMO ⟨_, rfl⟩) pe_int (nomark _))))))) pss_never pss_nil)
      (pss_cons (ps_if (pt_not (pt_val (pe_call GP hr (by rfl) gP kP bP .nil passL (pa_cons (pv 0) (pa_cons (pv 5) (pa_cons (pv 3) pa_nil)))))) pss_never pss_nil)
      (pss_cons (ps_set (i := 7) scLaw.nd rfl (.inl rfl) (pe_callTy call_list_of (by rfl) mT (by decide +kernel) (pa_cons (pv 2) pa_nil)))
      (pss_cons (ps_set (i := 3) scLaw.nd rfl (.inl rfl) (pe_ix ix_list (pe_lst (pa_cons pe_str (pa_cons pe_str pa_nil))) (pe_callTy call_int1 (by rfl) mN (by decide +kernel) (pa_cons (pe_cmpR op_gt (pv 1) pe_int (nomark _)) pa_nil)) (fun _ _ => rfl)))
      (pss_cut (ps_if (pt_cmpR op_eq (pv 6) pe_int (nomark _))
        (pss_cons (ps_expr (pe_bm PySem.F.plainAttrs_list PySem.F.slot_list_insert PySem.F.type_list_insert mt_insert (pv 7) (pa_cons (pv 4) (pa_cons (pe_op Rs2.op_repS pe_str pe_int) pa_nil))))
        (pss_one (ps_set (i := 3) scLaw.nd rfl (.inl rfl) pe_str))) pss_nil)
      (pss_one (ps_ret (pe_and (pe_cmpR op_eq (pe_call GT r12 (by rfl) gT kT bT .nil passL (pa_cons pe_int (pa_cons (pe_join pe_str (pv 7)) (pa_cons pe_str pa_nil)))) (pv 3) (by rfl)) (pe_one (pe_cmpR op_eq (pe_call GA r12 (by rfl) gA kA bA .nil passL (pa_cons pe_int (pa_cons (pe_join pe_str (pv 7)) (pa_cons pe_str pa_nil)))) (pe_cmpR op_ne (pv 3) pe_str (nomark _)) (by rfl)))))))))))))))))))), ?_⟩
    -- how many
    refine ⟨_, rfl, a, ns, 0, rfl, hS, _, _, rfl, rfl, (by show (0 : Int) < 7; decide), ?_⟩
    refine ⟨fun σ' H' => H' = H ∧ ∃ m : Nat, m ≤ 122 ∧ σ' = [some (.ref a), some (.int (m : Int)), none, none, none, none, none, none, none], ?_, fun σ1 H1 hM => ?_⟩
    · refine ⟨_, rfl, a, ns, 0, rfl, hS, _, _, rfl, rfl, ⟨by decide, by decide⟩, _, _, rfl, rfl, (by show (0 : Int) < 3; decide), rfl, _, rfl, ite2 (fun _ => ?_) (fun _ => ?_)⟩
      · refine ⟨_, rfl, a, ns, 0, rfl, hS, _, _, rfl, rfl, ⟨by decide, by decide⟩, _, _, rfl, rfl, (by show (0 : Int) < 4; decide), _, _, rfl, rfl, rfl, ?_⟩
        dsimp only
        have b1 := Int.emod_nonneg (L2.cellOf ns 0 / 21) (show (4 : Int) ≠ 0 by decide)
        have b2 := Int.emod_lt_of_pos (L2.cellOf ns 0 / 21) (show (0 : Int) < 4 by decide)
        refine ⟨119 + (L2.cellOf ns 0 / 21 % 4).toNat, by omega, ?_⟩
        rw [show ((119 + (L2.cellOf ns 0 / 21 % 4).toNat : Nat) : Int) = 119 + L2.cellOf ns 0 / 21 % 4 by omega]
        rfl
      · have b1 := Int.emod_nonneg (L2.cellOf ns 0) (show (7 : Int) ≠ 0 by decide)
        have b2 := Int.emod_lt_of_pos (L2.cellOf ns 0) (show (0 : Int) < 7 by decide)
        refine ⟨rfl, (L2.cellOf ns 0 % 7).toNat, by omega, ?_⟩
        rw [show (((L2.cellOf ns 0 % 7).toNat : Nat) : Int) = L2.cellOf ns 0 % 7 by omega]
        rfl
    obtain ⟨rfl, m, hm, rfl⟩ := hM
    -- the words
    refine ⟨_, rfl, (m : Int), rfl, by omega, by omega, fun W nW => ?_⟩
    refine lc_range (lo := 0) (n := ((m : Int)).toNat) (fun t H3 => Same H1 H3 ∧ ∃ ws : List Str, H3 W = some (.lst (ws.map V.str)) ∧ ws.length = t ∧ ∀ x ∈ ws, wordB x = true) ⟨same_upd nW, [], upd_same, rfl, fun _ h => by cases h⟩ (fun t H3 ht3 hp3 => ?_) (fun H3 hp3 => ?_)
    · obtain ⟨s3, ws, hW, wl, hw⟩ := hp3
      refine ⟨rfl, yesT ⟨_, rfl, _, rfl, _, _, rfl, rfl, (by show (0 : Int) < 5; decide), _, _, rfl, rfl, ?_⟩⟩
      dsimp only
      refine ⟨a, ns, 4 + t % 5, ?_, s3.seq hS, _, rfl, _, _, rfl, rfl, .inl ⟨by decide, by decide⟩, _, _, rfl, rfl, _, rfl, fun H4 s4 => ?_⟩
      · rw [show (4 : Int) + (0 + (t : Int)) % 5 = ((4 + t % 5 : Nat) : Int) by omega]
        rfl
      have hW4 := s4 _ _ hW
      refine ⟨_, hW4, ?_, same_set (s3.trans s4) nW, ws ++ [wordOf (L2.cellOf ns (4 + t % 5) + 97 * (0 + (t : Int)))], ?_, ?_, fun x hx => ?_⟩
      · rw [List.length_map]
        exact Nat.lt_of_le_of_lt (show ws.length ≤ 1000 by omega) (by decide)
      · rw [upd_same, List.map_append]
        rfl
      · rw [List.length_append, wl]
        rfl
      · rcases List.mem_append.mp hx with z | z
        · exact hw x z
        · rw [List.mem_singleton.mp z]
          exact wordOf_ok _
    obtain ⟨s3, ws, hW, wl, hw⟩ := hp3
    rw [Int.toNat_natCast] at wl
    have hS3 := s3.seq hS
    -- what is due
    refine ⟨by show 2 ≤ sizeLine; decide, fun L4 nL4 => ⟨_, rfl, _, _, rfl, rfl, .inr ⟨_, rfl, L4, _, _, _, rfl, rfl, .inl (.inl upd_same), due_int m, ?_⟩⟩⟩
    have u4 := same_upd nL4 (o := .lst [.str "", .str "too long"])
    have s4 := s3.trans u4
    have hW4 := u4 _ _ hW
    have hS4 := s4.seq hS
    generalize upd H3 L4 (.lst [.str "", .str "too long"]) = H4 at u4 s4 hW4 hS4 ⊢
    refine ⟨_, rfl, a, ns, 1, rfl, hS4, _, rfl, _, _, rfl, rfl, _, _, rfl, rfl, (by show (0 : Int) < (m : Int) + 1; omega), ?_⟩
    dsimp only
    have hat : ∃ n : Nat, n ≤ m ∧ L2.cellOf ns 1 % ((m : Int) + 1) = (n : Int) := by
      have a1 := Int.emod_nonneg (L2.cellOf ns 1) (show ((m : Int) + 1) ≠ 0 by omega)
      have a2 := Int.emod_lt_of_pos (L2.cellOf ns 1) (show (0 : Int) < (m : Int) + 1 by omega)
      exact ⟨(L2.cellOf ns 1 % ((m : Int) + 1)).toNat, by omega, by omega⟩
    obtain ⟨n, hn, en⟩ := hat
    rw [en]
    refine ⟨_, rfl, W, _, rfl, .inl (.inl (.inl hW4)), fun D nD => ?_⟩
    have u5 := same_upd nD (o := .lst (ws.map V.str))
    have hD : (upd H4 D (.lst (ws.map V.str))) D = some (.lst (ws.map V.str)) := upd_same
    have hW5 := u5 _ _ hW4
    have s5 := s4.trans u5
    have hS5 := s5.seq hS
    have nD1 : H1 D = none := s4.free nD
    have hDW : D ≠ W := (ne_of_none hW4 nD).symm
    generalize upd H4 D (.lst (ws.map V.str)) = H5 at u5 s5 hD hW5 hS5 ⊢
    refine ⟨_, rfl, a, ns, 2, rfl, hS5, _, _, rfl, rfl, (by show (0 : Int) < 4; decide), ?_⟩
    dsimp only
    generalize L2.cellOf ns 2 % 4 = kd
    -- something wrong among them
    refine ⟨fun σ' H' => ∃ xs : List V, σ' = [some (.ref a), some (.int (m : Int)), some (.ref W), some (.str (dueS (dueO (some xs)))), some (.int (n : Int)), some (.ref D), some (.int kd), none, none] ∧ Same H1 H' ∧ H' W = some (.lst (ws.map V.str)) ∧ H' D = some (.lst xs) ∧ TextV K H' (.ref D) (some xs), ?_, fun σ6 H6 hM => ?_⟩
    · have stay : ∃ xs : List V, ([some (V.ref a), some (.int (m : Int)), some (.ref W), some (.str (dueS (if 120 < m then 2 else 0))), some (.int (n : Int)), some (.ref D), some (.int kd), none, none] : L2.St) = [some (.ref a), some (.int (m : Int)), some (.ref W), some (.str (dueS (dueO (some xs)))), some (.int (n : Int)), some (.ref D), some (.int kd), none, none] ∧ Same H1 H5 ∧ H5 W = some (.lst (ws.map V.str)) ∧ H5 D = some (.lst xs) ∧ TextV K H5 (.ref D) (some xs) :=
        ⟨ws.map V.str, by rw [due_words hw, wl], s5, hW5, hD, textV_good (.inl (.inl hD)) hw (by omega)⟩
      refine ⟨_, rfl, rfl, _, rfl, ite2 (fun e => ?g1) (fun e => ⟨_, rfl, rfl, _, rfl, ite2 (fun e2 => ?g2) (fun e2 => stay)⟩)⟩
      all_goals
        refine ⟨_, rfl, .inl ⟨rfl, _, .inl (.inl hD)⟩, _, rfl, _, rfl, a, ns, 3, rfl, hS5, _, rfl, fun H6 v s6 wv bad => ?_⟩
        have hD6 := s6 _ _ hD
        refine ⟨D, _, _, v, rfl, rfl, hD6, ?_, by omega, by omega, ?_⟩
        · rw [List.length_map]
          exact Nat.lt_of_le_of_lt (show ws.length ≤ 1000 by omega) (by decide)
        · rw [Int.toNat_natCast]
          refine ⟨(ws.map V.str).take n ++ [v] ++ (ws.map V.str).drop n, ?_, same_set (s5.trans s6) nD1, by rw [upd_ne hDW.symm]; exact s6 _ _ hW5, upd_same, D, rfl, .inl (.inl upd_same), fun x hx => ?_, ?_⟩
          · rw [due_ins bad]
            rfl
          · have wvs : ∀ y ∈ ws.map V.str, WV K (upd H6 D (.lst ((ws.map V.str).take n ++ [v] ++ (ws.map V.str).drop n))) y := fun y hy => by
              obtain ⟨b, hb, rfl⟩ := List.mem_map.mp hy
              have := wordB_len (hw b hb)
              exact .inl ⟨b, rfl, by omega⟩
            rcases List.mem_append.mp hx with z | z
            · rcases List.mem_append.mp z with z | z
              · exact wvs x (List.mem_of_mem_take z)
              · rw [List.mem_singleton.mp z]
                exact wv D _ (by rw [hD]; exact fun z => by cases z)
            · exact wvs x (List.mem_of_mem_drop z)
          · rw [List.length_append, List.length_append, List.length_take, List.length_drop, List.length_map]
            show min n ws.length + 1 + (ws.length - n) ≤ 1000
            omega
    obtain ⟨xs, rfl, s6, hW6, hD6, hV6⟩ := hM
    have hS6 := s6.seq hS
    -- no list at all
    refine ⟨fun σ' H' => ∃ (v : V) (o : Option (List V)), σ' = [some (.ref a), some (.int (m : Int)), some (.ref W), some (.str (dueS (dueO o))), some (.int (n : Int)), some v, some (.int kd), none, none] ∧ Same H1 H' ∧ H' W = some (.lst (ws.map V.str)) ∧ TextV K H' v o, ?_, fun σ7 H7 hM => ?_⟩
    · refine ⟨_, rfl, rfl, _, rfl, ite2 (fun e => ?_) (fun e => ⟨.ref D, some xs, rfl, s6, hW6, hV6⟩)⟩
      refine ⟨_, rfl, D, _, rfl, .inl ⟨.inl (.inl hD6), fun T nT => ?_⟩⟩
      have v1 := same_upd nT (o := .tup xs)
      have gT1 : (upd H6 T (.tup xs)) T = some (.tup xs) := upd_same
      generalize upd H6 T (.tup xs) = G1 at v1 gT1 ⊢
      refine fun B nB => ⟨upd_same, [(.inr "a", .int 1)], rfl, by decide, fun E5 nE5 => ⟨by show 6 ≤ sizeLine; decide, fun L6 nL6 => ?_⟩⟩
      have v2 : Same G1 (upd (upd G1 B (.dK [])) B (.dK (mergeK [] [(.inr "a", .int 1)]))) := fun b o e => by
        rw [upd_ne (ne_of_none e nB), upd_ne (ne_of_none e nB)]
        exact e
      have gB : (upd (upd G1 B (.dK [])) B (.dK (mergeK [] [(.inr "a", .int 1)]))) B = some (.dK (mergeK [] [(.inr "a", .int 1)])) := upd_same
      generalize upd (upd G1 B (.dK [])) B (.dK (mergeK [] [(.inr "a", .int 1)])) = G2 at v2 gB nE5 nL6 ⊢
      have v3 := same_upd nE5 (o := .dK [])
      have gE : (upd G2 E5 (.dK [])) E5 = some (.dK []) := upd_same
      generalize upd G2 E5 (.dK []) = G3 at v3 gE nL6 ⊢
      have v4 := same_upd nL6 (o := .lst [.ref T, .str "a b", .non, .int 7, .ref B, .ref E5])
      have gL : (upd G3 L6 (.lst [.ref T, .str "a b", .non, .int 7, .ref B, .ref E5])) L6 = some (.lst [.ref T, .str "a b", .non, .int 7, .ref B, .ref E5]) := upd_same
      generalize upd G3 L6 (.lst [.ref T, .str "a b", .non, .int 7, .ref B, .ref E5]) = G4 at v4 gL ⊢
      have v14 := v1.trans (v2.trans (v3.trans v4))
      have all : ∀ x ∈ ([.ref T, .str "a b", .non, .int 7, .ref B, .ref E5] : List V), NoList K G4 x := fun x hx => by
        simp only [List.mem_cons, List.not_mem_nil, or_false] at hx
        rcases hx with rfl | rfl | rfl | rfl | rfl | rfl
        · exact .tup (.inl (.inl ((v2.trans (v3.trans v4)) _ _ gT1)))
        · exact .str _
        · exact .non
        · exact .int _
        · exact .dic ((v3.trans v4) _ _ gB)
        · exact .dic (v4 _ _ gE)
      have lt := ltM (c := L2.cellOf ns 3) (n := 6) (by decide)
      obtain ⟨x, hx⟩ : ∃ x, ([.ref T, .str "a b", .non, .int 7, .ref B, .ref E5] : List V)[(L2.cellOf ns 3 % ((6 : Nat) : Int)).toNat]? = some x := ⟨_, List.getElem?_eq_getElem (show (L2.cellOf ns 3 % ((6 : Nat) : Int)).toNat < ([.ref T, .str "a b", .non, .int 7, .ref B, .ref E5] : List V).length from lt)⟩
      have sA := s6.trans v14
      refine ⟨_, rfl, a, ns, 3, rfl, sA.seq hS, _, _, rfl, rfl, (by show (0 : Int) < 6; decide), L6, _, _, x, rfl, rfl, .inl (.inl gL), atM (n := 6) (by decide) hx, ?_⟩
      exact ⟨x, none, rfl, sA, v14 _ _ hW6, all x (List.mem_of_getElem? hx)⟩
    obtain ⟨v, o, rfl, s7, hW7, hV7⟩ := hM
    have t7 := ht.same s7
    have hS7 := s7.seq hS
    -- joined
    refine ⟨_, rfl, by show 0 ≤ sizeLine; decide, fun Z1 nZ1 => ?_⟩
    have kz1 := Kp.new (p := Z1) (o := .lst []) t7 nZ1
    refine ⟨0, v, .ref Z1, dueO o, rfl, .inl ⟨rfl, o, hV7.kp t7 kz1, rfl⟩, kz1.1, fun H8 k8 => ?_⟩
    have k78 := kz1.trans k8
    refine ⟨_, rfl, rfl, _, rfl, ?_⟩
    rw [show decide (V.str (dueS (dueO o)) = V.str (dueS (dueO o))) = true from decide_eq_true rfl]
    refine iteF ⟨_, rfl, by show 0 ≤ sizeLine; decide, fun Z2 nZ2 => ?_⟩
    have kz2 := Kp.new (p := Z2) (o := .lst []) k78.1 nZ2
    have k7z := k78.trans kz2
    refine ⟨0, v, .ref Z2, dueO o, rfl, .inl ⟨rfl, o, hV7.kp t7 k7z, rfl⟩, k7z.1, fun H9 k9 => ?_⟩
    have k79 := k7z.trans k9
    refine ⟨_, rfl, rfl, rfl, _, rfl, ?_⟩
    have bb : ∀ d : Nat, decide (V.bl (decide (d ≠ 0)) = V.bl (!decide (V.str (dueS d) = V.str ""))) = true := fun d => by
      rw [dueS_dec]
      refine decide_eq_true (congrArg V.bl ?_)
      by_cases h : d = 0
      · rw [decide_eq_true h, show decide (d ≠ 0) = false from decide_eq_false fun z => z h]
        rfl
      · rw [decide_eq_false h, show decide (d ≠ 0) = true from decide_eq_true h]
        rfl
    rw [bb]
    refine iteF ⟨rfl, _, rfl, iteF ⟨rfl, _, rfl, iteF ?_⟩⟩
    -- with another beside it
    refine ⟨_, rfl, _, rfl, _, rfl, a, ns, v, o, rfl, k79.seq t7 hS7, hV7.kp t7 k79, k79.1, fun Ha ka => ⟨true, rfl, iteF ?_⟩⟩
    have k7a := k79.trans ka
    have hWa : Ha W = some (.lst (ws.map V.str)) := k7a.at t7 hW7 fun _ z => by cases z
    -- the line
    refine ⟨_, rfl, W, _, rfl, .inl (.inl (.inl hWa)), fun D3 nD3 => ?_⟩
    have w1 := same_upd nD3 (o := .lst (ws.map V.str))
    have gD3 : (upd Ha D3 (.lst (ws.map V.str))) D3 = some (.lst (ws.map V.str)) := upd_same
    have kb := k7a.trans (Kp.same k7a.1 w1)
    have tb := kb.1
    generalize upd Ha D3 (.lst (ws.map V.str)) = Hb at w1 gD3 kb tb ⊢
    refine ⟨by show 2 ≤ sizeLine; decide, fun L7 nL7 => ⟨_, rfl, _, _, rfl, rfl, .inr ⟨_, rfl, L7, _, _, _, rfl, rfl, .inl (.inl upd_same), due_int m, ?_⟩⟩⟩
    have w2 := same_upd nL7 (o := .lst [.str "", .str "too long"])
    have gD3' := w2 _ _ gD3
    have tc := tb.same w2
    generalize upd Hb L7 (.lst [.str "", .str "too long"]) = Hc at w2 gD3' tc ⊢
    refine ⟨fun σ' H' => ∃ ws2 : List Str, σ' = [some (.ref a), some (.int (m : Int)), some (.ref W), some (.str (dueS (dueO (some (ws2.map V.str))))), some (.int (n : Int)), some v, some (.int kd), some (.ref D3), none] ∧ Tb Ps H' ∧ H' D3 = some (.lst (ws2.map V.str)) ∧ (∀ x ∈ ws2, NW x ∧ x.length ≤ 41) ∧ ws2.length ≤ 123, ?_, fun σ8 H8 hM => ?_⟩
    · have wnw : ∀ x ∈ ws, NW x ∧ x.length ≤ 41 := fun x hx => ⟨nw_word (hw x hx), by have := wordB_len (hw x hx); omega⟩
      refine ⟨_, rfl, rfl, _, rfl, ite2 (fun e => ?_) (fun e => ?_)⟩
      · refine ⟨_, rfl, .inl ⟨rfl, _, .inl (.inl gD3')⟩, _, rfl, "b", 41, rfl, rfl, by decide, by decide, by decide +kernel, by decide +kernel, by decide +kernel, ?_⟩
        refine ⟨D3, _, _, _, rfl, rfl, gD3', ?_, by omega, by omega, ?_⟩
        · rw [List.length_map]
          exact Nat.lt_of_le_of_lt (show ws.length ≤ 1000 by omega) (by decide)
        · rw [Int.toNat_natCast]
          have em : (ws.map V.str).take n ++ [V.str b41] ++ (ws.map V.str).drop n = (ws.take n ++ [b41] ++ ws.drop n).map V.str := by
            rw [List.map_append, List.map_append, List.map_take, List.map_drop]
            rfl
          refine ⟨ws.take n ++ [b41] ++ ws.drop n, ?_, ?_, ?_, fun x hx => ?_, ?_⟩
          · rw [← em, due_ins (show isW (V.str b41) = false from b41_nw.2.2)]
            rfl
          · intro P hP
            have ne : P ≠ D3 := fun z => tc.notin gD3' (fun ps z => by cases z) (z ▸ hP)
            obtain ⟨ps, h1, h2⟩ := tc P hP
            exact ⟨ps, by rw [upd_ne ne]; exact h1, h2⟩
          · rw [upd_same, ← em]
            rfl
          · rcases List.mem_append.mp hx with z | z
            · rcases List.mem_append.mp z with z | z
              · exact wnw x (List.mem_of_mem_take z)
              · rw [List.mem_singleton.mp z]
                exact ⟨b41_nw.1, Nat.le_of_eq b41_nw.2.1⟩
            · exact wnw x (List.mem_of_mem_drop z)
          · rw [List.length_append, List.length_append, List.length_take, List.length_drop]
            show min n ws.length + 1 + (ws.length - n) ≤ 123
            omega
      · exact ⟨ws, by rw [due_words hw, wl]; rfl, tc, gD3', wnw, by omega⟩
    obtain ⟨ws2, rfl, t8, hD8, hn2, hl2⟩ := hM
    have eW := words_join fun x hx => (hn2 x hx).1
    have sm := sum_41 fun x hx => (hn2 x hx).2
    have e1 : (" " : Str).length = 1 := by decide +kernel
    have jb : (ws2.map (·.length)).sum + ws2.length * (" " : Str).length ≤ 16777216 := by
      rw [e1]
      omega
    have jl : (Txt.join " " ws2).length ≤ 1000000 := by
      have := join_le " " ws2
      rw [e1] at this
      omega
    have ask : ∀ (H' : Hp) (u : V), AskD K H' 1 (.str (Txt.join " " ws2)) u (dueO (some (ws2.map V.str))) := fun H' u => by
      refine .inr (.inl ⟨rfl, _, rfl, jl, ?_, ?_, ?_⟩)
      · rw [eW]
        exact fun x hx => Nat.le_trans (hn2 x hx).2 (by decide)
      · rw [eW]
        omega
      · rw [eW]
    refine ⟨⟨_, rfl⟩, _, rfl, _, D3, ws2, rfl, rfl, .inl (.inl (.inl hD8)), jb, 1, _, _, _, rfl, ask _ _, t8, fun H9 k9 => ?_⟩
    refine ⟨_, rfl, rfl, ?_⟩
    rw [show decide (V.str (dueS (dueO (some (ws2.map V.str)))) = V.str (dueS (dueO (some (ws2.map V.str))))) = true from decide_eq_true rfl]
    have hD9 : H9 D3 = some (.lst (ws2.map V.str)) := k9.at t8 hD8 fun _ z => by cases z
    refine ⟨true, rfl, ⟨_, rfl⟩, _, rfl, _, D3, ws2, rfl, rfl, .inl (.inl (.inl hD9)), jb, 1, _, _, _, rfl, ask _ _, k9.1, fun Hz kz => ?_⟩
    refine ⟨_, rfl, rfl, rfl, ?_⟩
    rw [bb]
    exact q Hz
end
/-! ### the head: facts by names, the run -/
def dd (x : Str) (i : Nat) : He.DefD := ⟨(x, none), x, x, defArgs (top i), defBody (top i), defScope (top i), [], []⟩
def fn : List He.DefD := [dd "is_sign" 8, dd "is_word" 9, dd "check_words" 10, dd "check_length" 11, dd "check_text" 12, dd "parted" 13, dd "joined" 14, dd "is_number" 21, dd "is_row_of_words" 22, dd "is_row" 23, dd "check_rows" 24, dd "table" 26, dd "least_cost" 27, dd "apart" 28, dd "next_kind" 29, dd "steps_between" 30, dd "stretches_of" 31, dd "told" 32, dd "check_no_blocks" 34, dd "places_in" 35, dd "run_at" 36, dd "has_run" 37, dd "longest_run" 38, dd "is_free" 39, dd "use" 40, dd "next_free" 41, dd "put_places_of" 42, dd "pairs_of" 43, dd "row_parted" 44, dd "with_pairs" 45, dd "with_blocks" 46, dd "changed" 47, dd "_law_cell_at" 49, dd "_law_sign_by" 50, dd "_law_word_by" 51, dd "_law_wrong" 52, dd "_law_asked" 53, dd "_law_tried" 54, dd "_law_any" 55, dd "_law_pair" 56, dd "law" 57]
def fa : List He.Fa := [.glo "is_sign",
  .glo "is_word",
  .glo "check_words",
  .glo "check_length",
  .glo "check_text",
  .glo "parted",
  .glo "joined",
  .glo "is_number",
  .glo "is_row_of_words",
  .glo "is_row",
  .glo "check_rows",
  .glo "table",
  .glo "least_cost",
  .glo "apart",
  .glo "next_kind",
  .glo "steps_between",
  .glo "stretches_of",
  .glo "told",
  .glo "check_no_blocks",
  .glo "places_in",
  .glo "run_at",
  .glo "has_run",
  .glo "longest_run",
  .glo "is_free",
  .glo "use",
  .glo "next_free",
  .glo "put_places_of",
  .glo "pairs_of",
  .glo "row_parted",
  .glo "with_pairs",
  .glo "with_blocks",
  .glo "changed",
  .glo "_law_cell_at",
  .glo "_law_sign_by",
  .glo "_law_word_by",
  .glo "_law_wrong",
  .glo "_law_asked",
  .glo "_law_tried",
  .glo "_law_any",
  .glo "_law_pair",
  .glo "law",
  .int "LONGEST" 40,
  .int "MOST" 120,
  .int "LAST_BLOCK" 999999999,
  .free "isinstance",
  .free "str",
  .free "all",
  .free "len",
  .free "enumerate",
  .free "list",
  .free "bool",
  .free "int",
  .free "tuple",
  .free "range",
  .free "min",
  .free "reversed",
  .free "sorted",
  .free "ValueError",
  .glo "PLAIN_KINDS",
  .glo "BLOCK_KINDS",
  .glo "OLD_KINDS",
  .glo "NEW_KINDS",
  .glo "NoWord",
  .glo "TooLong",
  .glo "NoRow",
  .exc "NoWord",
  .exc "TooLong",
  .exc "NoRow",
  .exm "NoWord" "NoWord" true,
  .exm "TooLong" "NoWord" false,
  .exm "TooLong" "TooLong" true,
  .exm "NoWord" "RedraftError" true,
  .exm "TooLong" "RedraftError" true,
  .glo "RedraftError"]
def tf : List He.Defn := [("is_word", none), ("is_row_of_words", none)]
def ts : List He.Tab := []
def ex (K : PySem.W.Frag) : Bool := tupB K (He.ga K "PLAIN_KINDS") plainK && tupB K (He.ga K "BLOCK_KINDS") blockK && tupB K (He.ga K "OLD_KINDS") oldK && tupB K (He.ga K "NEW_KINDS") newK && excB K (He.ga K "NoWord") && excB K (He.ga K "TooLong")
abbrev R : PySem.W.OpenRow := PySem.W.OpenLaw.row PySem.Challenge.rw_redraft_k02_words_refused
abbrev hk : PySem.W.Hook := He.hookX 4 fa fn ts tf ex
def ob (s : PySem.W.SharedT) : He.AlX := He.obsX 4 fa fn ts tf ex (HandSHeadRun.getT s)
theorem ob_eq (s : PySem.W.SharedT) : ob s = hk.obs s.abs := He.obsX_eq (HandSHeadRun.getT_eq s)
abbrev loose0 : List Str := ["RedraftError", "NoWord", "TooLong", "NoRow", "is_sign", "is_word", "check_words", "check_length", "check_text", "parted", "joined", "is_number", "is_row_of_words", "is_row", "check_rows", "table", "least_cost", "apart", "next_kind", "steps_between", "stretches_of", "told", "check_no_blocks", "places_in", "run_at", "has_run", "longest_run", "is_free", "use", "next_free"]
abbrev loose1 : List Str := ["put_places_of", "pairs_of", "row_parted", "with_pairs", "with_blocks", "changed", "_law_cell_at", "_law_sign_by", "_law_word_by", "_law_wrong", "_law_asked", "_law_tried", "_law_any", "_law_pair", "LONGEST", "MOST", "LAST_BLOCK", "PLAIN_KINDS", "BLOCK_KINDS", "OLD_KINDS", "NEW_KINDS"]
abbrev loose : List Str := loose0 ++ loose1
theorem run (w : World) : HandSHeadRun.RunEq R (PySem.W.view R.prog [57]) hk ob 4000 loose w := by
  intro os
  kernel_rfl
theorem facts {w : World} {h : Heap} {K : PySem.W.Frag} {mg : Str → Option Value} {f : Addr} (X : K.In h) (G : h.Ns mainGlobals mg) (hfa : mg ("law" : Str) = some (.ref f)) (c : He.SaysX fa fn ts tf ex w h K) :
    LamX.LawAtS PySem.Challenge.rw_redraft_k02_words_refused w K (L2.CX PySem.Challenge.rw_redraft_k02_words_refused.prog w) 14 63 "_law_script" mg f h := by
  have d := c.t.d
  obtain ⟨d_is_sign, F_is_sign⟩ := d.def_ 0 (d := dd "is_sign" 8) rfl
  obtain ⟨d_is_word, F_is_word⟩ := d.def_ 1 (d := dd "is_word" 9) rfl
  obtain ⟨d_check_words, F_check_words⟩ := d.def_ 2 (d := dd "check_words" 10) rfl
  obtain ⟨d_check_length, F_check_length⟩ := d.def_ 3 (d := dd "check_length" 11) rfl
  obtain ⟨d_check_text, F_check_text⟩ := d.def_ 4 (d := dd "check_text" 12) rfl
  obtain ⟨d_parted, F_parted⟩ := d.def_ 5 (d := dd "parted" 13) rfl
  obtain ⟨d_joined, F_joined⟩ := d.def_ 6 (d := dd "joined" 14) rfl
  obtain ⟨d_is_number, F_is_number⟩ := d.def_ 7 (d := dd "is_number" 21) rfl
  obtain ⟨d_is_row_of_words, F_is_row_of_words⟩ := d.def_ 8 (d := dd "is_row_of_words" 22) rfl
  obtain ⟨d_is_row, F_is_row⟩ := d.def_ 9 (d := dd "is_row" 23) rfl
  obtain ⟨d_check_rows, F_check_rows⟩ := d.def_ 10 (d := dd "check_rows" 24) rfl
  obtain ⟨d_table, F_table⟩ := d.def_ 11 (d := dd "table" 26) rfl
  obtain ⟨d_least_cost, F_least_cost⟩ := d.def_ 12 (d := dd "least_cost" 27) rfl
  obtain ⟨d_apart, F_apart⟩ := d.def_ 13 (d := dd "apart" 28) rfl
  obtain ⟨d_next_kind, F_next_kind⟩ := d.def_ 14 (d := dd "next_kind" 29) rfl
  obtain ⟨d_steps_between, F_steps_between⟩ := d.def_ 15 (d := dd "steps_between" 30) rfl
  obtain ⟨d_stretches_of, F_stretches_of⟩ := d.def_ 16 (d := dd "stretches_of" 31) rfl
  obtain ⟨d_told, F_told⟩ := d.def_ 17 (d := dd "told" 32) rfl
  obtain ⟨d_check_no_blocks, F_check_no_blocks⟩ := d.def_ 18 (d := dd "check_no_blocks" 34) rfl
  obtain ⟨d_places_in, F_places_in⟩ := d.def_ 19 (d := dd "places_in" 35) rfl
  obtain ⟨d_run_at, F_run_at⟩ := d.def_ 20 (d := dd "run_at" 36) rfl
  obtain ⟨d_has_run, F_has_run⟩ := d.def_ 21 (d := dd "has_run" 37) rfl
  obtain ⟨d_longest_run, F_longest_run⟩ := d.def_ 22 (d := dd "longest_run" 38) rfl
  obtain ⟨d_is_free, F_is_free⟩ := d.def_ 23 (d := dd "is_free" 39) rfl
  obtain ⟨d_use, F_use⟩ := d.def_ 24 (d := dd "use" 40) rfl
  obtain ⟨d_next_free, F_next_free⟩ := d.def_ 25 (d := dd "next_free" 41) rfl
  obtain ⟨d_put_places_of, F_put_places_of⟩ := d.def_ 26 (d := dd "put_places_of" 42) rfl
  obtain ⟨d_pairs_of, F_pairs_of⟩ := d.def_ 27 (d := dd "pairs_of" 43) rfl
  obtain ⟨d_row_parted, F_row_parted⟩ := d.def_ 28 (d := dd "row_parted" 44) rfl
  obtain ⟨d_with_pairs, F_with_pairs⟩ := d.def_ 29 (d := dd "with_pairs" 45) rfl
  obtain ⟨d_with_blocks, F_with_blocks⟩ := d.def_ 30 (d := dd "with_blocks" 46) rfl
  obtain ⟨d_changed, F_changed⟩ := d.def_ 31 (d := dd "changed" 47) rfl
  obtain ⟨d__law_cell_at, F__law_cell_at⟩ := d.def_ 32 (d := dd "_law_cell_at" 49) rfl
  obtain ⟨d__law_sign_by, F__law_sign_by⟩ := d.def_ 33 (d := dd "_law_sign_by" 50) rfl
  obtain ⟨d__law_word_by, F__law_word_by⟩ := d.def_ 34 (d := dd "_law_word_by" 51) rfl
  obtain ⟨d__law_wrong, F__law_wrong⟩ := d.def_ 35 (d := dd "_law_wrong" 52) rfl
  obtain ⟨d__law_asked, F__law_asked⟩ := d.def_ 36 (d := dd "_law_asked" 53) rfl
  obtain ⟨d__law_tried, F__law_tried⟩ := d.def_ 37 (d := dd "_law_tried" 54) rfl
  obtain ⟨d__law_any, F__law_any⟩ := d.def_ 38 (d := dd "_law_any" 55) rfl
  obtain ⟨d__law_pair, F__law_pair⟩ := d.def_ 39 (d := dd "_law_pair" 56) rfl
  obtain ⟨d_law, F_law⟩ := d.def_ 40 (d := dd "law" 57) rfl
  have e := hfa.symm.trans (He.glo_ok X G (d.fact 40 (f := .glo "law") rfl))
  cases e
  have g_is_sign := He.glo_ok X G (d.fact 0 (f := .glo "is_sign") rfl)
  have g_is_word := He.glo_ok X G (d.fact 1 (f := .glo "is_word") rfl)
  have g_check_words := He.glo_ok X G (d.fact 2 (f := .glo "check_words") rfl)
  have g_check_length := He.glo_ok X G (d.fact 3 (f := .glo "check_length") rfl)
  have g_check_text := He.glo_ok X G (d.fact 4 (f := .glo "check_text") rfl)
  have g_parted := He.glo_ok X G (d.fact 5 (f := .glo "parted") rfl)
  have g_joined := He.glo_ok X G (d.fact 6 (f := .glo "joined") rfl)
  have g_is_number := He.glo_ok X G (d.fact 7 (f := .glo "is_number") rfl)
  have g_is_row_of_words := He.glo_ok X G (d.fact 8 (f := .glo "is_row_of_words") rfl)
  have g_is_row := He.glo_ok X G (d.fact 9 (f := .glo "is_row") rfl)
  have g_check_rows := He.glo_ok X G (d.fact 10 (f := .glo "check_rows") rfl)
  have g_table := He.glo_ok X G (d.fact 11 (f := .glo "table") rfl)
  have g_least_cost := He.glo_ok X G (d.fact 12 (f := .glo "least_cost") rfl)
  have g_apart := He.glo_ok X G (d.fact 13 (f := .glo "apart") rfl)
  have g_next_kind := He.glo_ok X G (d.fact 14 (f := .glo "next_kind") rfl)
  have g_steps_between := He.glo_ok X G (d.fact 15 (f := .glo "steps_between") rfl)
  have g_stretches_of := He.glo_ok X G (d.fact 16 (f := .glo "stretches_of") rfl)
  have g_told := He.glo_ok X G (d.fact 17 (f := .glo "told") rfl)
  have g_check_no_blocks := He.glo_ok X G (d.fact 18 (f := .glo "check_no_blocks") rfl)
  have g_places_in := He.glo_ok X G (d.fact 19 (f := .glo "places_in") rfl)
  have g_run_at := He.glo_ok X G (d.fact 20 (f := .glo "run_at") rfl)
  have g_has_run := He.glo_ok X G (d.fact 21 (f := .glo "has_run") rfl)
  have g_longest_run := He.glo_ok X G (d.fact 22 (f := .glo "longest_run") rfl)
  have g_is_free := He.glo_ok X G (d.fact 23 (f := .glo "is_free") rfl)
  have g_use := He.glo_ok X G (d.fact 24 (f := .glo "use") rfl)
  have g_next_free := He.glo_ok X G (d.fact 25 (f := .glo "next_free") rfl)
  have g_put_places_of := He.glo_ok X G (d.fact 26 (f := .glo "put_places_of") rfl)
  have g_pairs_of := He.glo_ok X G (d.fact 27 (f := .glo "pairs_of") rfl)
  have g_row_parted := He.glo_ok X G (d.fact 28 (f := .glo "row_parted") rfl)
  have g_with_pairs := He.glo_ok X G (d.fact 29 (f := .glo "with_pairs") rfl)
  have g_with_blocks := He.glo_ok X G (d.fact 30 (f := .glo "with_blocks") rfl)
  have g_changed := He.glo_ok X G (d.fact 31 (f := .glo "changed") rfl)
  have g__law_cell_at := He.glo_ok X G (d.fact 32 (f := .glo "_law_cell_at") rfl)
  have g__law_sign_by := He.glo_ok X G (d.fact 33 (f := .glo "_law_sign_by") rfl)
  have g__law_word_by := He.glo_ok X G (d.fact 34 (f := .glo "_law_word_by") rfl)
  have g__law_wrong := He.glo_ok X G (d.fact 35 (f := .glo "_law_wrong") rfl)
  have g__law_asked := He.glo_ok X G (d.fact 36 (f := .glo "_law_asked") rfl)
  have g__law_tried := He.glo_ok X G (d.fact 37 (f := .glo "_law_tried") rfl)
  have g__law_any := He.glo_ok X G (d.fact 38 (f := .glo "_law_any") rfl)
  have g__law_pair := He.glo_ok X G (d.fact 39 (f := .glo "_law_pair") rfl)
  obtain ⟨t_LONGEST, m_LONGEST⟩ := He.int_ok X G (d.fact 41 (f := .int "LONGEST" 40) rfl)
  obtain ⟨t_MOST, m_MOST⟩ := He.int_ok X G (d.fact 42 (f := .int "MOST" 120) rfl)
  obtain ⟨t_LAST_BLOCK, m_LAST_BLOCK⟩ := He.int_ok X G (d.fact 43 (f := .int "LAST_BLOCK" 999999999) rfl)
  have m_isinstance := He.free_ok X G (d.fact 44 (f := .free "isinstance") rfl)
  have m_str := He.free_ok X G (d.fact 45 (f := .free "str") rfl)
  have m_all := He.free_ok X G (d.fact 46 (f := .free "all") rfl)
  have m_len := He.free_ok X G (d.fact 47 (f := .free "len") rfl)
  have m_enumerate := He.free_ok X G (d.fact 48 (f := .free "enumerate") rfl)
  have m_list := He.free_ok X G (d.fact 49 (f := .free "list") rfl)
  have m_bool := He.free_ok X G (d.fact 50 (f := .free "bool") rfl)
  have m_int := He.free_ok X G (d.fact 51 (f := .free "int") rfl)
  have m_tuple := He.free_ok X G (d.fact 52 (f := .free "tuple") rfl)
  have m_range := He.free_ok X G (d.fact 53 (f := .free "range") rfl)
  have m_min := He.free_ok X G (d.fact 54 (f := .free "min") rfl)
  have m_reversed := He.free_ok X G (d.fact 55 (f := .free "reversed") rfl)
  have m_sorted := He.free_ok X G (d.fact 56 (f := .free "sorted") rfl)
  have m_ValueError := He.free_ok X G (d.fact 57 (f := .free "ValueError") rfl)
  have m_PLAIN_KINDS := He.glo_ok X G (d.fact 58 (f := .glo "PLAIN_KINDS") rfl)
  have m_BLOCK_KINDS := He.glo_ok X G (d.fact 59 (f := .glo "BLOCK_KINDS") rfl)
  have m_OLD_KINDS := He.glo_ok X G (d.fact 60 (f := .glo "OLD_KINDS") rfl)
  have m_NEW_KINDS := He.glo_ok X G (d.fact 61 (f := .glo "NEW_KINDS") rfl)
  have m_NoWord := He.glo_ok X G (d.fact 62 (f := .glo "NoWord") rfl)
  have m_TooLong := He.glo_ok X G (d.fact 63 (f := .glo "TooLong") rfl)
  have m_NoRow := He.glo_ok X G (d.fact 64 (f := .glo "NoRow") rfl)
  have X_NoWord : ExcC K mg "NoWord" (He.ga K "NoWord") := by
    obtain ⟨e1, e2, e3, e4⟩ := He.exc_ok (d.fact 65 (f := .exc "NoWord") rfl)
    exact ⟨m_NoWord, e1, e2, e3, e4⟩
  have X_TooLong : ExcC K mg "TooLong" (He.ga K "TooLong") := by
    obtain ⟨e1, e2, e3, e4⟩ := He.exc_ok (d.fact 66 (f := .exc "TooLong") rfl)
    exact ⟨m_TooLong, e1, e2, e3, e4⟩
  have X_NoRow : ExcC K mg "NoRow" (He.ga K "NoRow") := by
    obtain ⟨e1, e2, e3, e4⟩ := He.exc_ok (d.fact 67 (f := .exc "NoRow") rfl)
    exact ⟨m_NoRow, e1, e2, e3, e4⟩
  have E_NoWord_NoWord := He.exm_ok (d.fact 68 (f := .exm "NoWord" "NoWord" true) rfl)
  have E_TooLong_NoWord := He.exm_ok (d.fact 69 (f := .exm "TooLong" "NoWord" false) rfl)
  have E_TooLong_TooLong := He.exm_ok (d.fact 70 (f := .exm "TooLong" "TooLong" true) rfl)
  have E_NoWord_RedraftError := He.exm_ok (d.fact 71 (f := .exm "NoWord" "RedraftError" true) rfl)
  have E_TooLong_RedraftError := He.exm_ok (d.fact 72 (f := .exm "TooLong" "RedraftError" true) rfl)
  have c_RedraftError := He.glo_ok X G (d.fact 73 (f := .glo "RedraftError") rfl)
  have more := c.more
  unfold ex at more
  simp only [Bool.and_eq_true] at more
  obtain ⟨⟨⟨⟨⟨x_PLAIN_KINDS, x_BLOCK_KINDS⟩, x_OLD_KINDS⟩, x_NEW_KINDS⟩, E1⟩, E2⟩ := more
  have k_PLAIN_KINDS := tupB_ok x_PLAIN_KINDS
  have k_BLOCK_KINDS := tupB_ok x_BLOCK_KINDS
  have k_OLD_KINDS := tupB_ok x_OLD_KINDS
  have k_NEW_KINDS := tupB_ok x_NEW_KINDS
  have b_is_sign : Binds K d_is_sign ["sign"] [] := F_is_sign.bindsN fun _ _ _ _ _ _ us hl => match us, hl with | [_], _ => rfl
  have b_is_word : Binds K d_is_word ["word"] [] := F_is_word.bindsN fun _ _ _ _ _ _ us hl => match us, hl with | [_], _ => rfl
  have b_check_words : Binds K d_check_words ["words"] [] := F_check_words.bindsN fun _ _ _ _ _ _ us hl => match us, hl with | [_], _ => rfl
  have b_check_length : Binds K d_check_length ["words"] [] := F_check_length.bindsN fun _ _ _ _ _ _ us hl => match us, hl with | [_], _ => rfl
  have b_check_text : Binds K d_check_text ["words"] [] := F_check_text.bindsN fun _ _ _ _ _ _ us hl => match us, hl with | [_], _ => rfl
  have b_parted : Binds K d_parted ["line"] [] := F_parted.bindsN fun _ _ _ _ _ _ us hl => match us, hl with | [_], _ => rfl
  have b_joined : Binds K d_joined ["words"] [] := F_joined.bindsN fun _ _ _ _ _ _ us hl => match us, hl with | [_], _ => rfl
  have b_is_number : Binds K d_is_number ["kind", "number"] [] := F_is_number.bindsN fun _ _ _ _ _ _ us hl => match us, hl with | [_, _], _ => rfl
  have b_is_row_of_words : Binds K d_is_row_of_words ["words"] [] := F_is_row_of_words.bindsN fun _ _ _ _ _ _ us hl => match us, hl with | [_], _ => rfl
  have b_is_row : Binds K d_is_row ["row"] [] := F_is_row.bindsN fun _ _ _ _ _ _ us hl => match us, hl with | [_], _ => rfl
  have b_check_rows : Binds K d_check_rows ["rows"] [] := F_check_rows.bindsN fun _ _ _ _ _ _ us hl => match us, hl with | [_], _ => rfl
  have b_table : Binds K d_table ["old", "new"] [] := F_table.bindsN fun _ _ _ _ _ _ us hl => match us, hl with | [_, _], _ => rfl
  have b_least_cost : Binds K d_least_cost ["costs", "old", "new", "i", "k"] [] := F_least_cost.bindsN fun _ _ _ _ _ _ us hl => match us, hl with | [_, _, _, _, _], _ => rfl
  have b_apart : Binds K d_apart ["old", "new"] [] := F_apart.bindsN fun _ _ _ _ _ _ us hl => match us, hl with | [_, _], _ => rfl
  have b_next_kind : Binds K d_next_kind ["costs", "old", "new", "i", "k"] [] := F_next_kind.bindsN fun _ _ _ _ _ _ us hl => match us, hl with | [_, _, _, _, _], _ => rfl
  have b_steps_between : Binds K d_steps_between ["old", "new"] [] := F_steps_between.bindsN fun _ _ _ _ _ _ us hl => match us, hl with | [_, _], _ => rfl
  have b_stretches_of : Binds K d_stretches_of ["steps"] [] := F_stretches_of.bindsN fun _ _ _ _ _ _ us hl => match us, hl with | [_], _ => rfl
  have b_told : Binds K d_told ["old", "new"] [] := F_told.bindsN fun _ _ _ _ _ _ us hl => match us, hl with | [_, _], _ => rfl
  have b_check_no_blocks : Binds K d_check_no_blocks ["rows"] [] := F_check_no_blocks.bindsN fun _ _ _ _ _ _ us hl => match us, hl with | [_], _ => rfl
  have b_places_in : Binds K d_places_in ["rows", "kind", "length"] [] := F_places_in.bindsN fun _ _ _ _ _ _ us hl => match us, hl with | [_, _, _], _ => rfl
  have b_run_at : Binds K d_run_at ["rows", "place", "length"] [] := F_run_at.bindsN fun _ _ _ _ _ _ us hl => match us, hl with | [_, _, _], _ => rfl
  have b_has_run : Binds K d_has_run ["rows", "length"] [] := F_has_run.bindsN fun _ _ _ _ _ _ us hl => match us, hl with | [_, _], _ => rfl
  have b_longest_run : Binds K d_longest_run ["rows"] [] := F_longest_run.bindsN fun _ _ _ _ _ _ us hl => match us, hl with | [_], _ => rfl
  have b_is_free : Binds K d_is_free ["used", "place", "length"] [] := F_is_free.bindsN fun _ _ _ _ _ _ us hl => match us, hl with | [_, _, _], _ => rfl
  have b_use : Binds K d_use ["used", "place", "length"] [] := F_use.bindsN fun _ _ _ _ _ _ us hl => match us, hl with | [_, _, _], _ => rfl
  have b_next_free : Binds K d_next_free ["places", "used", "length"] [] := F_next_free.bindsN fun _ _ _ _ _ _ us hl => match us, hl with | [_, _, _], _ => rfl
  have b_put_places_of : Binds K d_put_places_of ["rows", "length"] [] := F_put_places_of.bindsN fun _ _ _ _ _ _ us hl => match us, hl with | [_, _], _ => rfl
  have b_pairs_of : Binds K d_pairs_of ["rows", "length"] [] := F_pairs_of.bindsN fun _ _ _ _ _ _ us hl => match us, hl with | [_, _], _ => rfl
  have b_row_parted : Binds K d_row_parted ["row", "block_kind", "blocks", "length"] [] := F_row_parted.bindsN fun _ _ _ _ _ _ us hl => match us, hl with | [_, _, _, _], _ => rfl
  have b_with_pairs : Binds K d_with_pairs ["rows", "pairs", "length", "first_number"] [] := F_with_pairs.bindsN fun _ _ _ _ _ _ us hl => match us, hl with | [_, _, _, _], _ => rfl
  have b_with_blocks : Binds K d_with_blocks ["rows"] [] := F_with_blocks.bindsN fun _ _ _ _ _ _ us hl => match us, hl with | [_], _ => rfl
  have b_changed : Binds K d_changed ["old", "new"] [] := F_changed.bindsN fun _ _ _ _ _ _ us hl => match us, hl with | [_, _], _ => rfl
  have b__law_cell_at : Binds K d__law_cell_at ["_law_script", "_law_k"] [] := F__law_cell_at.bindsN fun _ _ _ _ _ _ us hl => match us, hl with | [_, _], _ => rfl
  have b__law_sign_by : Binds K d__law_sign_by ["_law_cell"] [] := F__law_sign_by.bindsN fun _ _ _ _ _ _ us hl => match us, hl with | [_], _ => rfl
  have b__law_word_by : Binds K d__law_word_by ["_law_cell"] [] := F__law_word_by.bindsN fun _ _ _ _ _ _ us hl => match us, hl with | [_], _ => rfl
  have b__law_wrong : Binds K d__law_wrong ["_law_cell"] [] := F__law_wrong.bindsN fun _ _ _ _ _ _ us hl => match us, hl with | [_], _ => rfl
  have b__law_asked : Binds K d__law_asked ["_law_way", "_law_one", "_law_other"] [] := F__law_asked.bindsN fun _ _ _ _ _ _ us hl => match us, hl with | [_, _, _], _ => rfl
  have b__law_tried : Binds K d__law_tried ["_law_way", "_law_one", "_law_other"] [] := F__law_tried.bindsN fun _ _ _ _ _ _ us hl => match us, hl with | [_, _, _], _ => rfl
  have b__law_any : Binds K d__law_any ["_law_way", "_law_one", "_law_other"] [] := F__law_any.bindsN fun _ _ _ _ _ _ us hl => match us, hl with | [_, _, _], _ => rfl
  have b__law_pair : Binds K d__law_pair ["_law_script", "_law_words", "_law_due"] [] := F__law_pair.bindsN fun _ _ _ _ _ _ us hl => match us, hl with | [_, _, _], _ => rfl
  have bL := FunD.bindsA (ps := ["_law_script"]) F_law fun _ _ _ _ _ _ us hl => match us, hl with | [_], _ => rfl
  have TT : ∀ q ∈ tf, (He.cT K q).2 ∈ tf.map fun q => (He.cT K q).2 := fun q hq => List.mem_map_of_mem (f := fun q => (He.cT K q).2) hq
  refine ⟨d_law, tf.map (He.cT K), spLaw K (tf.map fun q => (He.cT K q).2), fun p hp => ?_, fun p hp => ?_, fun p hp => ?_, fun s u => bL s [u] rfl, fun H a ns hl _ hT hS => ⟨a, ns, rfl, hS, fun P hP => ?_, fun _ => rfl⟩, fun base KB GB TBs => ?_⟩
  · obtain ⟨q, hq, rfl⟩ := List.mem_map.mp hp
    exact c.empty q hq
  · obtain ⟨q, hq, rfl⟩ := List.mem_map.mp hp
    exact c.out q hq
  · obtain ⟨q, hq, rfl⟩ := List.mem_map.mp hp
    exact PySem.W.codeHd_of_K X (c.hd q hq)
  · obtain ⟨q, hq, rfl⟩ := List.mem_map.mp hP
    exact ⟨#[], hT _ (List.mem_map_of_mem hq), trivial⟩
  · have TB : ∀ q ∈ tf, GxR.TabB base mg (He.codeOf K q) (He.cT K q).2 := fun q hq => by
      have tb := TBs _ (List.mem_map_of_mem (f := He.cT K) hq)
      exact ⟨tb.code, tb.bm, tb.gP⟩
    have q_is_word : (("is_word", none) : He.Defn) ∈ tf := by unfold tf; simp
    have q_is_row_of_words : (("is_row_of_words", none) : He.Defn) ∈ tf := by unfold tf; simp
    have GW := ok_is_word (P := PySem.Challenge.rw_redraft_k02_words_refused.prog) (w := w) (mg := mg) (base := base) F_is_word rfl (TT _ q_is_word) (TB _ q_is_word) F_is_sign b_is_sign g_is_sign m_isinstance m_str m_len m_all m_LONGEST
    have GWX := ok_is_wordX (P := PySem.Challenge.rw_redraft_k02_words_refused.prog) (w := w) (mg := mg) (base := base) F_is_word rfl (TT _ q_is_word) (TB _ q_is_word) F_is_sign b_is_sign g_is_sign m_isinstance m_str m_len m_all m_LONGEST
    have GCWX := ok_check_wordsX F_check_words GWX F_is_word.kp b_is_word g_is_word X_NoWord m_isinstance m_list m_enumerate
    have GCLX := ok_check_lengthX (P := PySem.Challenge.rw_redraft_k02_words_refused.prog) (w := w) (mg := mg) (base := base) F_check_length X_TooLong m_len m_MOST
    have GCTX := ok_check_textX F_check_text GCWX F_check_words.kp b_check_words g_check_words GCLX F_check_length.kp b_check_length g_check_length
    have GCT := check_text_good GCTX
    have GN := ok_is_number (P := PySem.Challenge.rw_redraft_k02_words_refused.prog) (w := w) (mg := mg) (base := base) F_is_number m_isinstance m_int m_bool m_BLOCK_KINDS k_BLOCK_KINDS m_LAST_BLOCK
    have GRW := ok_row_words F_is_row_of_words rfl (TT _ q_is_row_of_words) (TB _ q_is_row_of_words) GW F_is_word.kp b_is_word g_is_word m_isinstance m_tuple m_len m_all
    have GR := ok_is_row F_is_row GN F_is_number.kp b_is_number g_is_number GRW F_is_row_of_words.kp b_is_row_of_words g_is_row_of_words m_isinstance m_tuple m_len m_PLAIN_KINDS k_PLAIN_KINDS m_BLOCK_KINDS k_BLOCK_KINDS
    have GC := ok_check_rows F_check_rows GR F_is_row.kp b_is_row g_is_row m_isinstance m_list m_enumerate
    have GLC := ok_least (P := PySem.Challenge.rw_redraft_k02_words_refused.prog) (w := w) (mg := mg) (base := base) F_least_cost m_len m_min
    have GTa := ok_table F_table GCT F_check_text.kp b_check_text g_check_text GLC F_least_cost.kp b_least_cost g_least_cost m_len m_range
    have GAp := ok_apart F_apart GTa F_table.kp b_table g_table
    have GNK := ok_next_kind (P := PySem.Challenge.rw_redraft_k02_words_refused.prog) (w := w) (mg := mg) (base := base) F_next_kind m_len
    have GSB := ok_steps_between F_steps_between GTa F_table.kp b_table g_table GNK F_next_kind.kp b_next_kind g_next_kind m_len m_OLD_KINDS k_OLD_KINDS m_NEW_KINDS k_NEW_KINDS
    have GSO := ok_stretches (P := PySem.Challenge.rw_redraft_k02_words_refused.prog) (w := w) (mg := mg) (base := base) F_stretches_of m_len
    have GTo := ok_told F_told GSB F_steps_between.kp b_steps_between g_steps_between GSO F_stretches_of.kp b_stretches_of g_stretches_of m_len m_tuple
    have GCe := ok_cell_at (P := PySem.Challenge.rw_redraft_k02_words_refused.prog) (w := w) (mg := mg) (base := base) F__law_cell_at m_len
    have GS := ok_sign_by (P := PySem.Challenge.rw_redraft_k02_words_refused.prog) (w := w) (mg := mg) (base := base) F__law_sign_by
    have GWB := ok_word_by (P := PySem.Challenge.rw_redraft_k02_words_refused.prog) (w := w) (mg := mg) (base := base) F__law_word_by F__law_sign_by b__law_sign_by g__law_sign_by m_range
    have GNB := ok_no_blocks F_check_no_blocks GC F_check_rows.kp b_check_rows g_check_rows X_NoRow m_enumerate m_BLOCK_KINDS k_BLOCK_KINDS
    have GPl := ok_places (P := PySem.Challenge.rw_redraft_k02_words_refused.prog) (w := w) (mg := mg) (base := base) F_places_in m_enumerate m_range m_len
    have GRu := ok_run_at (P := PySem.Challenge.rw_redraft_k02_words_refused.prog) (w := w) (mg := mg) (base := base) F_run_at
    have GHR := ok_has_run F_has_run GPl F_places_in.kp b_places_in g_places_in GRu F_run_at.kp b_run_at g_run_at
    have GLR := ok_longest F_longest_run GHR F_has_run.kp b_has_run g_has_run
    have GIF := ok_is_free (P := PySem.Challenge.rw_redraft_k02_words_refused.prog) (w := w) (mg := mg) (base := base) F_is_free
    have GUs := ok_use (P := PySem.Challenge.rw_redraft_k02_words_refused.prog) (w := w) (mg := mg) (base := base) F_use m_range
    have GNF := ok_next_free F_next_free GIF F_is_free.kp b_is_free g_is_free m_len
    have GPP := ok_put_places F_put_places_of GPl F_places_in.kp b_places_in g_places_in GRu F_run_at.kp b_run_at g_run_at m_reversed
    have GPO := ok_pairs_of F_pairs_of GPl F_places_in.kp b_places_in g_places_in GRu F_run_at.kp b_run_at g_run_at GPP F_put_places_of.kp b_put_places_of g_put_places_of GIF F_is_free.kp b_is_free g_is_free GNF F_next_free.kp b_next_free g_next_free GUs F_use.kp b_use g_use
    have GRP := ok_row_parted (P := PySem.Challenge.rw_redraft_k02_words_refused.prog) (w := w) (mg := mg) (base := base) F_row_parted m_sorted m_len
    have GWP := ok_with_pairs F_with_pairs GRP F_row_parted.kp b_row_parted g_row_parted m_enumerate
    have GWi := ok_with_blocks F_with_blocks GNB F_check_no_blocks.kp b_check_no_blocks g_check_no_blocks GLR F_longest_run.kp b_longest_run g_longest_run GPO F_pairs_of.kp b_pairs_of g_pairs_of GWP F_with_pairs.kp b_with_pairs g_with_pairs m_list m_len
    have GToT := ok_toldT F_told GSB F_steps_between.kp b_steps_between g_steps_between GSO F_stretches_of.kp b_stretches_of g_stretches_of m_len m_tuple
    have GCh := ok_changed F_changed GToT F_told.kp b_told g_told GWi F_with_blocks.kp b_with_blocks g_with_blocks
    
    have GTaX := ok_tableX F_table GCTX F_check_text.kp b_check_text g_check_text
    have GApX := ok_apartX F_apart GTaX F_table.kp b_table g_table
    have GSBX := ok_stepsX F_steps_between GTaX F_table.kp b_table g_table
    have GToX := ok_toldX F_told GSBX F_steps_between.kp b_steps_between g_steps_between GSO F_stretches_of.kp b_stretches_of g_stretches_of
    have GChX := ok_changedX F_changed GToX F_told.kp b_told g_told GWi F_with_blocks.kp b_with_blocks g_with_blocks
    have GTa2 := ask2 (good_table GTa) GTaX
    have GAp2 := ask2 (good_apart GAp) GApX
    have GTo2 := ask2 (good_told GToT) GToX
    have GCh2 := ask2 (good_changed GCh) GChX
    have GJo := ok_joinedX F_joined GCTX F_check_text.kp b_check_text g_check_text
    have GPa := ok_partedX F_parted GCTX F_check_text.kp b_check_text g_check_text
    have GAs := ok_asked F__law_asked GJo F_joined.kp b_joined g_joined GPa F_parted.kp b_parted g_parted GTa2 F_table.kp b_table g_table GAp2 F_apart.kp b_apart g_apart GTo2 F_told.kp b_told g_told GCh2 F_changed.kp b_changed g_changed
    have GTr := ok_tried F__law_tried GAs F__law_asked.kp b__law_asked g__law_asked X_NoWord.g X_TooLong.g E_NoWord_NoWord E_TooLong_NoWord E_TooLong_TooLong
    have GAn := ok_any F__law_any GAs F__law_asked.kp b__law_asked g__law_asked c_RedraftError E_NoWord_RedraftError E_TooLong_RedraftError (excB_ok E1).1 (excB_ok E1).2 (excB_ok E2).1 (excB_ok E2).2 m_isinstance m_ValueError
    have GWr := ok_wrong (P := PySem.Challenge.rw_redraft_k02_words_refused.prog) (w := w) (mg := mg) (base := base) F__law_wrong
    have GPi := ok_pair F__law_pair GCe F__law_cell_at.kp b__law_cell_at g__law_cell_at GTr F__law_tried.kp b__law_tried g__law_tried GAn F__law_any.kp b__law_any g__law_any m_int m_range
    exact ok_law F_law GCe F__law_cell_at.kp b__law_cell_at g__law_cell_at GWB F__law_word_by.kp b__law_word_by g__law_word_by GWr F__law_wrong.kp b__law_wrong g__law_wrong GTr F__law_tried.kp b__law_tried g__law_tried GAn F__law_any.kp b__law_any g__law_any GPi F__law_pair.kp b__law_pair g__law_pair m_range m_int m_list m_tuple m_LONGEST m_MOST
end Rd
open PySem PySem.W PySem.Calls PyProof.Rows
set_option maxHeartbeats 0 in
theorem PySem.Challenge.cw_redraft_k02_words_refused_holds : PySem.Challenge.rw_redraft_k02_words_refused.Holds := by
  w_on; o_law
  refine HandSHeadRun.head_any (r := OpenLaw.row PySem.Challenge.rw_redraft_k02_words_refused) (q := view (OpenLaw.row PySem.Challenge.rw_redraft_k02_words_refused).prog [57]) (H := Rd.hk) (ob := Rd.ob) (M := 4000) (loose := Rd.loose) (d := HandSHeadRun.topDef (OpenLaw.row PySem.Challenge.rw_redraft_k02_words_refused).prog 57) (kwd := []) Rd.ob_eq
    (by kernel_rfl) (fun s => by kernel_rfl) Rd.run (by kernel_rfl) (by kernel_rfl) (by kernel_rfl) (by rfl) (by first | assumption | decide +kernel) (by decide +kernel) ⟨rfl, rfl, rfl, rfl, rfl, by decide +kernel⟩ ?hw ?hc
  case hw => w_witness2
  case hc =>
    refine LamX.walk_ofTsE (l := PySem.Challenge.rw_redraft_k02_words_refused) (n := 63) (k := 14) (x := "_law_script") (CX := fun w => L2.CX PySem.Challenge.rw_redraft_k02_words_refused.prog w) rfl (by decide) (by kernel_rfl) ⟨rfl, by decide, by decide⟩ ?F fun w H s e s' z => ?z
    case z =>
      obtain ⟨_, _, _, _, _, _, _, _, _, _, _, _, z⟩ := z
      exact z
    case F =>
      intro w mg fa h Y G hmg0
      obtain ⟨K, KX, c⟩ := Y
      have hmg : mg ("law" : PySem.Str) = some (.ref fa) := by
        have e : (HandSHeadRun.topDef (OpenLaw.row PySem.Challenge.rw_redraft_k02_words_refused).prog 57).name = ("law" : PySem.Str) := by kernel_rfl
        rw [← e]
        exact hmg0
      exact ⟨K, KX, Rd.facts KX G hmg c⟩
